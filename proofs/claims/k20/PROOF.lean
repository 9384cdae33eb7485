import PyProof.Rows.All
import Wide.All
import OpenK.AllK
import Wide.FinOn
import HandS.ForMost
import HandS.ForExc
import HandS.Lambda
import HandS.Nested
import HandS.EndTab
import HandS.Conv
import HandS.Zip
import HandS.SetFor
import HandS.TupAny
import HandS.Gcd
import HandS.Wide
import HandS.WideBits
import HandS.IsInst
import HandS.ExcIs
import HandS.Flow
import KE.KMathGC
import KE.GoesMore
import PyProof.EnumMake
import PyProof.Draws
import HandS.ExcInit
import HandS.ExcSuper
import HandS.ExcField
import HandS.FStr
import KE.KExcSuper
import KE.KSuper
import PySem.Str
import HandS.TupMul
import KE.KTupSum
import KE.KExcIs
import HandS.DictComp
import HandS.Strs
import KE.GoesZip
import HandS.Style
import HandS.More
import HandS.SortInts
import HandS.Deep
import HandS.Walk
import PyProof.TupleOfSeq
import HandS.WordsDict
import PySem.Challenge.RW_swapshelves_k20_whole_names_and_numbers
set_option Elab.async false
set_option linter.all false
set_option maxRecDepth 100000
set_option genInjectivity false
set_option genSizeOf false
set_option genSizeOfSpec false
section
open PySem PySem.W PyProof.Rows
set_option maxHeartbeats 0
open_top head for PySem.Challenge.rw_swapshelves_k20_whole_names_and_numbers
end
set_option maxHeartbeats 4000000
namespace Sv
open PySem PySem.Spec PyProof.Rows L2 LamX NdefX
/-- a lambda: its text, what it captured, its defaults, its code object -/
structure LF where
  params : Arguments
  body : Expr
  scope : Scope
  qual : Str
  cl : List (Str × Addr)
  dV : Value
  c : Addr
def LF.fd (L : LF) (pm ctv : Value) : FuncData :=
  { PySem.W.kla_fn "<lambda>" L.qual L.params L.body L.scope L.cl pm (.ref L.c) ctv with defaults := L.dV }
def LamO (f : Addr) (L : LF) : HO := .ext fun h => ∃ (od : Option Addr) (sl : Array (Option Value)) (pm ctv : Value), h.get? f = some (⟨.type "function", od, .func (L.fd pm ctv), sl⟩ : Obj)
theorem lamO_tbl {f : Addr} {L : LF} (ps : Array Value) : LamO f L ≠ .tbl ps := fun z => by
  unfold LamO at z
  cases z
/-- what the defaults' place holds -/
def DflAt (H : Hp) (dV : Value) (dvs : List V) : Prop := (dvs = [] ∧ dV = .none) ∨ (dvs ≠ [] ∧ ∃ T, dV = .ref T ∧ H T = some (.tup dvs))
end Sv
set_option maxHeartbeats 4000000
namespace Sv
open PySem PySem.Spec PyProof.Rows L2 LamX NdefX
/-- the promise of the lambda L at f, its cells holding ws -/
structure LOk (P : Program) (w : World) (K : PySem.W.Frag) (mg : Str → Option Value) (base : Heap) (k : Nat) (f : Addr) (L : LF) (fr : List Str) (dvs : List V) (tl : List (Option V) → XK → Hp → VK → Prop) : Prop where
  run : ∀ (A : Around) (outer : List Env) (s : Shared) (H : Hp) (ws : List (Option V)) (Q : VK) (E : XK), Room k A → Env0 P w K mg base A outer s H → H f = some (LamO f L) → H L.c = some (CodeO L.c L.qual) → DflAt H L.dV dvs →
    CellsAt L.cl fr ws s.heap H → tl ws E H Q → codeAny (model P w) A (.call (.ref f) ⟨[], []⟩) (CR (L2.CX P w) outer P w H s Q E) s
section
variable {P : Program} {w : World} {K : PySem.W.Frag} {mg : Str → Option Value} {base : Heap} {N ps fr : List Str} {L : LF} {f : Addr} {k : Nat} {dvs : List V} {tl : List (Option V) → XK → Hp → VK → Prop}
theorem LOk.mono {j : Nat} (o : LOk P w K mg base j f L fr dvs tl) (h : j ≤ k) : LOk P w K mg base k f L fr dvs tl := ⟨fun A outer s H ws Q E hr => o.run A outer s H ws Q E (hr.mono h)⟩
end
end Sv
set_option maxHeartbeats 4000000
set_option maxHeartbeats 4000000
namespace Sv
open PySem PySem.Spec PyProof.Rows L2
section
open AutoSeq1 (wpAny_loadPart')
theorem enum_newT (l : Addr) (items : Array Value) (n : Nat) (dct : Option Addr) (sl : Array (Option Value)) :
    Meets (Builtin.«enumerate.__new__» ⟨[.type "enumerate", .ref l], []⟩) (fun _ R s => s.heap.get? l = some { cls := .type "tuple", dict := dct, data := .seq items n, slots := sl } ∧
      R (.ok (.ret (.ref (s.heap.push { cls := .type "tuple_iterator", data := .fields #[.ref l, .int 0 0] }).objs.size)))
        { s with heap := (s.heap.push { cls := .type "tuple_iterator", data := .fields #[.ref l, .int 0 0] }).push { cls := .type "enumerate", data := .fields #[.none, .bool false, .ref s.heap.objs.size, rawInt 0, .none, .none] } }) :=
  .of_wp fun prog w A R s h => by
    obtain ⟨hp, g, d, tk, os⟩ := s
    obtain ⟨hl, h⟩ := h
    have hsub := sub_enumerate
    have hL : Heap.IsTuple (Shared.heap ⟨hp, g, d, tk, os⟩) l items := ⟨_, hl, rfl, n, rfl⟩
    wp_walk using wpAny_loadPart' hl
    refine wpAny_stack_any fun st => wpAny_pure ?_
    split
    · rename_i c _ _ _ _ _
      cases (c == Value.type "enumerate")
      · wp_walk using wpAny_loadPart' hl, wpAny_pyIter_tuple hL
        exact ⟨_, rfl, h⟩
      · wp_walk using wpAny_loadPart' hl, wpAny_pyIter_tuple hL
        exact ⟨_, rfl, h⟩
    · wp_walk using wpAny_loadPart' hl, wpAny_pyIter_tuple hL
      exact ⟨_, rfl, h⟩
end
section
variable {prog : Program} {w : World} {A : Around} {E : Value → Shared → Prop} {s : Shared}
theorem call_enumT {l : Addr} {items : Array Value} {Q : Value → Shared → Prop} (hL : s.heap.IsTuple l items)
    (h : ∀ h', IsEnum h' (s.heap.objs.size + 1) s.heap.objs.size 0 .none → h'.IsTupleIter s.heap.objs.size l 0 → h'.objs.size = s.heap.objs.size + 2 → (∀ b o, s.heap.get? b = some o → h'.get? b = some o) → Q (.ref (s.heap.objs.size + 1)) { s with heap := h' }) :
    wpAny (model prog w) A (call (.type "enumerate") [.ref l]) Q E s := by
  obtain ⟨⟨c, dct, dt, sl⟩, hl, hc, n, hd⟩ := hL
  obtain rfl : c = .type "tuple" := hc
  obtain rfl : dt = .seq items n := hd
  refine callType_new F.called_enumerate (by decide) (F.typeCall_enumerate_1 _) (F.newCall_enumerate_1 _) (fun obj => F.args_object_init_2 obj _) F.entry_enumerate_new (enum_newT l items n dct sl) ⟨hl, ?_⟩
  have hz : ∀ o : Obj, (s.heap.push o).objs.size = s.heap.objs.size + 1 := fun o => Heap.size_push ..
  have g2 : ∀ (o1 o2 : Obj), o2.isFreed = false → ((s.heap.push o1).push o2).get? (s.heap.objs.size + 1) = some o2 := fun o1 o2 e => by
    have q := Heap.get?_push_size (s.heap.push o1) (o := o2) e
    rw [hz] at q
    exact q
  show _ ∧ _
  rw [hz]
  refine ⟨⟨_, g2 _ _ rfl, rfl⟩, h _ (g2 _ _ rfl) ⟨_, Heap.get?_push_of_some _ (Heap.get?_push_size _ rfl), rfl, rfl⟩ (by rw [Heap.size_push, hz]) fun b o y => Heap.get?_push_of_some _ (Heap.get?_push_of_some _ y)⟩
end
/-- a tuple's items with their numbers, each in a new pair -/
def IteT (K : PySem.W.Frag) (a : Addr) : It :=
  ⟨fun i H => ∃ (xs : List V) (x : V), SqT K H a xs ∧ xs[i]? = some x, fun i H v H' => ∃ T x, v = .ref T ∧ H T = none ∧ H' = upd H T (.tup [.int (i : Nat), x]) ∧ ∀ xs, SqT K H a xs → xs[i]? = some x,
    fun i H => ∃ xs : List V, SqT K H a xs ∧ i = xs.length⟩
theorem turn_enumT {P : Program} {w : World} {K : PySem.W.Frag} {elts : List Expr} {kk : Nat} {tpos : Pos} (a e it : Addr) (hai : a ≠ it) (hea : e ≠ a) :
    Turn P w K (.Tuple elts kk tpos) (IteT K a) [e, it] e (fun i h => (∃ old, IsEnum h e it ((i : Nat) : Int) old) ∧ h.IsTupleIter it a i ∧ e ≠ it) where
  mem := by simp
  obj := fun i h st b hb => by
    obtain ⟨⟨old, he⟩, ⟨o, ho, hc, hd⟩, _⟩ := st
    rcases (by simpa using hb : b = e ∨ b = it) with z | z
    · subst z
      exact ⟨_, he, fun v q => nomatch q⟩
    · subst z
      exact ⟨o, ho, fun v q => by rw [hd] at q; cases q⟩
  keep := fun i h h' st k => ⟨st.1.elim fun old he => ⟨old, k e (by simp) _ he⟩, st.2.1.at fun o q => k it (by simp) o q, st.2.2⟩
  item := by
    intro X hP hw hK hc i pins s σ H E I hf st hg
    subst hP hw hK
    obtain ⟨⟨old, he⟩, hit, hne⟩ := st
    obtain ⟨xs, x, hq, hx⟩ := hg
    obtain ⟨its, rv, p, hz⟩ := I.tuple hq
    obtain ⟨u, hu, ru⟩ := rv.get hx
    have hi : i < its.toArray.size := by
      obtain ⟨hlt, _⟩ := List.getElem?_eq_some_iff.mp hu
      simpa using hlt
    have hel : e < s.heap.objs.size := Heap.lt_size he
    have hil : it < s.heap.objs.size := by obtain ⟨_, q, _⟩ := hit; exact Heap.lt_size q
    have hh : X.A.in1.handled = none := by
      have := I.ok.hd hc
      simpa using this
    refine wpAny_pyNext_enum_itemD (Draws.tuple hh it a hai its.toArray) he ⟨hit, p⟩ hi hne (by simp; exact ⟨hne, hea⟩) fun y h' tk hy ho hst' hT hsz hk => ?_
    obtain rfl : y = u := by
      have q : its.toArray[i]? = some y := hy
      rw [show its.toArray[i]? = some u by simpa using hu] at q
      exact (Option.some.inj q).symm
    refine ⟨_, rfl, wpAny_letOwnedTupleGo_enum (s := { s with heap := h', toks := tk + 1 }) ho fun h'' he' sb => ?_⟩
    have hT2 : h''.get? s.heap.objs.size = some { cls := .type "tuple", data := .seq #[.int i tk, y] } := (sb.2 _ (Nat.ne_of_gt hel)).trans hT
    have new : ObjOk X.prog X.w (upd H s.heap.objs.size (.tup [.int (i : Nat), x])) h'' s.heap.objs.size (.tup [.int (i : Nat), x]) :=
      ⟨by show 2 ≤ sizeLine; decide, [.int i tk, y], .cons ⟨_, rfl⟩ (.cons ru .nil), ⟨_, hT2, rfl, _, rfl⟩⟩
    have I1 : Inv X pins σ (upd H s.heap.objs.size (.tup [.int (i : Nat), x])) { s with heap := h'', toks := tk + 1 } :=
      I.turnedNew (ch := [e, it]) (fun b ob hb q => (sb.2 b (fun z => hb (by simp [z]))).trans (hk b ob (fun z => hb (by simp [z])) (fun z => hb (by simp [z])) q)) hf (Nat.le_refl _) new
    refine ⟨.ref s.heap.objs.size, _, I1, rfl, ⟨_, x, rfl, I.hok.fresh (Nat.le_refl _), rfl, fun ys hy => by rw [I.tuple_inj hy hq]; exact hx⟩, ⟨⟨y, ?_⟩, hst'.1.at fun o q => (sb.2 it (Ne.symm hne)).trans q, hne⟩, fun b hb => ?_⟩
    · rw [show ((i + 1 : Nat) : Int) = (i : Int) + 1 by omega]
      exact he'
    · have hb' : b < s.heap.objs.size := by
        rcases (by simpa using hb : b = e ∨ b = it) with z | z
        · rw [z]; exact hel
        · rw [z]; exact hil
      rw [upd_ne (Nat.ne_of_lt hb')]
      exact (hf b hb).1
  done := by
    intro X hP hw hK hc i pins s σ H E I hf st hg
    subst hP hw hK
    obtain ⟨⟨old, he⟩, hit, hne⟩ := st
    obtain ⟨xs, hq, hx⟩ := hg
    obtain ⟨its, rv, p, hz⟩ := I.tuple hq
    obtain ⟨f0, f1, f2, f3, f4, f5⟩ := hf it (by simp)
    have hl := rv.length
    have hh : X.A.in1.handled = none := by
      have := I.ok.hd hc
      simpa using this
    refine wpAny_pyNext_enum_endD (Draws.tuple hh it a hai its.toArray) he ⟨?_, p⟩ fun h' eb => ⟨rfl, I.turned (t' := s.toks) (fun b o hb q => eb b o hb q) f0 f1 f3 f4 f5⟩
    rw [List.size_toArray, ← hl, ← hx]
    exact hit
  self := fun A i s Q E st h => let ⟨⟨_, he⟩, _⟩ := st; wpAny_pyIter_enum he h
def iEnumT (K : PySem.W.Frag) (ta : TA) : TI := fun σ H R => ta σ H fun vs H1 => ∃ a xs, vs = [.ref a] ∧ SqT K H1 a xs ∧ R (IteT K a) H1
theorem pi_enumT {X : Cx} {e : Expr} {ta : TA} {p pos tpos : Pos} {elts : List Expr} {kk : Nat} (hg : Gl X "enumerate") (hm : X.mg "enumerate" = none) (ha : PA X [e] ta) (hs : starEach [e] X.env = [(false, eval e X.env)] := by rfl) :
    PI X (.Tuple elts kk tpos) (.Call (.Name "enumerate" p) [e] [] pos) (iEnumT X.K ta) := by
  refine ⟨fun pins s σ H R I h => ?_⟩
  refine Call_ (ld_blt I hg hm boot_enumerate (PyProof.Rows.callWith_type1 (thn (ha.run pos pins s σ H _ I h) fun us s1 ⟨vs, H1, I1, r1, a, xs, ex, hq, q⟩ => ?_) hs rfl))
  subst ex
  obtain rfl := r1.ref1
  obtain ⟨its, rv, p', hz⟩ := I1.tuple hq
  have hal : a < s1.heap.objs.size := (let ⟨_, q, _⟩ := p'; Heap.lt_size q)
  refine call_enumT p' fun h' he hit hsz hk => wpAny_pyIter_enum he ?_
  have I2 : Inv X pins σ H1 { s1 with heap := h' } := I1.kept (t' := s1.toks) hk
  refine ⟨s1.heap.objs.size + 1, [s1.heap.objs.size + 1, s1.heap.objs.size], _, _, H1, rfl, I2, turn_enumT a (s1.heap.objs.size + 1) s1.heap.objs.size (Nat.ne_of_lt hal) (Nat.ne_of_gt (Nat.lt_succ_of_lt hal)), ⟨⟨.none, he⟩, hit, Nat.succ_ne_self _⟩, fun b hb => ?_, q⟩
  have hle : s1.heap.objs.size ≤ b := by
    rcases (by simpa using hb : b = s1.heap.objs.size + 1 ∨ b = s1.heap.objs.size) with z | z
    · rw [z]; exact Nat.le_add_right _ _
    · rw [z]; exact Nat.le_refl _
  exact I1.fpOk hle (I1.hok.fresh hle)
theorem for_enumT {K : PySem.W.Frag} {a : Addr} {xs : List V} {g : TG} {tb : TS} {D : Ends} {σ : L2.St} {H : Hp} (Pv : Nat → L2.St → Hp → Prop) (h0 : Pv 0 σ H) (hl : ∀ i σ H, i ≤ xs.length → Pv i σ H → SqT K H a xs)
    (turn : ∀ i x σ H T, xs[i]? = some x → Pv i σ H → H T = none → g (.ref T) σ (upd H T (.tup [.int (i : Nat), x])) fun σ' H' => tb { nx := fun σ2 H2 => Pv (i + 1) σ2 H2, rt := D.rt, bk := D.nx, ct := fun σ2 H2 => Pv (i + 1) σ2 H2 } σ' H')
    (after : ∀ σ H, Pv xs.length σ H → D.nx σ H) : ∃ W : Nat → Nat → L2.St → Hp → Prop, (∃ m, W 0 m σ H) ∧ ∀ i m σ H, W i m σ H →
      ((IteT K a).stop i H ∧ D.nx σ H) ∨ ((IteT K a).go i H ∧ ∃ Nx : L2.St → Hp → Prop, (∀ σ' H', Nx σ' H' → ∃ m', m' < m ∧ W (i + 1) m' σ' H') ∧ ∀ x H', (IteT K a).yld i H x H' → g x σ H' fun σ2 H2 => tb { nx := Nx, rt := D.rt, bk := D.nx, ct := Nx } σ2 H2) := by
  refine ⟨fun i m σ H => i + m = xs.length ∧ Pv i σ H, ⟨xs.length, Nat.zero_add _, h0⟩, fun i m σ H ⟨em, hP⟩ => ?_⟩
  have hS := hl i σ H (by omega) hP
  by_cases hi : i < xs.length
  · have gx : xs[i]? = some xs[i] := List.getElem?_eq_getElem hi
    refine .inr ⟨⟨xs, _, hS, gx⟩, fun σ' H' => Pv (i + 1) σ' H', fun σ' H' h => ⟨m - 1, by omega, by omega, h⟩, fun x H' hy => ?_⟩
    obtain ⟨T, y, rfl, nT, rfl, hy⟩ := hy
    have ey : y = xs[i] := Option.some.inj ((hy xs hS).symm.trans gx)
    rw [ey]
    exact turn i _ σ H T gx hP nT
  · have e : i = xs.length := by omega
    refine .inl ⟨⟨xs, hS, e⟩, after σ H ?_⟩
    rw [← e]
    exact hP
def rLcm : List V → Hp → VK → Prop := fun vs H Q => ∃ a b : Nat, vs = [.int a, .int b] ∧ a < 2 ^ 64 ∧ b < 2 ^ 64 ∧ Q (.int ((Nat.lcm a b : Nat) : Int)) H
theorem cr_lcm {X : Cx} : CallR X (.builtin "math.lcm") rLcm := by
  intro pins s σ H vs us Q I r h
  obtain ⟨a, b, rfl, ha, hb, q⟩ := h
  obtain ⟨t, u, rfl⟩ := Vals.int2 r
  exact PySem.W.mc_lcm (by simpa using ha) (by simpa using hb) fun _ => ⟨.int _, H, I.tok _, ⟨_, rfl⟩, by simpa using q⟩
theorem nodup_sub_len : ∀ {l m : List Int}, l.Nodup → (∀ x ∈ l, x ∈ m) → l.length ≤ m.length
  | [], _, _, _ => Nat.zero_le _
  | x :: r, m, nd, h => by
    have hx : x ∈ m := h x (List.mem_cons_self ..)
    have nr := (List.nodup_cons.mp nd)
    have ih := nodup_sub_len (l := r) (m := m.erase x) nr.2 fun y hy => (List.mem_erase_of_ne (fun e => nr.1 (by rw [← e]; exact hy))).mpr (h y (List.mem_cons_of_mem _ hy))
    rw [List.length_erase_of_mem hx] at ih
    have : 0 < m.length := List.length_pos_of_mem hx
    show r.length + 1 ≤ m.length
    omega
theorem nodup_of_len : ∀ {l m : List Int}, m.Nodup → (∀ x ∈ m, x ∈ l) → l.length ≤ m.length → l.Nodup
  | [], _, _, _, _ => List.nodup_nil
  | x :: r, m, nd, h, hl => by
    have hx : x ∉ r := fun hm => by
      have q := nodup_sub_len (l := m) (m := r) nd fun y hy => (List.mem_cons.mp (h y hy)).elim (fun e => by rw [e]; exact hm) id
      simp at hl
      omega
    refine List.nodup_cons.mpr ⟨hx, nodup_of_len (m := m.erase x) (nd.erase x) (fun y hy => ?_) ?_⟩
    · have hm := List.mem_of_mem_erase hy
      rcases List.mem_cons.mp (h y hm) with e | e
      · rw [e] at hy
        exact absurd hy (nd.not_mem_erase)
      · exact e
    · by_cases hm : x ∈ m
      · rw [List.length_erase_of_mem hm]
        simp at hl
        omega
      · rw [List.erase_of_not_mem hm]
        simp at hl
        omega
/-- how many: all of them, just where none stands twice -/
def tLenSetT (K : PySem.W.Frag) (ta : TE) : TE := fun σ H Q => ta σ H fun x H1 => ∃ (l : Addr) (ns : List Int), x = .ref l ∧ SqT K H1 l (ns.map V.int) ∧ ns.length ≤ 4000 ∧ ∀ c : Nat, c ≤ ns.length → (c = ns.length ↔ ns.Nodup) → Q (.int c) H1
theorem pe_lenSetT {X : Cx} {a : Expr} {ta : TE} {p p2 q pos : Pos} (hg : Gl X "len") (hm : X.mg "len" = none) (hg2 : Gl X "set") (hm2 : X.mg "set" = none) (ha : PE X a ta) (hc : X.calm = true := by rfl)
    (na : starEach [a] X.env = (false, eval a X.env) :: starEach [] X.env := by rfl) : PE X (.Call (.Name "len" p) [.Call (.Name "set" p2) [a] [] q] [] pos) (tLenSetT X.K ta) := by
  refine ⟨fun pins s σ H Q I h => Call_ (ld_blt I hg hm boot_len ?_)⟩
  refine PyProof.Rows.callWith_builtin1 (PyProof.Rows.args_cons (Call_ (ld_blt I hg2 hm2 boot_set ?_)) rfl) rfl rfl
  refine PyProof.Rows.callWith_type1 (PyProof.Rows.args_cons (thn (ha.run pins s σ H _ I h) fun v s1 ⟨x, H1, I1, r1, q1⟩ => PyProof.Rows.args_nil ?_) na) na rfl
  obtain ⟨l, ns, rfl, hq, hl, q1⟩ := q1
  cases r1
  obtain ⟨its, r, pl, hz⟩ := I1.tuple hq
  refine call_set_tupI ns (I1.ok.hd hc) pl (by simpa using RZ.intsAre_vals r) (by unfold scanBound; omega) fun h' tk c hS hcl hk => PyProof.Rows.args_nil ?_
  obtain ⟨o, es, ep, t, ho, hex, hd, _, nd, hmem, _, hf, hn, _⟩ := hS
  have I2 : Inv X pins σ H1 { s1 with heap := h', toks := tk } := I1.kept hk
  have hmm : ∀ k, k ∈ es.toList.map keyOf ↔ k ∈ ns := fun k => by rw [← hmem k]; exact decide_eq_true_iff
  have hlen : (es.toList.map keyOf).length = c := by rw [List.length_map, Array.length_toList]; exact hn
  refine call_len_set ho hex hd hf (by rw [hn] <;> omega) ⟨.int c, H1, I2.tok _, ⟨_, by rw [hn]⟩, q1 c hcl ⟨fun e => ?_, fun e => ?_⟩⟩
  · exact nodup_of_len nd (fun x hx => (hmm x).mp hx) (by rw [hlen, e]; exact Nat.le_refl _)
  · have q := nodup_sub_len e fun x hx => (hmm x).mpr hx
    rw [hlen] at q
    omega
end Sv
set_option maxHeartbeats 4000000
namespace Sv
open PySem PySem.Spec PyProof.Rows L2
def topS (i : Nat) : Stmt := PySem.Challenge.pw_swapshelves_k20_whole_names_and_numbers.main.body.getD i (.Pass ⟨0, 0, 0, 0⟩)
abbrev sInvalidPlan : Stmt := topS 3
abbrev sWithin : Stmt := topS 11
abbrev sCheckCount : Stmt := topS 12
abbrev sCheckTicks : Stmt := topS 13
abbrev sCheckBetween : Stmt := topS 14
abbrev sPattern : Stmt := topS 20
abbrev sCheckPlan : Stmt := topS 21
abbrev sCheckSizes : Stmt := topS 22
abbrev sCheckRoutes : Stmt := topS 23
abbrev sIsRoute : Stmt := topS 24
abbrev sPlacesOf : Stmt := topS 25
abbrev sCheckShelf : Stmt := topS 26
abbrev sShelvesOf : Stmt := topS 27
abbrev sNumPlaces : Stmt := topS 28
abbrev sVisitsIn : Stmt := topS 29
abbrev sCommon : Stmt := topS 30
abbrev sRoutePat : Stmt := topS 31
abbrev sJoin : Stmt := topS 33
abbrev sSplit : Stmt := topS 34
abbrev sAfterTick : Stmt := topS 35
abbrev sLap : Stmt := topS 37
abbrev sEffectTicks : Stmt := topS 39
abbrev sInverse : Stmt := topS 40
abbrev sRepeated : Stmt := topS 41
abbrev sOrderOf : Stmt := topS 42
abbrev sCyclesOf : Stmt := topS 43
abbrev sCycleFrom : Stmt := topS 44
abbrev sMoved : Stmt := topS 48
abbrev sStateOf : Stmt := topS 49
abbrev sParcelsIn : Stmt := topS 50
abbrev sCheckState : Stmt := topS 51
abbrev sFits : Stmt := topS 52
abbrev sTupOf : Stmt := topS 53
abbrev sParcels : Stmt := topS 54
abbrev sCheckParcel : Stmt := topS 55
abbrev sPlaceOfParcel : Stmt := topS 56
abbrev sStartOf : Stmt := topS 57
abbrev sAdvance : Stmt := topS 59
abbrev sPeriod : Stmt := topS 60
abbrev sLeftsJ : Stmt := topS 62
abbrev sCountIn : Stmt := topS 63
abbrev sTimesLeft : Stmt := topS 66
abbrev sStamps : Stmt := topS 67
abbrev sStampsJ : Stmt := topS 68
abbrev sFamilies : Stmt := topS 70
abbrev sFirstMeeting : Stmt := topS 71
abbrev sMarks : Stmt := topS 72
abbrev sShelvesLap : Stmt := topS 73
abbrev sMarksLap : Stmt := topS 74
abbrev sPairs : Stmt := topS 75
abbrev sPlanSwaps : Stmt := topS 77
abbrev sFewest : Stmt := topS 78
abbrev sCheckArr : Stmt := topS 79
abbrev sSwapsBetween : Stmt := topS 80
abbrev sExchange : Stmt := topS 81
abbrev sMix : Stmt := topS 83
abbrev sNext : Stmt := topS 84
abbrev sPlan : Stmt := topS 86
abbrev sState : Stmt := topS 87
abbrev sTurned : Stmt := topS 92
abbrev sRenamed : Stmt := topS 93
abbrev sLawMoved : Stmt := topS 94
abbrev sLawMore : Stmt := topS 95
abbrev sMoreRight : Stmt := topS 96
abbrev sLaw : Stmt := topS 97
end Sv
set_option maxHeartbeats 4000000
namespace Sv
open PySem PySem.Spec PyProof.Rows L2 NdefX
section
open PySem.W PySem.Calls
variable {prog : Program} {w : World} {A : Around} {E : Value → Shared → Prop} {h : Heap} {g : Array GenState} {d : Drawn} {t : Nat} {os : OsState}
variable {nm q : Str} {C N : Addr} {bs bm : List Value} {hdct : Bool} {sn : List Str} {sub : List Value} {ab : Bool} {col : Option Bool} {dd : Option Addr} {k0 k1 k2 k3 k5 : Option Value}
/-- the bound ValueError.__init__, called -/
theorem call_mw {u e t0 : Addr} {rest : List Value} {Q : Value → Shared → Prop}
    (hC : h.get? C = some (excClassObj nm q C N bs bm hdct sn sub ab col dd k0 k1 k2 k3 k5 "ValueError.__new__")) (he : h.get? e = some (HandSPX.excO C t0)) (hu : h.get? u = some (kxs_mw "ValueError.__init__" e)) (hrest : rest.length ≤ sizeLine)
    (hq : ∀ h' t1, (∀ b o, b ≠ e → h.get? b = some o → h'.get? b = some o) → h'.get? e = some (HandSPX.excO C t1) → Q .none ⟨h', g, d, t, os⟩) :
    wpAny (model prog w) A (call (.ref u) rest) Q E ⟨h, g, d, t, os⟩ := by
  refine wpAny_call (codeAny_of_tree ?_)
  show wpAny _ A.in1 (callAny (.ref u) ⟨rest, []⟩) _ _ _
  simp only [callAny]
  refine wpAny_bind (wpAny_load hu ?_)
  simp only [kxs_mw, show (Value.type "method-wrapper" == Value.type "method" || Value.type "method-wrapper" == Value.type "builtin_function_or_method" || Value.type "method-wrapper" == Value.type "method-wrapper") = true by decide, if_true]
  refine W.KFB.if_so (by decide) ?_
  refine wpAny_bind (ESX.check_bound F.excBase_ValueError hC he rfl ?_)
  refine wpAny_bind (wpAny_pure (wpAny_pure ?_))
  refine ⟨Code.quiet_builtin _ (by decide +kernel), codeAny_builtin F.excBase_ValueError.initEntry ?_⟩
  rw [Around.under_plainId F.excBase_ValueError.init.plain _]
  wp_walk
  refine hq _ h.objs.size (fun b o hb ho => ?_) ?_
  · rw [Heap.get?_update_other _ _ (Ne.symm hb)]
    exact Heap.get?_push_of_some _ ho
  · rw [Heap.get?_update_self _ (Heap.get?_push_of_some _ he) rfl]
    rfl
end
/-- what is asked of such a class and of its __init__ -/
structure SupF (P : Program) (K : PySem.W.Frag) (mg : Str → Option Value) (C fI cc : Addr) (F : NF) (ar : Arg) : Prop where
  T : OexC K C
  cl : F.cl = [(("__class__" : Str), cc)]
  cell : ∃ cl cld csl, K.lookup cc = some ⟨cl, cld, .cell (some (.ref C)), csl⟩
  code : PySem.W.codeIn K (.ref F.c) F.qual = true
  file : ∃ (ccl : Value) (cdd : Option Addr) (vs : Array Value) (ccs : Array (Option Value)) (fl : Str) (tf : Tok), K.lookup F.c = some ⟨ccl, cdd, .fields vs, ccs⟩ ∧ vs[2]? = some (.str fl tf) ∧ ((P.main.file : Str) == fl) = true
  top : (P.main.scope.names.lookup ("super" : Str)).isSome = false
  sup : mg "super" = none
  ks : F.scope.names.lookup ("super" : Str) = some .globalImplicit
  kc : F.scope.names.lookup ("__class__" : Str) = some .free
  hp : (F.params.posonlyargs ++ F.params.args).head? = some ar
  hs : PySem.W.ks_superIn K C C "__init__" = some (some (.builtin "ValueError.__init__"))
  ho : PySem.W.nsIn K PySem.cStatics "thirdparty.any" = some none
  hB : PySem.W.subIn K (.ref C) (.type "ValueError") = some true
  hm : PySem.W.mroIn K C (.ref C) = some true
section
variable {P : Program} {w : World} {K : PySem.W.Frag} {mg : Str → Option Value} {base : Heap} {C fI cc : Addr} {F : NF} {ar : Arg}
theorem boot_super : bootBuiltins "super" = some (.type "super") := by decide +kernel
/-- super().__init__(e) as a statement -/
theorem sup_stmt {X : Cx} {pins : List (Addr × Obj)} {σ : L2.St} {H : Hp} {s : Shared} {a : Addr} {e : Expr} {te : TE} {p0 p1 p2 p3 p4 : Pos} {body : List Stmt} {Q : Flow → Shared → Prop} (S : SupF X.prog X.K X.mg C fI cc F ar) (I : Inv X pins σ H s)
    (henv : X.env = envF F fI X.env.locals) (hf : ∃ oc od osl doc pm ctv, X.K.lookup fI = some ⟨oc, od, .func (F.fd doc pm ctv), osl⟩) (hi : X.N[0]? = some ar.arg) (hσ : σ[0]? = some (some (.ref a))) (hv : X.env.scope.names.lookup ar.arg = some .local) (ha : H a = some (exo a C none)) (he : PE X e te)
    (hst : starEach [e] X.env = (false, eval e X.env) :: starEach [] X.env)
    (hev : ∃ pl, eval (.Call (.Attribute (.Call (.Name "super" p0) [] [] p1) "__init__" p2) [e] [] p3) X.env = (do
      let ov ← attributeBase (.Call (.Name "super" p0) [] [] p1) "__init__" X.env (eval (.Call (.Name "super" p0) [] [] p1) X.env)
      standAt p2.atName
      let (f, first) ← holding [ov] (getMethod ov "__init__" pl)
      callWith p3 f first (backTo p3 (starEach [e] X.env)) []))
    (hin : interactive X.env = false) (hsw : swapsWith (.Call (.Attribute (.Call (.Name "super" p0) [] [] p1) "__init__" p2) [e] [] p3) none p4.line X.env = pure false)
    {W : VK} (h : te σ H W) (hW : ∀ v H1, W v H1 → H1 a = some (exo a C none) ∧ ∀ s', Inv X pins σ H1 s' → Q .next s') :
    _root_.PySem.wpAt (model X.prog X.w) X.A (.func body X.env) (exec (.Expr (.Call (.Attribute (.Call (.Name "super" p0) [] [] p1) "__init__" p2) [e] [] p3) p4) X.env) Q X.xe s := by
  obtain ⟨pl, hev⟩ := hev
  refine PySem.ks_wpAt_Expr_any ?_ hin hsw
  refine PySem.ks_wpAt_MethodCall (pl := pl) ?_ hev
  have KX : X.K.In s.heap := I.kIn
  obtain ⟨cl, cld, csl, hcell⟩ := S.cell
  obtain ⟨ccl, cdd, vs, ccs, fl, tf, hcode, hvs, hfile⟩ := S.file
  obtain ⟨oc, od, osl, doc, pm, ctv, hfo⟩ := hf
  obtain ⟨nm, q, N, bs, bm, sn, sub, ab, col, dd, k0, k1, k2, k3, k5, hC, hbm⟩ := S.T.cls
  have hcl : PySem.W.clsIn X.K C = some { name := nm, bases := bs, mro := .ref C :: bm, ns := N, qualname := q, hasDict := true, slotNames := sn, subclasses := sub, abstract := ab, collection := col, hasDel := false } := by unfold PySem.W.clsIn; rw [hC] <;> rfl
  have ek : ∀ y, X.env.kindOf y = F.scope.names.lookup y := fun y => by rw [henv]; rfl
  have efn : X.env.func = some fI := by rw [henv]
  have eco : X.env.code = .ref F.c := by rw [henv]
  have ecl : X.env.cells = F.cl := by rw [henv]
  refine PySem.ks_wpAt_super_base (ar := ar) (by rw [ek]; exact S.ks) (by rw [ek]; exact S.kc) (by decide) efn (KX _ _ hfo) rfl S.hp eco (KX _ _ hcode) rfl hvs hfile S.top ?_
  obtain ⟨mb, hb1, hb2⟩ := I.mod.blt
  refine PySem.W.ks_loadName_global I.ok.kind (by rw [ek]; exact S.ks) (Calls.loadGlobal_builtin (by rw [I.ok.glob]; exact I.mod.glob.keeps I.bk) S.sup (by rw [I.ok.blt]; exact hb1.keeps I.bk) ((hb2 _ (by decide +kernel)).trans boot_super) ⟨rfl, ?_⟩)
  refine wpAny_loadName_free I.ok.kind (by rw [ek]; exact S.kc) (c := cc) (by rw [ecl, S.cl]; rfl) ⟨_, KX _ _ hcell, rfl⟩ ?_
  obtain ⟨m, hn, hl⟩ := I.loc
  obtain ⟨ua, rua, la⟩ := hl 0 ar.arg (.ref a) hi hσ (.inl hv)
  obtain rfl : ua = Value.ref a := rua
  have hma : m ar.arg = some (.ref a) := by
    rcases la with ⟨_, z⟩ | ⟨z, _⟩
    · exact z
    · have hv' : X.env.kindOf ar.arg = some .local := hv
      rcases z with z | z <;> rw [hv'] at z <;> cases z
  refine wpAny_loadName_local I.ok.kind hv hn hma ?_
  refine PySem.ks_wpAny_isType_cls (KX _ _ hC) rfl ⟨rfl, ?_⟩
  obtain ⟨t1, hoa⟩ := exo_at I.hok ha
  obtain ⟨hp, g, d, tk, os⟩ := s
  refine PySem.ks_wpAny_call_super (C := C) (KX _ _ hC) rfl hoa rfl (fun c z => nomatch z) (PySem.W.looks_mroIn KX S.hm) (fun h' hso kp => ?_)
  have I1 : Inv X pins σ H ⟨h', g, d, tk, os⟩ := I.kept (t' := tk) kp
  have KX1 := I1.kIn
  have IA : PySem.W.InstAt h' a { cls := .ref C, dict := none, data := .fields #[.ref t1, .none, .none, .none, .bool false, .none] } C none := ⟨kp _ _ hoa, rfl, rfl, trivial⟩
  have hm := S.hs
  unfold PySem.W.ks_superIn at hm
  rw [hcl] at hm
  refine PySem.W.kxs_getMethod PySem.W.kxs_ValueError hso (PySem.W.looks_opaque KX1 S.ho) (l₀ := .ref C :: bm) (fun A Q E s k q => wpAny_bind ((PySem.W.looks_clsIn KX1 hcl) A _ E s k (wpAny_pure q))) rfl KX1 hm (IA.type.andThen (PySem.W.looks_subIn KX1 S.hB)) (PySem.W.ks_ne KX1 IA hcl) (by decide) ?_
  have hmw : (h'.push (PySem.W.kxs_mw "ValueError.__init__" a)).get? h'.objs.size = some (PySem.W.kxs_mw "ValueError.__init__" a) := Heap.get?_push_size _ rfl
  have I2 : Inv X pins σ H ⟨h'.push (PySem.W.kxs_mw "ValueError.__init__" a), g, d, tk + 1, os⟩ := I1.kept (t' := tk + 1) fun b o e => Heap.get?_push_of_some _ e
  generalize hG : h'.push (PySem.W.kxs_mw "ValueError.__init__" a) = G at hmw I2
  have fpo : FpOk X pins H h'.objs.size := I1.fpOk (Nat.le_refl _) (I1.hok.fresh (Nat.le_refl _))
  have I3 := I2.pinned (fp := [h'.objs.size]) (fun b hb => by rw [List.mem_singleton.mp hb]; exact fpo) (fun b hb => by rw [List.mem_singleton.mp hb]; exact ⟨_, hmw, fun v z => nomatch z⟩)
  have hpl : (backTo p3 (starEach [e] X.env)).any (·.1) = false := by rw [hst]; rfl
  refine PySem.W.kxs_callWith (i := "ValueError.__init__") (x := a) hpl ?_
  rw [hst]
  refine PySem.Calls.evalArgs_plain ?_
  show wpAny _ _ (spliced (backTo p3 ((false, eval e X.env) :: starEach [] X.env))) _ _ _
  rw [← hst]
  refine wpAny_mono ((pa_cons he pa_nil hst).run p3 _ _ σ H (fun vs H1 => match vs with | [v] => W v H1 | _ => False) I3 h) (fun us s1 hs => ?_) fun _ _ x => x
  · obtain ⟨vs1, H1, J, rv, hw⟩ := hs
    obtain ⟨v, rfl, ea, hq⟩ : ∃ v, vs1 = [v] ∧ H1 a = some (exo a C none) ∧ ∀ s', Inv X pins σ H1 s' → Q .next s' := by
      match vs1, hw with
      | [v], hw => exact ⟨v, rfl, hW v H1 hw⟩
      | [], hw => exact hw.elim
      | _ :: _ :: _, hw => exact hw.elim
    obtain ⟨u, rfl, ru⟩ := Vals.one rv
    have hpin := (J.pin (h'.objs.size, _) (List.mem_append_right _ (List.mem_append_right _ (mem_pinsAt (List.mem_singleton.mpr rfl) hmw)))).1
    refine ⟨hpin, ?_⟩
    obtain ⟨t2, hoa2⟩ := exo_at J.hok ea
    obtain ⟨hp1, g1, d1, tk1, os1⟩ := s1
    refine call_mw (J.kIn _ _ hC) hoa2 hpin (by show 1 ≤ sizeLine; decide) fun h3 t3 k3 hx => ?_
    have J2 := J.write (t' := tk1) (x := a) (e := a) (o := exo a C none) (by rw [ea]; exact True.intro) (.inl rfl) k3 ⟨_, hx⟩ (exo_ok hx)
    have eu : upd H1 a (exo a C none) = H1 := by
      funext b
      by_cases hb : b = a
      · rw [hb, upd_same, ea]
      · rw [upd_ne hb]
    rw [eu] at J2
    exact hq _ J2.unpinned
/-- THE RULE for such an __init__ -/
theorem fnOk_sup {N ps : List Str} {e : Expr} {rest : List Stmt} {p0 p1 p2 p3 p4 : Pos} {sp : Sp} {k : Nat} {oc : Value} {od : Option Addr} {osl : Array (Option Value)} {doc pm ctv : Value} (S : SupF P K mg C fI cc F ar) (lk : K.lookup fI = some ⟨oc, od, .func (F.fd doc pm ctv), osl⟩)
    (NS : NScope N ps ["__class__"] F.scope) (hN : N[0]? = some ar.arg) (hv : F.scope.names.lookup ar.arg = some .local) (hbd : F.body = .Expr (.Call (.Attribute (.Call (.Name "super" p0) [] [] p1) "__init__" p2) [e] [] p3) p4 :: rest)
    (len : ∀ vs H Q E, sp vs H Q E → vs.length = ps.length)
    (hst : ∀ env, starEach [e] env = (false, eval e env) :: starEach [] env)
    (hev : ∀ L, ∃ pl, eval (.Call (.Attribute (.Call (.Name "super" p0) [] [] p1) "__init__" p2) [e] [] p3) (envF F fI L) = (do
      let ov ← attributeBase (.Call (.Name "super" p0) [] [] p1) "__init__" (envF F fI L) (eval (.Call (.Name "super" p0) [] [] p1) (envF F fI L))
      standAt p2.atName
      let (f, first) ← holding [ov] (getMethod ov "__init__" pl)
      callWith p3 f first (backTo p3 (starEach [e] (envF F fI L))) []))
    (hin : ∀ L, interactive (envF F fI L) = false) (hsw : ∀ L, swapsWith (.Call (.Attribute (.Call (.Name "super" p0) [] [] p1) "__init__" p2) [e] [] p3) none p4.line (envF F fI L) = pure false)
    (hbody : ∀ (A : Around) (outer : List Env) (s : Shared) (H : Hp) (vs : List V) (Q : VK) (E : XK), Room k (A.deeper (envF F fI s.heap.objs.size)) → sp vs H Q E →
      ∃ (a : Addr) (te : TE) (tr : TS), (startF N vs [some (.ref C)])[0]? = some (some (.ref a)) ∧ H a = some (exo a C none) ∧ PE (ncx CX0 P w K mg base N F fI A outer s H E) e te ∧ PSs (ncx CX0 P w K mg base N F fI A outer s H E) rest tr ∧
        te (startF N vs [some (.ref C)]) H fun _ H1 => H1 a = some (exo a C none) ∧ tr { nx := fun _ H' => Q .non H', rt := Q } (startF N vs [some (.ref C)]) H1) :
    FnOk P w K mg base CX0 (k + 1) fI (F.fd doc pm ctv) ps sp := by
  refine ⟨len, fun A outer s H args us vs Q E hr e0 hbi r hsp => ?_⟩
  have KX : K.In s.heap := e0.mod.kin.keeps fun b o e => (e0.bs b o e).1
  have nT : ∀ b o, K.lookup b = some o → H b = none := fun b o e => (e0.bs b o (e0.mod.kin b o e)).2
  have lim : s.heap.NoLimit := e0.mod.nolimit.keeps fun b o e => (e0.bs b o e).1
  obtain ⟨cl, cld, csl, hcell⟩ := S.cell
  have hl := len _ _ _ _ hsp
  have ecl : ∀ y c, F.cl.lookup y = some c → y = "__class__" ∧ c = cc := fun y c e => by
    rw [S.cl] at e
    by_cases h : y = "__class__"
    · subst h
      exact ⟨rfl, (Option.some.inj e).symm⟩
    · have h2 : (y == ("__class__" : Str)) = false := by simpa using h
      simp [List.lookup, h2] at e
  have CA : CellsAt F.cl ["__class__"] [some (.ref C)] s.heap H := by
    refine ⟨rfl, fun y c e => ?_, fun x y c e1 e2 => (ecl x c e1).1.trans (ecl y c e2).1.symm, fun i y e => ?_⟩
    · obtain ⟨rfl, rfl⟩ := ecl y c e
      exact ⟨nT _ _ hcell, _, _, KX _ _ hcell, rfl⟩
    · have hi : i = 0 ∧ y = "__class__" := by
        cases i with
        | zero => exact ⟨rfl, (Option.some.inj e).symm⟩
        | succ n => simp at e
      obtain ⟨rfl, rfl⟩ := hi
      refine ⟨cc, by rw [S.cl]; rfl, fun v ev => ?_⟩
      obtain rfl : V.ref C = v := Option.some.inj (Option.some.inj ev)
      exact ⟨.ref C, rfl, _, KX _ _ hcell, rfl⟩
  refine PySem.ks_codeAny_call_defAt (body := F.body) hr.depth (KX _ _ lk) rfl lim (PySem.W.codeRec_of KX S.code) rfl hbi NS.nocell (fun ⟨n, _⟩ hy => NS.par n (List.of_mem_zip hy).1) (fun h₁ hns kp => ?_) NS.co NS.gen NS.kind
  have I : Inv (ncx CX0 P w K mg base N F fI A outer s H E) [] (startF N vs [some (.ref C)]) H { s with heap := h₁, toks := s.toks + (ps.zip us).length } := inv_startN NS hr.hd e0 (by rw [hl]) r CA hns kp
  obtain ⟨a, te, tr, h0, ha, he, hp, hq⟩ := hbody A outer s H vs Q E (hr.deeper _) hsp
  show _root_.PySem.wpAt _ (A.deeper (envF F fI s.heap.objs.size)) (.func F.body (envF F fI s.heap.objs.size)) (execs F.body (envF F fI s.heap.objs.size)) _ _ _
  rw [hbd]
  refine PySem.ks_wpAt_execs_cons ?_
  refine sup_stmt (X := ncx CX0 P w K mg base N F fI A outer s H E) (te := te) S I rfl ⟨oc, od, osl, doc, pm, ctv, lk⟩ hN h0 hv ha he (hst _) (hev _) (hin _) (hsw _) hq fun v H1 hw => ⟨hw.1, fun s' J => ?_⟩
  refine _root_.PySem.wpAt_of_wpAny (wpAny_mono (hp.run [] s' (startF N vs [some (.ref C)]) H1 _ J hw.2) (fun fl s2 hs => ?_) fun e s2 hs => hs)
  have fin : ∀ {σ' : L2.St} {H' : Hp} {v : V} {u : Value}, Inv (ncx CX0 P w K mg base N F fI A outer s H E) [] σ' H' s2 → L2.RelV v u → Q v H' → CE outer P w H s Q u s2 :=
    fun {σ' H' v u} J rv q => ⟨v, H', J.os, J.bare, J.base, J.hok, rv, q⟩
  cases fl with
  | ret u =>
    obtain ⟨v, σ', H', J, rv, q⟩ := hs
    exact fin J rv q
  | next =>
    obtain ⟨σ', H', J, q⟩ := hs
    exact fin (v := V.non) (u := Value.none) J rfl q
  | brk =>
    obtain ⟨_, _, _, q⟩ := hs
    exact False.elim q
  | cont =>
    obtain ⟨_, _, _, q⟩ := hs
    exact False.elim q
end
end Sv
set_option maxHeartbeats 1000000
namespace Sv
/-- a list of each number below its length once -/
def Eff (e : List Nat) : Prop := (∀ x ∈ e, x < e.length) ∧ e.Nodup
def ap (e : List Nat) (x : Nat) : Nat := e.getD x 0
def it (e : List Nat) : Nat → Nat → Nat
  | 0, x => x
  | k + 1, x => ap e (it e k x)
theorem ap_at {e : List Nat} {x : Nat} (h : x < e.length) : e[x]? = some (ap e x) := by
  unfold ap
  rw [List.getD_eq_getElem?_getD, List.getElem?_eq_getElem h]
  rfl
theorem ap_lt {e : List Nat} (E : Eff e) {x : Nat} (h : x < e.length) : ap e x < e.length := E.1 _ (List.mem_of_getElem? (ap_at h))
theorem ap_inj {e : List Nat} (E : Eff e) {x y : Nat} (hx : x < e.length) (hy : y < e.length) (q : ap e x = ap e y) : x = y := by
  have h1 := ap_at hx
  have h2 := ap_at hy
  rw [q, ← h2] at h1
  rw [List.getElem?_eq_getElem hx, List.getElem?_eq_getElem hy] at h1
  exact (List.getElem_inj E.2).mp (Option.some.inj h1)
theorem it_lt {e : List Nat} (E : Eff e) : ∀ {k x : Nat}, x < e.length → it e k x < e.length
  | 0, _, h => h
  | k + 1, _, h => ap_lt E (it_lt E h)
theorem it_add (e : List Nat) (a b x : Nat) : it e (a + b) x = it e a (it e b x) := by
  induction a with
  | zero =>
    rw [Nat.zero_add]
    rfl
  | succ a ih =>
    rw [Nat.succ_add]
    show ap e (it e (a + b) x) = ap e (it e a (it e b x))
    rw [ih]
theorem it_inj {e : List Nat} (E : Eff e) : ∀ {k x y : Nat}, x < e.length → y < e.length → it e k x = it e k y → x = y
  | 0, _, _, _, _, q => q
  | k + 1, _, _, hx, hy, q => it_inj (k := k) E hx hy (ap_inj E (it_lt E hx) (it_lt E hy) q)
theorem nat_sub_len : ∀ {l m : List Nat}, l.Nodup → (∀ x ∈ l, x ∈ m) → l.length ≤ m.length
  | [], _, _, _ => Nat.zero_le _
  | x :: r, m, nd, h => by
    have hx : x ∈ m := h x (List.mem_cons_self ..)
    have nr := (List.nodup_cons.mp nd)
    have ih := nat_sub_len (l := r) (m := m.erase x) nr.2 fun y hy => (List.mem_erase_of_ne (fun e => nr.1 (by rw [← e]; exact hy))).mpr (h y (List.mem_cons_of_mem _ hy))
    rw [List.length_erase_of_mem hx] at ih
    have := List.length_pos_of_mem hx
    show r.length + 1 ≤ m.length
    omega
theorem below_len {l : List Nat} {n : Nat} (nd : l.Nodup) (h : ∀ x ∈ l, x < n) : l.length ≤ n := by
  have q := nat_sub_len (m := List.range n) nd fun x hx => List.mem_range.mpr (h x hx)
  rwa [List.length_range] at q
theorem least {P : Nat → Prop} : (∃ k, P k) → ∃ k, P k ∧ ∀ j, j < k → ¬ P j := by
  intro ⟨k, hk⟩
  induction k using Nat.strongRecOn with
  | _ k ih =>
    by_cases h : ∃ j, j < k ∧ P j
    · obtain ⟨j, hj, pj⟩ := h
      exact ih j hj pj
    · exact ⟨k, hk, fun j hj pj => h ⟨j, hj, pj⟩⟩
theorem map_nodup {f : Nat → Nat} {n : Nat} (h : ∀ i j, i < j → j < n → f i ≠ f j) : ((List.range n).map f).Nodup := by
  refine List.pairwise_iff_getElem.mpr fun i j hi hj hij => ?_
  have hi' : i < n := by simpa using hi
  have hj' : j < n := by simpa using hj
  simp only [List.getElem_map, List.getElem_range]
  exact h i j hij hj'
theorem returns {e : List Nat} (E : Eff e) {s : Nat} (hs : s < e.length) : ∃ k, 1 ≤ k ∧ k ≤ e.length ∧ it e k s = s := by
  by_cases h : ∃ i j, i < j ∧ j < e.length + 1 ∧ it e i s = it e j s
  · obtain ⟨i, j, hij, hj, q⟩ := h
    refine ⟨j - i, by omega, by omega, ?_⟩
    have e1 : it e j s = it e i (it e (j - i) s) := by
      rw [← it_add]
      congr 1
      omega
    rw [e1] at q
    exact (it_inj (k := i) E hs (it_lt E hs) q).symm
  · have nd := map_nodup (f := fun k => it e k s) (n := e.length + 1) fun i j hij hj q => h ⟨i, j, hij, hj, q⟩
    have hl := below_len nd (n := e.length) fun x hx => by
      obtain ⟨k, _, rfl⟩ := List.mem_map.mp hx
      exact it_lt E hs
    simp at hl
    omega
/-- the period of a place -/
noncomputable def per (e : List Nat) (s : Nat) : Nat := open Classical in if h : ∃ k, (1 ≤ k ∧ it e k s = s) then Classical.choose (least h) else 1
theorem per_spec {e : List Nat} (E : Eff e) {s : Nat} (hs : s < e.length) : 1 ≤ per e s ∧ it e (per e s) s = s ∧ (∀ j, 1 ≤ j → j < per e s → it e j s ≠ s) ∧ per e s ≤ e.length := by
  obtain ⟨k, h1, h2, h3⟩ := returns E hs
  have h : ∃ k, (1 ≤ k ∧ it e k s = s) := ⟨k, h1, h3⟩
  have q := Classical.choose_spec (least h)
  have ep : per e s = Classical.choose (least h) := by
    unfold per
    rw [dif_pos h]
  rw [ep]
  refine ⟨q.1.1, q.1.2, fun j a b c => q.2 j b ⟨a, c⟩, ?_⟩
  refine Nat.le_trans ?_ h2
  by_cases hk : Classical.choose (least h) ≤ k
  · exact hk
  · exact absurd ⟨h1, h3⟩ (q.2 k (by omega))
theorem per_pos {e : List Nat} (E : Eff e) {s : Nat} (hs : s < e.length) : 0 < per e s := (per_spec E hs).1
theorem it_mul {e : List Nat} {s p : Nat} (h : it e p s = s) : ∀ m : Nat, it e (m * p) s = s
  | 0 => by rw [Nat.zero_mul]; rfl
  | m + 1 => by
    rw [Nat.succ_mul, it_add, h]
    exact it_mul h m
theorem it_mod {e : List Nat} (E : Eff e) {s : Nat} (hs : s < e.length) (k : Nat) : it e k s = it e (k % per e s) s := by
  have h := Nat.div_add_mod k (per e s)
  have e1 : it e k s = it e (k % per e s + (k / per e s) * per e s) s := by
    congr 1
    rw [Nat.mul_comm (k / per e s)]
    omega
  rw [e1, it_add, it_mul (per_spec E hs).2.1]
theorem it_eq_iff {e : List Nat} (E : Eff e) {s : Nat} (hs : s < e.length) (k : Nat) : it e k s = s ↔ per e s ∣ k := by
  constructor
  · intro h
    rw [it_mod E hs] at h
    have hlt := Nat.mod_lt k (per_pos E hs)
    by_cases h0 : k % per e s = 0
    · exact Nat.dvd_of_mod_eq_zero h0
    · exact absurd h ((per_spec E hs).2.2.1 _ (by omega) hlt)
  · intro ⟨m, hm⟩
    rw [hm, Nat.mul_comm]
    exact it_mul (per_spec E hs).2.1 m
theorem per_it {e : List Nat} (E : Eff e) {s : Nat} (hs : s < e.length) (j : Nat) : per e (it e j s) = per e s := by
  have key : ∀ k, it e k (it e j s) = it e j s ↔ it e k s = s := fun k => by
    constructor
    · intro h
      rw [← it_add, Nat.add_comm, it_add] at h
      exact it_inj (k := j) E (it_lt E hs) hs h
    · intro h
      rw [← it_add, Nat.add_comm, it_add, h]
  have h1 := per_spec E hs
  have h2 := per_spec E (it_lt E hs : it e j s < e.length)
  refine Nat.le_antisymm ?_ ?_
  · by_cases h : per e (it e j s) ≤ per e s
    · exact h
    · exact absurd ((key _).mpr h1.2.1) (h2.2.2.1 _ h1.1 (by omega))
  · by_cases h : per e s ≤ per e (it e j s)
    · exact h
    · exact absurd ((key _).mp h2.2.1) (h1.2.2.1 _ h2.1 (by omega))
/-- a place, so many times on (or back) -/
noncomputable def rp (e : List Nat) (c : Int) (p : Nat) : Nat := it e (c % (per e p : Int)).toNat p
theorem rp_lt {e : List Nat} (E : Eff e) {c : Int} {p : Nat} (hp : p < e.length) : rp e c p < e.length := it_lt E hp
theorem rp_nat {e : List Nat} (E : Eff e) (k : Nat) {p : Nat} (hp : p < e.length) : rp e (k : Int) p = it e k p := by
  unfold rp
  rw [it_mod E hp k]
  congr 1
theorem rp_add {e : List Nat} (E : Eff e) (a b : Int) {p : Nat} (hp : p < e.length) : rp e b (rp e a p) = rp e (a + b) p := by
  have hpos : (0 : Int) < (per e p : Int) := by
    have := per_pos E hp
    omega
  unfold rp
  rw [per_it E hp, ← it_add, it_mod E hp]
  congr 1
  have h1 := Int.emod_nonneg a (Int.ne_of_gt hpos)
  have h2 := Int.emod_nonneg b (Int.ne_of_gt hpos)
  have h3 := Int.emod_nonneg (a + b) (Int.ne_of_gt hpos)
  have e1 : (((b % (per e p : Int)).toNat + (a % (per e p : Int)).toNat : Nat) : Int) % (per e p : Int) = (a + b) % (per e p : Int) := by
    rw [Int.natCast_add, Int.toNat_of_nonneg h1, Int.toNat_of_nonneg h2, ← Int.add_emod, Int.add_comm]
  rw [← Int.natCast_emod] at e1
  omega
theorem rp_zero {e : List Nat} (p : Nat) : rp e 0 p = p := by
  unfold rp
  rw [Int.zero_emod]
  rfl
theorem rp_inj {e : List Nat} (E : Eff e) {c : Int} {p q : Nat} (hp : p < e.length) (hq : q < e.length) (h : rp e c p = rp e c q) : p = q := by
  have h1 := congrArg (rp e (-c)) h
  rw [rp_add E _ _ hp, rp_add E _ _ hq] at h1
  have e0 : c + -c = 0 := by omega
  rwa [e0, rp_zero, rp_zero] at h1
/-- the effect, so many times -/
noncomputable def rep (e : List Nat) (c : Int) : List Nat := (List.range e.length).map (rp e c)
theorem rep_len (e : List Nat) (c : Int) : (rep e c).length = e.length := by unfold rep; simp
theorem rep_ap {e : List Nat} {c : Int} {p : Nat} (hp : p < e.length) : ap (rep e c) p = rp e c p := by
  unfold rep ap
  rw [List.getD_eq_getElem?_getD, List.getElem?_map, List.getElem?_range hp]
  rfl
theorem map_eff {n : Nat} {f : Nat → Nat} (h1 : ∀ p, p < n → f p < n) (h2 : ∀ p q, p < n → q < n → f p = f q → p = q) : Eff ((List.range n).map f) := by
  refine ⟨fun x hx => ?_, map_nodup fun i j hij hj q => ?_⟩
  · obtain ⟨p, hp, rfl⟩ := List.mem_map.mp hx
    rw [List.length_map, List.length_range]
    exact h1 p (List.mem_range.mp hp)
  · have := h2 i j (by omega) hj q
    omega
theorem rep_eff {e : List Nat} (E : Eff e) (c : Int) : Eff (rep e c) := map_eff (fun p hp => rp_lt E hp) fun p q hp hq h => rp_inj E hp hq h
/-- two lists of one length are one if they are so at each place -/
theorem ext_ap {a b : List Nat} (hl : a.length = b.length) (h : ∀ p, p < a.length → ap a p = ap b p) : a = b := by
  refine List.ext_getElem? fun i => ?_
  by_cases hi : i < a.length
  · rw [ap_at hi, ap_at (by omega), h i hi]
  · rw [List.getElem?_eq_none (by omega), List.getElem?_eq_none (by omega)]
def comp (a b : List Nat) : List Nat := a.map (ap b)
theorem comp_len (a b : List Nat) : (comp a b).length = a.length := by unfold comp; simp
theorem comp_ap {a b : List Nat} {p : Nat} (hp : p < a.length) : ap (comp a b) p = ap b (ap a p) := by
  unfold comp
  have h : (a.map (ap b))[p]? = some (ap b (ap a p)) := by rw [List.getElem?_map, ap_at hp]; rfl
  rw [ap_at (by simpa using hp)] at h
  exact Option.some.inj h
theorem comp_eff {a b : List Nat} (A : Eff a) (B : Eff b) (hl : a.length = b.length) : Eff (comp a b) := by
  refine ⟨fun x hx => ?_, ?_⟩
  · obtain ⟨y, hy, rfl⟩ := List.mem_map.mp hx
    rw [comp_len, hl]
    exact ap_lt B (by rw [← hl]; exact A.1 y hy)
  · unfold comp
    refine List.pairwise_iff_getElem.mpr fun i j hi hj hij q => ?_
    simp only [List.getElem_map] at q
    simp at hi hj
    have q2 := ap_inj B (by rw [← hl]; exact A.1 _ (List.getElem_mem hi)) (by rw [← hl]; exact A.1 _ (List.getElem_mem hj)) q
    exact absurd ((List.getElem_inj A.2).mp q2) (by omega)
theorem comp_assoc {a b c : List Nat} (A : Eff a) (hl : a.length = b.length) : comp (comp a b) c = comp a (comp b c) := by
  refine ext_ap (by simp [comp_len]) fun p hp => ?_
  rw [comp_len, comp_len] at hp
  rw [comp_ap (by rw [comp_len]; exact hp), comp_ap hp, comp_ap hp, comp_ap (by rw [← hl]; exact ap_lt A hp)]
theorem rep_comp {e : List Nat} (E : Eff e) (a b : Int) : comp (rep e a) (rep e b) = rep e (a + b) := by
  refine ext_ap (by simp [comp_len, rep_len]) fun p hp => ?_
  rw [comp_len, rep_len] at hp
  rw [comp_ap (by rw [rep_len]; exact hp), rep_ap hp, rep_ap (rp_lt E hp), rep_ap hp, rp_add E _ _ hp]
theorem rep_one {e : List Nat} (E : Eff e) : rep e 1 = e := by
  refine ext_ap (rep_len e 1) fun p hp => ?_
  rw [rep_len] at hp
  rw [rep_ap hp]
  exact rp_nat E 1 hp
theorem rep_zero (e : List Nat) : rep e 0 = List.range e.length := by
  unfold rep
  rw [show (List.range e.length).map (rp e 0) = (List.range e.length).map id from List.map_congr_left fun p _ => rp_zero p]
  exact List.map_id _
/-- the inverse, as the program makes it: step by step -/
def invF (e : List Nat) : Nat → List Nat
  | 0 => List.replicate e.length 0
  | k + 1 => (invF e k).set (ap e k) k
theorem invF_len (e : List Nat) : ∀ k, (invF e k).length = e.length
  | 0 => List.length_replicate
  | k + 1 => by
    show ((invF e k).set _ _).length = _
    rw [List.length_set, invF_len e k]
theorem invF_at {e : List Nat} (E : Eff e) : ∀ (k : Nat), k ≤ e.length → ∀ i, i < k → ap (invF e k) (ap e i) = i
  | 0, _, i, hi => by omega
  | k + 1, hk, i, hi => by
    have hlen := invF_len e k
    show ap ((invF e k).set (ap e k) k) (ap e i) = i
    have hik : ap e i < (invF e k).length := by
      rw [hlen]
      exact ap_lt E (by omega)
    by_cases h : i = k
    · subst h
      unfold ap at *
      rw [List.getD_eq_getElem?_getD, List.getElem?_set_self hik]
      rfl
    · have ne : ap e k ≠ ap e i := fun q => h (ap_inj E (by omega) (by omega) q).symm
      have ih := invF_at E k (by omega) i (by omega)
      unfold ap at *
      rw [List.getD_eq_getElem?_getD, List.getElem?_set_ne ne, ← List.getD_eq_getElem?_getD]
      exact ih
def inv (e : List Nat) : List Nat := invF e e.length
theorem inv_len (e : List Nat) : (inv e).length = e.length := invF_len e _
theorem inv_ap {e : List Nat} (E : Eff e) {i : Nat} (hi : i < e.length) : ap (inv e) (ap e i) = i := invF_at E _ (Nat.le_refl _) i hi
/-- the inverse of a repetition -/
theorem inv_rep {e : List Nat} (E : Eff e) (c : Int) : inv (rep e c) = rep e (-c) := by
  refine ext_ap (by rw [inv_len, rep_len, rep_len]) fun q hq => ?_
  rw [inv_len, rep_len] at hq
  have h1 : rp e c (rp e (-c) q) = q := by
    rw [rp_add E _ _ hq, show -c + c = 0 by omega, rp_zero]
  have h2 := inv_ap (rep_eff E c) (i := rp e (-c) q) (by rw [rep_len]; exact rp_lt E hq)
  rw [rep_ap (rp_lt E hq), h1] at h2
  rw [h2, rep_ap hq]
theorem inv_eq {e : List Nat} (E : Eff e) : inv e = rep e (-1) := by
  have h := inv_rep E 1
  rwa [rep_one E] at h
theorem inv_eff {e : List Nat} (E : Eff e) : Eff (inv e) := by
  rw [inv_eq E]
  exact rep_eff E _
theorem inv_inv {e : List Nat} (E : Eff e) : inv (inv e) = e := by
  rw [inv_eq E, inv_rep E, show (- -1 : Int) = 1 by decide, rep_one E]
theorem rep_succ {e : List Nat} (E : Eff e) (k : Nat) : comp (rep e (k : Int)) e = rep e ((k + 1 : Nat) : Int) := by
  have h := rep_comp E (k : Int) 1
  rw [rep_one E] at h
  rw [h]
  rfl
end Sv
set_option maxHeartbeats 1000000
namespace Sv
open PySem
abbrev Ro := List (Option Int)
/-- the first that p does not hold of -/
def fst {α : Type} (p : α → Bool) : List α → Nat → Option Nat
  | [], _ => none
  | x :: r, i => if p x = true then fst p r (i + 1) else some i
theorem fst_some {α : Type} {p : α → Bool} : ∀ {l : List α} {i k : Nat} {x : α}, (∀ (j : Nat) (y : α), j < i → l[j]? = some y → p y = true) → l[i]? = some x → p x = false → fst p l k = some (i + k)
  | [], i, k, x, _, h, _ => by simp at h
  | y :: l, 0, k, x, _, h, hp => by
    obtain rfl := Option.some.inj h
    unfold fst
    rw [hp]
    simp
  | y :: l, i + 1, k, x, hb, h, hp => by
    unfold fst
    rw [hb 0 y (by omega) rfl, if_pos rfl, fst_some (l := l) (i := i) (k := k + 1) (fun j z hj hz => hb (j + 1) z (by omega) (by simpa using hz)) (by simpa using h) hp]
    congr 1
    omega
theorem fst_none {α : Type} {p : α → Bool} : ∀ {l : List α} {k : Nat}, (∀ (j : Nat) (y : α), l[j]? = some y → p y = true) → fst p l k = none
  | [], _, _ => rfl
  | y :: l, k, h => by
    unfold fst
    rw [h 0 y rfl, if_pos rfl]
    exact fst_none fun j z hz => h (j + 1) z (by simpa using hz)
theorem fst_all {α : Type} {p : α → Bool} : ∀ {l : List α} {k : Nat}, fst p l k = none → ∀ y ∈ l, p y = true
  | [], _, _, y, hy => by simp at hy
  | x :: l, k, h, y, hy => by
    unfold fst at h
    split at h
    · rename_i hx
      rcases List.mem_cons.mp hy with rfl | hy
      · exact hx
      · exact fst_all h y hy
    · cases h
def okZ (z : Int) : Bool := decide (0 ≤ z ∧ z ≤ 9)
def okE (n : Int) : Option Int → Bool
  | none => true
  | some i => decide (0 ≤ i ∧ i ≤ n - 1)
def okR (n : Int) (r : Ro) : Bool := decide (1 ≤ r.length ∧ r.length ≤ 6) && r.all (okE n)
def badS (zs : List Int) : Option Int := if 1 ≤ zs.length ∧ zs.length ≤ 12 then (fst okZ zs 0).map fun (k : Nat) => (k : Int) else some (-1)
def badR (n : Int) (rs : List Ro) : Option Int := if 1 ≤ rs.length ∧ rs.length ≤ 6 then (fst (okR n) rs 0).map fun (k : Nat) => (k : Int) else some (-1)
/-- what is wrong with a plan -/
def bad (zs : List Int) (rs : List Ro) : Option (Str × Int) := match badS zs with
  | some i => some ("sizes", i)
  | none => (badR zs.length rs).map fun i => ("routes", i)
def Small (zs : List Int) (rs : List Ro) : Prop := zs.length ≤ 1000 ∧ rs.length ≤ 1000 ∧ ∀ r ∈ rs, r.length ≤ 1000
/-- the entry of a route at a time -/
def ent (r : Ro) (m : Int) : Option Int := r.getD (m % (r.length : Int)).toNat none
theorem ent_get {r : Ro} (h : r ≠ []) (m : Int) : r[(m % (r.length : Int)).toNat]? = some (ent r m) ∧ m % (r.length : Int) = ((m % (r.length : Int)).toNat : Int) := by
  have hl : 0 < r.length := List.length_pos_iff.mpr h
  have h0 := Int.emod_nonneg m (by omega : (r.length : Int) ≠ 0)
  have h1 := Int.emod_lt_of_pos m (by omega : (0 : Int) < (r.length : Int))
  have e := Int.toNat_of_nonneg h0
  refine ⟨?_, e.symm⟩
  have hlt : (m % (r.length : Int)).toNat < r.length := by omega
  unfold ent
  rw [List.getD_eq_getElem?_getD, List.getElem?_eq_getElem hlt]
  rfl
def rot {α : Type} (r : List α) (s : Nat) : List α := r.drop s ++ r.take s
theorem rot_full {α : Type} (r : List α) : rot r r.length = r := by
  unfold rot
  rw [List.drop_of_length_le (Nat.le_refl _), List.take_of_length_le (Nat.le_refl _), List.nil_append]
theorem leastN {P : Nat → Prop} : (∃ k, P k) → ∃ k, P k ∧ ∀ j, j < k → ¬ P j := by
  rintro ⟨k, hk⟩
  induction k using Nat.strongRecOn with
  | _ k ih =>
    by_cases h : ∃ j, j < k ∧ P j
    · obtain ⟨j, hj, hp⟩ := h
      exact ih j hj hp
    · exact ⟨k, hk, fun j hj hp => h ⟨j, hj, hp⟩⟩
open Classical in
/-- the least number of steps that leaves a list as it is -/
noncomputable def rtp {α : Type} (r : List α) : Nat := if h : ∃ k, 1 ≤ k ∧ rot r k = r then Classical.choose (leastN h) else 0
theorem rtp_spec {α : Type} {r : List α} (h : r ≠ []) : 1 ≤ rtp r ∧ rot r (rtp r) = r ∧ (∀ j, 1 ≤ j → j < rtp r → rot r j ≠ r) ∧ rtp r ≤ r.length := by
  have hl : 1 ≤ r.length := List.length_pos_iff.mpr h
  have ex : ∃ k, 1 ≤ k ∧ rot r k = r := ⟨r.length, hl, rot_full r⟩
  have e : rtp r = Classical.choose (leastN ex) := by
    unfold rtp
    rw [dif_pos ex]
  have sp := Classical.choose_spec (leastN ex)
  rw [← e] at sp
  refine ⟨sp.1.1, sp.1.2, fun j h1 h2 z => sp.2 j h2 ⟨h1, z⟩, ?_⟩
  by_cases hh : rtp r ≤ r.length
  · exact hh
  · exact absurd ⟨hl, rot_full r⟩ (sp.2 r.length (by omega))
structure Good (zs : List Int) (rs : List Ro) : Prop where
  z1 : 1 ≤ zs.length ∧ zs.length ≤ 12
  z2 : ∀ z ∈ zs, 0 ≤ z ∧ z ≤ 9
  r1 : 1 ≤ rs.length ∧ rs.length ≤ 6
  r2 : ∀ r ∈ rs, 1 ≤ r.length ∧ r.length ≤ 6
theorem good_of {zs : List Int} {rs : List Ro} (h : bad zs rs = none) : Good zs rs := by
  unfold bad at h
  cases hb : badS zs with
  | some i => rw [hb] at h; cases h
  | none =>
    rw [hb] at h
    simp only [Option.map_eq_none_iff] at h
    unfold badS at hb
    unfold badR at h
    split at hb
    · split at h
      · rename_i c1 c2
        rw [Option.map_eq_none_iff] at hb h
        refine ⟨c1, fun z hz => of_decide_eq_true (fst_all hb z hz), c2, fun r hr => ?_⟩
        have := fst_all h r hr
        unfold okR at this
        rw [Bool.and_eq_true] at this
        exact of_decide_eq_true this.1
      · cases h
    · cases hb
theorem Good.ne {zs : List Int} {rs : List Ro} (g : Good zs rs) : ∀ r ∈ rs, r ≠ [] ∧ r.length ≤ 1000 := fun r hr => by
  have := g.r2 r hr
  exact ⟨fun z => by rw [z] at this; simp at this, by omega⟩
noncomputable def lc (rs : List Ro) : Nat := rs.foldl (fun m r => Nat.lcm m (rtp r)) 1
theorem lc_snoc (rs : List Ro) (r : Ro) : lc (rs ++ [r]) = Nat.lcm (lc rs) (rtp r) := by
  unfold lc
  rw [List.foldl_append]
  rfl
theorem dvd60 {k : Nat} (h1 : 1 ≤ k) (h2 : k ≤ 6) : k ∣ 60 := by
  have : k = 1 ∨ k = 2 ∨ k = 3 ∨ k = 4 ∨ k = 5 ∨ k = 6 := by omega
  rcases this with rfl | rfl | rfl | rfl | rfl | rfl <;> decide
theorem rtp_dvd60 {r : Ro} (h : 1 ≤ r.length ∧ r.length ≤ 6) : rtp r ∣ 60 := by
  obtain ⟨a, _, _, d⟩ := rtp_spec (r := r) (fun z => by rw [z] at h; simp at h)
  exact dvd60 a (by omega)
theorem fold_dvd60 : ∀ {rs : List Ro} {m : Nat}, m ∣ 60 → (∀ r ∈ rs, 1 ≤ r.length ∧ r.length ≤ 6) → rs.foldl (fun m r => Nat.lcm m (rtp r)) m ∣ 60
  | [], m, hm, _ => hm
  | r :: rs, m, hm, h => fold_dvd60 (rs := rs) (m := Nat.lcm m (rtp r)) (Nat.lcm_dvd hm (rtp_dvd60 (h r (List.mem_cons_self ..)))) fun x hx => h x (List.mem_cons_of_mem _ hx)
theorem lc_dvd60 {rs : List Ro} (h : ∀ r ∈ rs, 1 ≤ r.length ∧ r.length ≤ 6) : lc rs ∣ 60 := fold_dvd60 (by decide) h
theorem lc_le {rs : List Ro} (h : ∀ r ∈ rs, 1 ≤ r.length ∧ r.length ≤ 6) : 1 ≤ lc rs ∧ lc rs ≤ 60 := by
  have d := lc_dvd60 h
  refine ⟨Nat.pos_of_ne_zero fun z => ?_, Nat.le_of_dvd (by decide) d⟩
  rw [z] at d
  have := Nat.eq_zero_of_zero_dvd d
  omega
theorem fold_ge : ∀ {rs : List Ro} {m d : Nat}, (m ∣ d ∧ ∀ r ∈ rs, rtp r ∣ d) ↔ rs.foldl (fun m r => Nat.lcm m (rtp r)) m ∣ d
  | [], m, d => by simp
  | r :: rs, m, d => by
    rw [List.foldl_cons, ← fold_ge (rs := rs), List.forall_mem_cons]
    constructor
    · rintro ⟨h1, h2, h3⟩
      exact ⟨Nat.lcm_dvd h1 h2, h3⟩
    · rintro ⟨h1, h3⟩
      exact ⟨Nat.dvd_trans (Nat.dvd_lcm_left _ _) h1, Nat.dvd_trans (Nat.dvd_lcm_right _ _) h1, h3⟩
theorem lc_dvd {rs : List Ro} {d : Nat} : lc rs ∣ d ↔ ∀ r ∈ rs, rtp r ∣ d := by
  unfold lc
  rw [← fold_ge]
  exact ⟨fun h => h.2, fun h => ⟨Nat.one_dvd _, h⟩⟩
theorem rotr_at {α : Type} {r : List α} {k j : Nat} (hk : k ≤ r.length) (hj : j < r.length) : (rot r k)[j]? = r[(j + k) % r.length]? := by
  unfold rot
  by_cases h : j < r.length - k
  · rw [List.getElem?_append_left (by rw [List.length_drop]; exact h), List.getElem?_drop, Nat.mod_eq_of_lt (by omega), Nat.add_comm]
  · rw [List.getElem?_append_right (by rw [List.length_drop]; omega), List.length_drop, List.getElem?_take_of_lt (by omega)]
    congr 1
    rw [show j + k = (j - (r.length - k)) + r.length by omega, Nat.add_mod_right, Nat.mod_eq_of_lt (by omega)]
theorem rot_iff {α : Type} {r : List α} {k : Nat} (hk : k ≤ r.length) : rot r k = r ↔ ∀ j, j < r.length → r[(j + k) % r.length]? = r[j]? := by
  refine ⟨fun h j hj => ?_, fun h => List.ext_getElem? fun j => ?_⟩
  · rw [← rotr_at hk hj, h]
  · by_cases hj : j < r.length
    · rw [rotr_at hk hj, h j hj]
    · have : (rot r k).length = r.length := by unfold rot; rw [List.length_append, List.length_drop, List.length_take]; omega
      rw [List.getElem?_eq_none (by omega), List.getElem?_eq_none (by omega)]
def entN (r : Ro) (i : Nat) : Option Int := r.getD (i % r.length) none
theorem ent_nat (r : Ro) (i : Nat) : ent r (i : Int) = entN r i := by
  unfold ent entN
  rw [← Int.natCast_emod, Int.toNat_natCast]
theorem entN_at {r : Ro} (h : r ≠ []) (i : Nat) : r[i % r.length]? = some (entN r i) := by
  have hl : 0 < r.length := List.length_pos_iff.mpr h
  unfold entN
  rw [List.getD_eq_getElem?_getD, List.getElem?_eq_getElem (Nat.mod_lt _ hl)]
  rfl
theorem rotN {r : Ro} {k : Nat} (h : r ≠ []) (hk : k ≤ r.length) : rot r k = r ↔ ∀ i, entN r (i + k) = entN r i := by
  have hl : 0 < r.length := List.length_pos_iff.mpr h
  rw [rot_iff hk]
  refine ⟨fun q i => ?_, fun q j hj => ?_⟩
  · have := q (i % r.length) (Nat.mod_lt _ hl)
    rw [entN_at h] at this
    have e2 : r[i % r.length]? = some (entN r i) := entN_at h i
    rw [e2] at this
    have e3 := Option.some.inj this
    rw [← e3]
    unfold entN
    rw [Nat.mod_add_mod]
  · have := q j
    rw [entN_at h, this]
    have e2 := entN_at h j
    rw [Nat.mod_eq_of_lt hj] at e2
    exact e2.symm
theorem per_dvd {r : Ro} (h : r ≠ []) (L : Nat) : (∀ i, entN r (i + L) = entN r i) ↔ rtp r ∣ L := by
  obtain ⟨p1, p2, p3, p4⟩ := rtp_spec h
  have hp := (rotN h p4).mp p2
  have mul : ∀ q i, entN r (i + rtp r * q) = entN r i := by
    intro q
    induction q with
    | zero => intro i; rw [Nat.mul_zero, Nat.add_zero]
    | succ q ih => intro i; rw [Nat.mul_succ, ← Nat.add_assoc, hp, ih]
  refine ⟨fun q => ?_, fun ⟨c, hc⟩ i => by rw [hc, mul]⟩
  by_cases hs : L % rtp r = 0
  · exact Nat.dvd_of_mod_eq_zero hs
  · exfalso
    have hlt : L % rtp r < rtp r := Nat.mod_lt _ (by omega)
    refine p3 (L % rtp r) (by omega) hlt ((rotN h (by omega)).mpr fun i => ?_)
    have e : i + L = (i + L % rtp r) + rtp r * (L / rtp r) := by
      have := Nat.mod_add_div L (rtp r)
      omega
    rw [← q i, e, mul]
/-- the pairs of a tick -/
def prs (rs : List Ro) (m : Int) : Nat → List (Nat × Int)
  | 0 => []
  | k + 1 => prs rs m k ++ (match rs[k]? with | some r => (match ent r m with | some z => [(k, z)] | none => []) | none => [])
theorem prs_lt (rs : List Ro) (m : Int) : ∀ k, ∀ p ∈ prs rs m k, p.1 < k
  | 0, p, h => by cases h
  | k + 1, p, h => by
    unfold prs at h
    rcases List.mem_append.mp h with h | h
    · have := prs_lt rs m k p h
      omega
    · cases hk : rs[k]? with
      | none => rw [hk] at h; cases h
      | some r =>
        rw [hk] at h
        simp only at h
        cases he : ent r m with
        | none => rw [he] at h; cases h
        | some z =>
          rw [he] at h
          rw [List.mem_singleton.mp h]
          exact Nat.lt_succ_self k
theorem look_none {l : List (Nat × Int)} {k : Nat} (h : ∀ p ∈ l, p.1 < k) : l.lookup k = none := by
  induction l with
  | nil => rfl
  | cons p l ih =>
    have h1 := h p (List.mem_cons_self ..)
    obtain ⟨a, b⟩ := p
    rw [List.lookup_cons, ih fun q hq => h q (List.mem_cons_of_mem _ hq)]
    have : (k == a) = false := by simp only [beq_eq_false_iff_ne]; simp at h1; omega
    rw [this]
theorem prs_look (rs : List Ro) (m : Int) : ∀ K k r, k < K → rs[k]? = some r → (prs rs m K).lookup k = ent r m
  | K + 1, k, r, hk, hr => by
    unfold prs
    rw [List.lookup_append]
    by_cases e : k = K
    · subst e
      rw [look_none (prs_lt rs m k), hr]
      simp only [Option.none_or]
      cases ent r m with
      | none => rfl
      | some z => simp [List.lookup]
    · rw [prs_look rs m K k r (by omega) hr]
      have e2 : (match rs[K]? with | some r => (match ent r m with | some z => [(K, z)] | none => []) | none => [] : List (Nat × Int)).lookup k = none := by
        have hb : (k == K) = false := by simpa using e
        cases rs[K]? with
        | none => rfl
        | some r2 =>
          simp only
          cases ent r2 m with
          | none => rfl
          | some z => simp [List.lookup, hb]
      rw [e2, Option.or_none]
theorem prs_eq {rs : List Ro} {m m' : Int} : ∀ K, (∀ k r, k < K → rs[k]? = some r → ent r m = ent r m') → prs rs m K = prs rs m' K
  | 0, _ => rfl
  | K + 1, h => by
    unfold prs
    rw [prs_eq K fun k r hk hr => h k r (by omega) hr]
    cases hr : rs[K]? with
    | none => rfl
    | some r => simp only [h K r (by omega) hr]
theorem prs_iff {rs : List Ro} {m m' : Int} : prs rs m rs.length = prs rs m' rs.length ↔ ∀ r ∈ rs, ent r m = ent r m' := by
  refine ⟨fun h r hr => ?_, fun h => prs_eq _ fun k r _ hr => h r (List.mem_of_getElem? hr)⟩
  obtain ⟨k, hk, e⟩ := List.getElem_of_mem hr
  have e2 : rs[k]? = some r := by rw [List.getElem?_eq_getElem hk, e]
  rw [← prs_look rs m rs.length k r hk e2, ← prs_look rs m' rs.length k r hk e2, h]
end Sv
set_option maxHeartbeats 1000000
namespace Sv
def sumN (zs : List Int) : Nat := (zs.map Int.toNat).sum
theorem sum_int {zs : List Int} (h : ∀ z ∈ zs, 0 ≤ z) : zs.sum = (sumN zs : Nat) := by
  unfold sumN
  induction zs with
  | nil => rfl
  | cons z zs ih =>
    have h1 := h z (List.mem_cons_self ..)
    have h2 := ih fun x hx => h x (List.mem_cons_of_mem _ hx)
    simp only [List.sum_cons, List.map_cons]
    rw [h2]
    omega
def segs {α : Type} (cs : List α) : Nat → List Int → List (List α)
  | _, [] => []
  | st, z :: zs => (cs.drop st).take z.toNat :: segs cs (st + z.toNat) zs
theorem segs_len {α : Type} (cs : List α) : ∀ (st : Nat) (zs : List Int), (segs cs st zs).length = zs.length
  | _, [] => rfl
  | st, z :: zs => congrArg Nat.succ (segs_len cs _ zs)
theorem segs_flat {α : Type} (cs : List α) : ∀ (st : Nat) (zs : List Int), (segs cs st zs).flatten = (cs.drop st).take (sumN zs)
  | st, [] => by
    show [] = (cs.drop st).take 0
    rw [List.take_zero]
  | st, z :: zs => by
    show (cs.drop st).take z.toNat ++ (segs cs (st + z.toNat) zs).flatten = (cs.drop st).take (sumN (z :: zs))
    rw [segs_flat cs _ zs]
    have e : sumN (z :: zs) = z.toNat + sumN zs := by unfold sumN; rw [List.map_cons, List.sum_cons]
    rw [e, List.take_add, List.drop_drop]
theorem segs_snoc {α : Type} (cs : List α) : ∀ (st : Nat) (zs : List Int) (z : Int), segs cs st (zs ++ [z]) = segs cs st zs ++ [(cs.drop (st + sumN zs)).take z.toNat]
  | st, [], z => by
    show [(cs.drop st).take z.toNat] = _
    rfl
  | st, y :: zs, z => by
    show (cs.drop st).take y.toNat :: segs cs (st + y.toNat) (zs ++ [z]) = _
    rw [segs_snoc cs _ zs z]
    have e : sumN (y :: zs) = y.toNat + sumN zs := by unfold sumN; rw [List.map_cons, List.sum_cons]
    rw [e, ← Nat.add_assoc]
    rfl
theorem sumN_snoc (zs : List Int) (z : Int) : sumN (zs ++ [z]) = sumN zs + z.toNat := by unfold sumN; simp
theorem segs_lens {α : Type} (cs : List α) : ∀ (st : Nat) (zs : List Int), st + sumN zs ≤ cs.length → (segs cs st zs).map List.length = zs.map Int.toNat
  | _, [], _ => rfl
  | st, z :: zs, h => by
    have e : sumN (z :: zs) = z.toNat + sumN zs := by unfold sumN; rw [List.map_cons, List.sum_cons]
    rw [e] at h
    show ((cs.drop st).take z.toNat).length :: (segs cs (st + z.toNat) zs).map List.length = _
    rw [segs_lens cs _ zs (by omega), List.length_take, List.length_drop, List.map_cons]
    congr 1
    omega
abbrev Lay (α : Type) := List α × List (List α)
def join {α : Type} (L : Lay α) : List α := L.1 ++ L.2.flatten
def mapL {α β : Type} (f : α → β) (L : Lay α) : Lay β := (L.1.map f, L.2.map (List.map f))
theorem join_map {α β : Type} (f : α → β) (L : Lay α) : join (mapL f L) = (join L).map f := by
  unfold join mapL
  rw [List.map_append, List.map_flatten]
/-- a carrier at a shelf -/
def step1 {α : Type} (L : Lay α) (p : Nat × Nat) : Lay α := match L.1[p.1]?, L.2[p.2]? with
  | some x, some row => (L.1.set p.1 (row.headD x), L.2.set p.2 (row ++ [x]).tail)
  | _, _ => L
def steps {α : Type} (ps : List (Nat × Nat)) (L : Lay α) : Lay α := ps.foldl step1 L
theorem steps_snoc {α : Type} (ps : List (Nat × Nat)) (p : Nat × Nat) (L : Lay α) : steps (ps ++ [p]) L = step1 (steps ps L) p := by
  unfold steps
  rw [List.foldl_append]
  rfl
theorem step1_map {α β : Type} (f : α → β) (L : Lay α) (p : Nat × Nat) : step1 (mapL f L) p = mapL f (step1 L p) := by
  unfold step1 mapL
  simp only [List.getElem?_map]
  cases L.1[p.1]? with
  | none => rfl
  | some x =>
    cases L.2[p.2]? with
    | none => rfl
    | some row =>
      simp only [Option.map_some, List.map_set]
      refine Prod.ext ?_ ?_
      · simp only
        congr 1
        cases row <;> rfl
      · simp only
        congr 1
        rw [List.map_tail, List.map_append]
        rfl
theorem steps_map {α β : Type} (f : α → β) : ∀ (ps : List (Nat × Nat)) (L : Lay α), steps ps (mapL f L) = mapL f (steps ps L)
  | [], _ => rfl
  | p :: ps, L => by
    show steps ps (step1 (mapL f L) p) = mapL f (steps ps (step1 L p))
    rw [step1_map, steps_map f ps]
/-- so many carriers, so much on the shelves -/
def Fits {α : Type} (n : Nat) (zs : List Int) (L : Lay α) : Prop := L.1.length = n ∧ L.2.map List.length = zs.map Int.toNat
theorem step1_fits {α : Type} {n : Nat} {zs : List Int} {L : Lay α} (h : Fits n zs L) (p : Nat × Nat) : Fits n zs (step1 L p) := by
  unfold step1
  cases h1 : L.1[p.1]? with
  | none => exact h
  | some x =>
    cases h2 : L.2[p.2]? with
    | none => exact h
    | some row =>
      refine ⟨by simp only [List.length_set]; exact h.1, ?_⟩
      simp only
      rw [List.map_set, ← h.2]
      have e : ((row ++ [x]).tail).length = row.length := by simp
      rw [e]
      refine List.ext_getElem? fun i => ?_
      by_cases hi : p.2 = i
      · subst hi
        obtain ⟨hlt, hv⟩ := List.getElem?_eq_some_iff.mp h2
        rw [List.getElem?_set_self (by simpa using hlt), List.getElem?_map, h2]
        rfl
      · rw [List.getElem?_set_ne hi]
theorem steps_fits {α : Type} {n : Nat} {zs : List Int} : ∀ (ps : List (Nat × Nat)) {L : Lay α}, Fits n zs L → Fits n zs (steps ps L)
  | [], _, h => h
  | p :: ps, _, h => steps_fits ps (step1_fits h p)
theorem count_set {l : List Nat} {i x y : Nat} (h : l[i]? = some x) (a : Nat) : (l.set i y).count a + (if x = a then 1 else 0) = l.count a + (if y = a then 1 else 0) := by
  induction l generalizing i with
  | nil => cases h
  | cons z l ih =>
    cases i with
    | zero =>
      cases h
      simp only [List.set_cons_zero, List.count_cons, beq_iff_eq]
      omega
    | succ i =>
      have := ih (i := i) (by simpa using h)
      simp only [List.set_cons_succ, List.count_cons]
      omega
theorem count_flat_set {l : List (List Nat)} {i : Nat} {x y : List Nat} (h : l[i]? = some x) (a : Nat) : (l.set i y).flatten.count a + x.count a = l.flatten.count a + y.count a := by
  induction l generalizing i with
  | nil => cases h
  | cons z l ih =>
    cases i with
    | zero =>
      cases h
      simp only [List.set_cons_zero, List.flatten_cons, List.count_append]
      omega
    | succ i =>
      have := ih (i := i) (by simpa using h)
      simp only [List.set_cons_succ, List.flatten_cons, List.count_append]
      omega
theorem step1_perm (L : Lay Nat) (p : Nat × Nat) : (join (step1 L p)).Perm (join L) := by
  unfold step1
  cases h1 : L.1[p.1]? with
  | none => exact .refl _
  | some x =>
    cases h2 : L.2[p.2]? with
    | none => exact .refl _
    | some row =>
      refine List.perm_iff_count.mpr fun a => ?_
      unfold join
      simp only [List.count_append]
      have e1 := count_set (y := row.headD x) h1 a
      have e2 := count_flat_set (y := (row ++ [x]).tail) h2 a
      have e3 : (if row.headD x = a then 1 else 0) + ((row ++ [x]).tail).count a = row.count a + (if x = a then 1 else 0) := by
        cases row with
        | nil => simp
        | cons y row =>
          simp only [List.headD_cons, List.cons_append, List.tail_cons, List.count_append, List.count_cons, List.count_nil]
          by_cases q1 : y = a <;> by_cases q2 : x = a <;> simp [q1, q2] <;> omega
      omega
theorem steps_perm : ∀ (ps : List (Nat × Nat)) (L : Lay Nat), (join (steps ps L)).Perm (join L)
  | [], _ => .refl _
  | p :: ps, L => (steps_perm ps (step1 L p)).trans (step1_perm L p)
def spl {α : Type} (n : Nat) (zs : List Int) (cs : List α) : Lay α := (cs.take n, segs cs n zs)
theorem segs_map {α β : Type} (f : α → β) (cs : List α) : ∀ (st : Nat) (zs : List Int), segs (cs.map f) st zs = (segs cs st zs).map (List.map f)
  | _, [] => rfl
  | st, z :: zs => by
    show ((cs.map f).drop st).take z.toNat :: segs (cs.map f) (st + z.toNat) zs = ((cs.drop st).take z.toNat).map f :: (segs cs (st + z.toNat) zs).map (List.map f)
    rw [segs_map f cs, List.map_take, List.map_drop]
theorem spl_map {α β : Type} (f : α → β) (n : Nat) (zs : List Int) (cs : List α) : spl n zs (cs.map f) = mapL f (spl n zs cs) := by
  unfold spl mapL
  rw [segs_map, List.map_take]
theorem join_spl {α : Type} {n : Nat} {zs : List Int} {cs : List α} (h : cs.length = n + sumN zs) : join (spl n zs cs) = cs := by
  unfold join spl
  simp only
  rw [segs_flat, List.take_of_length_le (l := cs.drop n) (by rw [List.length_drop]; omega), List.take_append_drop]
theorem spl_fits {α : Type} {n : Nat} {zs : List Int} {cs : List α} (h : cs.length = n + sumN zs) : Fits n zs (spl n zs cs) := by
  refine ⟨?_, segs_lens cs n zs (by omega)⟩
  show (cs.take n).length = n
  rw [List.length_take]
  omega
theorem flat_len2 {α : Type} : ∀ {ss : List (List α)} {zs : List Int}, ss.map List.length = zs.map Int.toNat → ss.flatten.length = sumN zs
  | [], [], _ => rfl
  | [], _ :: _, h => by cases h
  | _ :: _, [], h => by cases h
  | s :: ss, z :: zs, h => by
    rw [List.map_cons, List.map_cons] at h
    injection h with h1 h2
    rw [List.flatten_cons, List.length_append, flat_len2 h2]
    unfold sumN
    rw [List.map_cons, List.sum_cons]
    omega
theorem join_len {α : Type} {n : Nat} {zs : List Int} {L : Lay α} (h : Fits n zs L) : (join L).length = n + sumN zs := by
  unfold join
  rw [List.length_append, h.1, flat_len2 h.2]
theorem segs_of {α : Type} : ∀ {ss : List (List α)} {zs : List Int} (pre : List α), ss.map List.length = zs.map Int.toNat → segs (pre ++ ss.flatten) pre.length zs = ss
  | [], [], _, _ => rfl
  | [], _ :: _, _, h => by cases h
  | _ :: _, [], _, h => by cases h
  | s :: ss, z :: zs, pre, h => by
    rw [List.map_cons, List.map_cons] at h
    injection h with h1 h2
    show ((pre ++ (s ++ ss.flatten)).drop pre.length).take z.toNat :: segs (pre ++ (s ++ ss.flatten)) (pre.length + z.toNat) zs = s :: ss
    rw [List.drop_left, ← h1, List.take_left]
    have e := segs_of (pre ++ s) h2
    rw [List.length_append, List.append_assoc] at e
    rw [e]
theorem spl_join {α : Type} {n : Nat} {zs : List Int} {L : Lay α} (h : Fits n zs L) : spl n zs (join L) = L := by
  unfold spl join
  obtain ⟨a, b⟩ := L
  obtain ⟨h1, h2⟩ := h
  simp only at h1 h2 ⊢
  rw [← h1, List.take_left, segs_of a h2]
/-- the numbers of the places -/
def idx (n : Nat) (zs : List Int) : Lay Nat := spl n zs (List.range (n + sumN zs))
theorem idx_fits (n : Nat) (zs : List Int) : Fits n zs (idx n zs) := spl_fits (by rw [List.length_range])
theorem join_idx (n : Nat) (zs : List Int) : join (idx n zs) = List.range (n + sumN zs) := join_spl (by rw [List.length_range])
theorem map_getD {α : Type} (d : α) (cs : List α) : (List.range cs.length).map (fun i => cs.getD i d) = cs := by
  refine List.ext_getElem? fun i => ?_
  by_cases h : i < cs.length
  · rw [List.getElem?_map, List.getElem?_range h, Option.map_some, List.getD_eq_getElem?_getD, List.getElem?_eq_getElem h]
    rfl
  · rw [List.getElem?_eq_none (by simp; omega), List.getElem?_eq_none (by omega)]
theorem lay_idx {α : Type} (d : α) {n : Nat} {zs : List Int} {L : Lay α} (h : Fits n zs L) : L = mapL (fun i => (join L).getD i d) (idx n zs) := by
  unfold idx
  rw [← spl_map, ← join_len h, map_getD, spl_join h]
/-- the visits of the tick behind the time t -/
def vis (rs : List Ro) (t : Int) : List (Nat × Nat) := (prs rs t rs.length).map fun p => (p.1, p.2.toNat)
def tickL {α : Type} (rs : List Ro) (t : Int) (L : Lay α) : Lay α := steps (vis rs t) L
def run {α : Type} (rs : List Ro) (t : Int) : Nat → Lay α → Lay α
  | 0, L => L
  | k + 1, L => tickL rs (t + (k : Nat)) (run rs t k L)
theorem run_add {α : Type} (rs : List Ro) (t : Int) (a : Nat) : ∀ (b : Nat) (L : Lay α), run rs t (a + b) L = run rs (t + (a : Nat)) b (run rs t a L)
  | 0, _ => rfl
  | b + 1, L => by
    show tickL rs (t + ((a + b : Nat) : Int)) (run rs t (a + b) L) = tickL rs (t + (a : Nat) + (b : Nat)) (run rs (t + (a : Nat)) b (run rs t a L))
    rw [run_add rs t a b L]
    congr 1
    omega
theorem run_map {α β : Type} (f : α → β) (rs : List Ro) (t : Int) : ∀ (k : Nat) (L : Lay α), run rs t k (mapL f L) = mapL f (run rs t k L)
  | 0, _ => rfl
  | k + 1, L => by
    show tickL _ _ (run rs t k (mapL f L)) = mapL f (tickL _ _ (run rs t k L))
    rw [run_map f rs t k L]
    exact steps_map f _ _
theorem run_fits {α : Type} {n : Nat} {zs : List Int} (rs : List Ro) (t : Int) : ∀ (k : Nat) {L : Lay α}, Fits n zs L → Fits n zs (run rs t k L)
  | 0, _, h => h
  | k + 1, _, h => steps_fits _ (run_fits rs t k h)
theorem run_perm (rs : List Ro) (t : Int) : ∀ (k : Nat) (L : Lay Nat), (join (run rs t k L)).Perm (join L)
  | 0, _ => .refl _
  | k + 1, L => (steps_perm _ _).trans (run_perm rs t k L)
/-- from which place what is at each place now has come -/
def org (n : Nat) (zs : List Int) (rs : List Ro) (t : Int) (k : Nat) : List Nat := join (run rs t k (idx n zs))
theorem org_len (n : Nat) (zs : List Int) (rs : List Ro) (t : Int) (k : Nat) : (org n zs rs t k).length = n + sumN zs := join_len (run_fits rs t k (idx_fits n zs))
theorem org_eff (n : Nat) (zs : List Int) (rs : List Ro) (t : Int) (k : Nat) : Eff (org n zs rs t k) := by
  have p : (org n zs rs t k).Perm (List.range (n + sumN zs)) := by
    have := run_perm rs t k (idx n zs)
    rwa [join_idx] at this
  refine ⟨fun x hx => ?_, p.nodup_iff.mpr List.nodup_range⟩
  rw [org_len]
  exact List.mem_range.mp (p.mem_iff.mp hx)
theorem run_org {α : Type} (d : α) {n : Nat} {zs : List Int} {L : Lay α} (h : Fits n zs L) (rs : List Ro) (t : Int) (k : Nat) : join (run rs t k L) = (org n zs rs t k).map fun i => (join L).getD i d := by
  have e := lay_idx d h
  unfold org
  rw [← join_map, ← run_map, ← e]
theorem org_add (n : Nat) (zs : List Int) (rs : List Ro) (t : Int) (a b : Nat) : org n zs rs t (a + b) = comp (org n zs rs (t + (a : Nat)) b) (org n zs rs t a) := by
  show join (run rs t (a + b) (idx n zs)) = _
  rw [run_add, run_org 0 (run_fits rs t a (idx_fits n zs))]
  rfl
theorem org_zero (n : Nat) (zs : List Int) (rs : List Ro) (t : Int) : org n zs rs t 0 = List.range (n + sumN zs) := join_idx n zs
end Sv
set_option maxHeartbeats 1000000
namespace Sv
theorem ent_mod (r : Ro) (h : r ≠ []) (m : Int) : ent r m = entN r (m % (r.length : Int)).toNat := by
  have hl : 0 < r.length := List.length_pos_iff.mpr h
  have h0 := Int.emod_nonneg m (by omega : (r.length : Int) ≠ 0)
  have h1 := Int.emod_lt_of_pos m (by omega : (0 : Int) < (r.length : Int))
  unfold ent entN
  rw [Nat.mod_eq_of_lt (by omega)]
theorem ent_add {r : Ro} (h : r ≠ []) {L : Nat} (hd : rtp r ∣ L) (m : Int) : ent r (m + (L : Nat)) = ent r m := by
  have hl : 0 < r.length := List.length_pos_iff.mpr h
  have h0 := Int.emod_nonneg m (by omega : (r.length : Int) ≠ 0)
  have e : ent r (m + (L : Nat)) = ent r (((m % (r.length : Int)).toNat + L : Nat) : Int) := by
    unfold ent
    congr 2
    rw [Int.natCast_add, Int.toNat_of_nonneg h0, Int.emod_add_emod]
  rw [e, ent_nat, (per_dvd h L).mpr hd, ent_mod r h m]
theorem prs_add {rs : List Ro} (h : ∀ r ∈ rs, r ≠ []) {L : Nat} (hd : lc rs ∣ L) (m : Int) : prs rs (m + (L : Nat)) rs.length = prs rs m rs.length :=
  prs_iff.mpr fun r hr => ent_add (h r hr) (lc_dvd.mp hd r hr) m
theorem prs_mod {rs : List Ro} (h : ∀ r ∈ rs, r ≠ []) {m m' : Int} (e : (lc rs : Int) ∣ m - m') : prs rs m rs.length = prs rs m' rs.length := by
  have key : ∀ (m : Int) (q : Nat), prs rs (m + ((lc rs * q : Nat) : Int)) rs.length = prs rs m rs.length := fun m q => prs_add h (Nat.dvd_mul_right _ _) m
  obtain ⟨c, hc⟩ := e
  by_cases h0 : 0 ≤ c
  · obtain ⟨q, rfl⟩ := Int.eq_ofNat_of_zero_le h0
    rw [show m = m' + ((lc rs * q : Nat) : Int) by rw [Int.natCast_mul]; omega]
    exact key _ _
  · obtain ⟨q, hq⟩ := Int.eq_ofNat_of_zero_le (show 0 ≤ -c by omega)
    have e2 : m' = m + ((lc rs * q : Nat) : Int) := by
      rw [Int.natCast_mul, ← hq, Int.mul_neg]
      omega
    rw [e2]
    exact (key _ _).symm
theorem vis_mod {rs : List Ro} (h : ∀ r ∈ rs, r ≠ []) {m m' : Int} (e : (lc rs : Int) ∣ m - m') : vis rs m = vis rs m' := by
  unfold vis
  rw [prs_mod h e]
theorem run_mod {α : Type} {rs : List Ro} (h : ∀ r ∈ rs, r ≠ []) {m m' : Int} (e : (lc rs : Int) ∣ m - m') : ∀ (k : Nat) (L : Lay α), run rs m k L = run rs m' k L
  | 0, _ => rfl
  | k + 1, L => by
    show steps (vis rs (m + (k : Nat))) (run rs m k L) = steps (vis rs (m' + (k : Nat))) (run rs m' k L)
    rw [run_mod h e k L, vis_mod h (m := m + (k : Nat)) (m' := m' + (k : Nat)) (by rwa [show m + (k : Nat) - (m' + (k : Nat)) = m - m' by omega])]
theorem org_mod {n : Nat} {zs : List Int} {rs : List Ro} (h : ∀ r ∈ rs, r ≠ []) {m m' : Int} (e : (lc rs : Int) ∣ m - m') (k : Nat) : org n zs rs m k = org n zs rs m' k := by
  unfold org
  rw [run_mod h e]
theorem ap_inv {e : List Nat} (E : Eff e) {q : Nat} (hq : q < e.length) : ap e (ap (inv e) q) = q := by
  have := inv_ap (inv_eff E) (i := q) (by rw [inv_len]; exact hq)
  rwa [inv_inv E] at this
theorem inv_comp {a b : List Nat} (A : Eff a) (B : Eff b) (hl : a.length = b.length) : inv (comp a b) = comp (inv b) (inv a) := by
  have C := comp_eff A B hl
  refine ext_ap (by rw [inv_len, comp_len, comp_len, inv_len, hl]) fun q hq => ?_
  rw [inv_len, comp_len] at hq
  rw [comp_ap (by rw [inv_len]; omega)]
  have h1 : ap (inv b) q < b.length := by
    have := ap_lt (inv_eff B) (x := q) (by rw [inv_len]; omega)
    rwa [inv_len] at this
  have h2 : ap (inv a) (ap (inv b) q) < a.length := by
    have := ap_lt (inv_eff A) (x := ap (inv b) q) (by rw [inv_len]; omega)
    rwa [inv_len] at this
  have h3 : ap (comp a b) (ap (inv a) (ap (inv b) q)) = q := by
    rw [comp_ap h2, ap_inv A (by omega), ap_inv B (by omega)]
  have h4 := inv_ap C (i := ap (inv a) (ap (inv b) q)) (by rw [comp_len]; exact h2)
  rwa [h3] at h4
theorem range_ap {n p : Nat} (h : p < n) : ap (List.range n) p = p := by
  unfold ap
  rw [List.getD_eq_getElem?_getD, List.getElem?_range h]
  rfl
theorem comp_rg {e : List Nat} (E : Eff e) {n : Nat} (hn : e.length = n) : comp e (List.range n) = e := by
  refine ext_ap (comp_len _ _) fun p hp => ?_
  rw [comp_len] at hp
  rw [comp_ap hp, range_ap (by rw [← hn]; exact ap_lt E hp)]
theorem rg_comp {e : List Nat} {n : Nat} (hn : e.length = n) : comp (List.range n) e = e := by
  refine ext_ap (by rw [comp_len, List.length_range, hn]) fun p hp => ?_
  rw [comp_len, List.length_range] at hp
  rw [comp_ap (by rw [List.length_range]; exact hp), range_ap hp]
theorem inv_range (n : Nat) : inv (List.range n) = List.range n := by
  have R : Eff (List.range n) := ⟨fun x hx => by rw [List.length_range]; exact List.mem_range.mp hx, List.nodup_range⟩
  refine ext_ap (inv_len _) fun p hp => ?_
  rw [inv_len, List.length_range] at hp
  have := inv_ap R (i := p) (by rw [List.length_range]; exact hp)
  rw [range_ap hp] at this
  rw [this, range_ap hp]
section
variable (n : Nat) (zs : List Int) (rs : List Ro)
/-- so many ticks on -/
def fwd (t : Int) (k : Nat) : List Nat := inv (org n zs rs t k)
theorem fwd_len (t : Int) (k : Nat) : (fwd n zs rs t k).length = n + sumN zs := (inv_len _).trans (org_len ..)
theorem fwd_eff (t : Int) (k : Nat) : Eff (fwd n zs rs t k) := inv_eff (org_eff ..)
theorem fwd_add (t : Int) (a b : Nat) : fwd n zs rs t (a + b) = comp (fwd n zs rs t a) (fwd n zs rs (t + (a : Nat)) b) := by
  unfold fwd
  rw [org_add, inv_comp (org_eff ..) (org_eff ..) (by rw [org_len, org_len])]
theorem fwd_zero (t : Int) : fwd n zs rs t 0 = List.range (n + sumN zs) := by
  unfold fwd
  rw [org_zero, inv_range]
variable {rs}
theorem fwd_mod (h : ∀ r ∈ rs, r ≠ []) {m m' : Int} (e : (lc rs : Int) ∣ m - m') (k : Nat) : fwd n zs rs m k = fwd n zs rs m' k := by
  unfold fwd
  rw [org_mod h e]
variable (rs)
/-- a pattern -/
noncomputable def wh (t : Int) : List Nat := fwd n zs rs t (lc rs)
theorem wh_len (t : Int) : (wh n zs rs t).length = n + sumN zs := fwd_len ..
theorem wh_eff (t : Int) : Eff (wh n zs rs t) := fwd_eff ..
/-- any number of ticks, on or back -/
noncomputable def effT (t c : Int) : List Nat := comp (rep (wh n zs rs t) (c / (lc rs : Int))) (fwd n zs rs t (c % (lc rs : Int)).toNat)
theorem effT_len (t c : Int) : (effT n zs rs t c).length = n + sumN zs := by
  unfold effT
  rw [comp_len, rep_len, wh_len]
theorem effT_eff (t c : Int) : Eff (effT n zs rs t c) := comp_eff (rep_eff (wh_eff ..) _) (fwd_eff ..) (by rw [rep_len, wh_len, fwd_len])
variable {rs}
variable (h : ∀ r ∈ rs, r ≠ []) (hp : 1 ≤ lc rs)
include h
theorem wh_mod {m m' : Int} (e : (lc rs : Int) ∣ m - m') : wh n zs rs m = wh n zs rs m' := fwd_mod n zs h e _
theorem fwd_mul (t : Int) : ∀ q : Nat, fwd n zs rs t (q * lc rs) = rep (wh n zs rs t) (q : Nat)
  | 0 => by rw [Nat.zero_mul, fwd_zero, show ((0 : Nat) : Int) = 0 from rfl, rep_zero, wh_len]
  | q + 1 => by
    rw [Nat.succ_mul, fwd_add, fwd_mul t q, ← rep_succ (wh_eff ..)]
    congr 1
    exact fwd_mod n zs h ⟨q, by rw [Int.natCast_mul, Int.mul_comm]; omega⟩ _
include hp
theorem effT_key (t q : Int) (r : Nat) : comp (rep (wh n zs rs t) q) (fwd n zs rs t r) = effT n zs rs t (q * (lc rs : Int) + (r : Nat)) := by
  have hP : (0 : Int) < (lc rs : Int) := by omega
  have e0 := Nat.div_add_mod r (lc rs)
  have e1 : fwd n zs rs t r = comp (rep (wh n zs rs t) ((r / lc rs : Nat) : Int)) (fwd n zs rs t (r % lc rs)) := by
    have := fwd_add n zs rs t (r / lc rs * lc rs) (r % lc rs)
    rw [Nat.mul_comm, e0, Nat.mul_comm, fwd_mul n zs h] at this
    rw [this]
    congr 1
    exact fwd_mod n zs h ⟨((r / lc rs : Nat) : Int), by rw [Int.natCast_mul, Int.mul_comm]; omega⟩ _
  rw [e1, ← comp_assoc (rep_eff (wh_eff ..) _) (by rw [rep_len, rep_len]), rep_comp (wh_eff ..)]
  unfold effT
  have e2 : q * (lc rs : Int) + (r : Nat) = (q + ((r / lc rs : Nat) : Int)) * (lc rs : Int) + ((r % lc rs : Nat) : Int) := by
    have : (r : Int) = (lc rs : Int) * ((r / lc rs : Nat) : Int) + ((r % lc rs : Nat) : Int) := by
      rw [← Int.natCast_mul]
      omega
    rw [this, Int.add_mul, Int.mul_comm (lc rs : Int)]
    omega
  have hlt : ((r % lc rs : Nat) : Int) < (lc rs : Int) := by
    have := Nat.mod_lt r (show 0 < lc rs by omega)
    omega
  have e3 : (q * (lc rs : Int) + (r : Nat)) / (lc rs : Int) = q + ((r / lc rs : Nat) : Int) := by
    rw [e2, Int.add_comm, Int.add_mul_ediv_right _ _ (by omega), Int.ediv_eq_zero_of_lt (by omega) hlt, Int.zero_add]
  have e4 : (q * (lc rs : Int) + (r : Nat)) % (lc rs : Int) = ((r % lc rs : Nat) : Int) := by
    rw [e2, Int.add_comm, Int.add_mul_emod_self_right, Int.emod_eq_of_lt (by omega) hlt]
  rw [e3, e4, Int.toNat_natCast]
theorem effT_nat (t : Int) (k : Nat) : effT n zs rs t (k : Nat) = fwd n zs rs t k := by
  have := effT_key n zs h hp t 0 k
  rw [rep_zero, wh_len, rg_comp (fwd_len ..)] at this
  rw [this]
  congr 1
  omega
theorem effT_mod {m m' : Int} (e : (lc rs : Int) ∣ m - m') (c : Int) : effT n zs rs m c = effT n zs rs m' c := by
  unfold effT
  rw [wh_mod n zs h e, fwd_mod n zs h e]
end
end Sv
set_option maxHeartbeats 1000000
namespace Sv
noncomputable def cyc (e : List Nat) (s : Nat) : List Nat := (List.range (per e s)).map fun k => it e k s
theorem cyc_len (e : List Nat) (s : Nat) : (cyc e s).length = per e s := by unfold cyc; simp
theorem cyc_at {e : List Nat} {s j : Nat} (h : j < per e s) : (cyc e s)[j]? = some (it e j s) := by
  unfold cyc
  rw [List.getElem?_map, List.getElem?_range h]
  rfl
theorem cyc_mem {e : List Nat} (E : Eff e) {s : Nat} (hs : s < e.length) {p : Nat} : p ∈ cyc e s ↔ ∃ k, p = it e k s := by
  unfold cyc
  rw [List.mem_map]
  constructor
  · rintro ⟨k, _, rfl⟩
    exact ⟨k, rfl⟩
  · rintro ⟨k, rfl⟩
    exact ⟨k % per e s, List.mem_range.mpr (Nat.mod_lt _ (per_pos E hs)), (it_mod E hs k).symm⟩
theorem cyc_nodup {e : List Nat} (E : Eff e) {s : Nat} (hs : s < e.length) : (cyc e s).Nodup := map_nodup fun i j hij hj q => by
  have e1 : it e j s = it e i (it e (j - i) s) := by
    rw [← it_add]
    congr 1
    omega
  rw [e1] at q
  have q2 := (it_inj (k := i) E hs (it_lt E hs) q).symm
  exact (per_spec E hs).2.2.1 (j - i) (by omega) (by omega) q2
open Classical in
noncomputable def whN (e : List Nat) : Nat → List (List Nat)
  | 0 => []
  | k + 1 => if k ∈ (whN e k).flatten then whN e k else whN e k ++ [cyc e k]
noncomputable def wheels (e : List Nat) : List (List Nat) := whN e e.length
structure Wh (e : List Nat) (cs : List (List Nat)) : Prop where
  cy : ∀ c ∈ cs, ∃ s, s < e.length ∧ c = cyc e s
  nd : cs.flatten.Nodup
theorem Wh.lt {e : List Nat} (E : Eff e) {cs : List (List Nat)} (W : Wh e cs) {p : Nat} (h : p ∈ cs.flatten) : p < e.length := by
  obtain ⟨c, hc, hp⟩ := List.mem_flatten.mp h
  obtain ⟨s, hs, rfl⟩ := W.cy c hc
  obtain ⟨k, rfl⟩ := (cyc_mem E hs).mp hp
  exact it_lt E hs
theorem Wh.closed {e : List Nat} (E : Eff e) {cs : List (List Nat)} (W : Wh e cs) {p j : Nat} (hp : p < e.length) (h : it e j p ∈ cs.flatten) : p ∈ cs.flatten := by
  obtain ⟨c, hc, hm⟩ := List.mem_flatten.mp h
  obtain ⟨s, hs, rfl⟩ := W.cy c hc
  obtain ⟨k, hk⟩ := (cyc_mem E hs).mp hm
  refine List.mem_flatten.mpr ⟨_, hc, (cyc_mem E hs).mpr ⟨(per e p - j % per e p) + k, ?_⟩⟩
  have hpos := per_pos E hp
  have hlt := Nat.mod_lt j hpos
  rw [it_add, ← hk, it_mod E hp j, ← it_add]
  rw [show per e p - j % per e p + j % per e p = per e p by omega]
  exact (per_spec E hp).2.1.symm
theorem whN_ok {e : List Nat} (E : Eff e) : ∀ k, k ≤ e.length → Wh e (whN e k) ∧ ∀ p, p < k → p ∈ (whN e k).flatten
  | 0, _ => ⟨⟨fun c h => (by cases h), List.nodup_nil⟩, fun p h => by omega⟩
  | k + 1, hk => by
    obtain ⟨W, hc⟩ := whN_ok E k (by omega)
    unfold whN
    by_cases h : k ∈ (whN e k).flatten
    · rw [if_pos h]
      refine ⟨W, fun p hp => ?_⟩
      by_cases hpk : p = k
      · rw [hpk]; exact h
      · exact hc p (by omega)
    · rw [if_neg h]
      refine ⟨⟨fun c hm => ?_, ?_⟩, fun p hp => ?_⟩
      · rcases List.mem_append.mp hm with hm | hm
        · exact W.cy c hm
        · exact ⟨k, by omega, by simpa using hm⟩
      · rw [List.flatten_append, List.flatten_singleton]
        refine List.nodup_append.mpr ⟨W.nd, cyc_nodup E (by omega), fun a ha b hb q => ?_⟩
        subst q
        obtain ⟨j, hj⟩ := (cyc_mem E (by omega)).mp hb
        rw [hj] at ha
        exact h (W.closed E (by omega) ha)
      · rw [List.flatten_append, List.flatten_singleton]
        by_cases hpk : p = k
        · rw [hpk]
          exact List.mem_append_right _ ((cyc_mem E (by omega)).mpr ⟨0, rfl⟩)
        · exact List.mem_append_left _ (hc p (by omega))
theorem wheels_ok {e : List Nat} (E : Eff e) : Wh e (wheels e) ∧ ∀ p, p < e.length → p ∈ (wheels e).flatten := whN_ok E _ (Nat.le_refl _)
theorem Wh.flat_len {e : List Nat} (E : Eff e) {cs : List (List Nat)} (W : Wh e cs) : cs.flatten.length ≤ e.length := below_len W.nd fun x hx => W.lt E hx
theorem Wh.len {e : List Nat} (E : Eff e) {cs : List (List Nat)} (W : Wh e cs) : cs.length ≤ e.length := by
  have h : ∀ cs : List (List Nat), (∀ c ∈ cs, 1 ≤ c.length) → cs.length ≤ cs.flatten.length := by
    intro cs
    induction cs with
    | nil => intro _; exact Nat.le_refl _
    | cons c r ih =>
      intro h
      have h1 := h c (List.mem_cons_self ..)
      have h2 := ih fun d hd => h d (List.mem_cons_of_mem _ hd)
      rw [List.flatten_cons, List.length_append]
      show r.length + 1 ≤ _
      omega
  refine Nat.le_trans (h cs fun c hc => ?_) (W.flat_len E)
  obtain ⟨s, hs, rfl⟩ := W.cy c hc
  rw [cyc_len]
  exact per_pos E hs
def lcmL (cs : List (List Nat)) : Nat := cs.foldl (fun m c => Nat.lcm m c.length) 1
theorem lcmL_snoc (cs : List (List Nat)) (c : List Nat) : lcmL (cs ++ [c]) = Nat.lcm (lcmL cs) c.length := by
  unfold lcmL
  rw [List.foldl_append]
  rfl
theorem snoc_ind {α : Type} {P : List α → Prop} (h0 : P []) (h1 : ∀ l a, P l → P (l ++ [a])) (l : List α) : P l := by
  have h : ∀ n (l : List α), l.length = n → P l := by
    intro n
    induction n with
    | zero => intro l hl; rw [List.eq_nil_of_length_eq_zero hl]; exact h0
    | succ n ih =>
      intro l hl
      have hne : l ≠ [] := fun q => by rw [q] at hl; cases hl
      rw [← List.dropLast_concat_getLast hne]
      exact h1 _ _ (ih _ (by rw [List.length_dropLast]; omega))
  exact h _ l rfl
theorem lcmL_dvd (cs : List (List Nat)) : ∀ c ∈ cs, c.length ∣ lcmL cs := by
  refine snoc_ind (P := fun cs => ∀ c ∈ cs, c.length ∣ lcmL cs) (fun c h => by cases h) (fun l a ih c h => ?_) cs
  rw [lcmL_snoc]
  rcases List.mem_append.mp h with h | h
  · exact Nat.dvd_trans (ih c h) (Nat.dvd_lcm_left _ _)
  · have e : c = a := by simpa using h
    rw [e]
    exact Nat.dvd_lcm_right _ _
theorem lcmL_least (cs : List (List Nat)) (m : Nat) : (∀ c ∈ cs, c.length ∣ m) → lcmL cs ∣ m := by
  refine snoc_ind (P := fun cs => (∀ c ∈ cs, c.length ∣ m) → lcmL cs ∣ m) (fun _ => Nat.one_dvd _) (fun l a ih h => ?_) cs
  rw [lcmL_snoc]
  exact Nat.lcm_dvd (ih fun c hc => h c (List.mem_append_left _ hc)) (h a (by simp))
noncomputable def ord (e : List Nat) : Nat := lcmL (wheels e)
theorem per_dvd_ord {e : List Nat} (E : Eff e) {p : Nat} (hp : p < e.length) : per e p ∣ ord e := by
  obtain ⟨W, h⟩ := wheels_ok E
  obtain ⟨c, hc, hm⟩ := List.mem_flatten.mp (h p hp)
  obtain ⟨s, hs, rfl⟩ := W.cy c hc
  obtain ⟨k, rfl⟩ := (cyc_mem E hs).mp hm
  have q := lcmL_dvd _ _ hc
  rw [cyc_len] at q
  rw [per_it E hs]
  exact q
theorem ord_dvd {e : List Nat} (E : Eff e) {m : Nat} (h : ∀ p, p < e.length → per e p ∣ m) : ord e ∣ m := by
  obtain ⟨W, _⟩ := wheels_ok E
  refine lcmL_least _ _ fun c hc => ?_
  obtain ⟨s, hs, rfl⟩ := W.cy c hc
  rw [cyc_len]
  exact h s hs
theorem rp_dvd {e : List Nat} (E : Eff e) {p : Nat} (hp : p < e.length) {c d : Int} (h : c % (ord e : Int) = d % (ord e : Int)) : rp e c p = rp e d p := by
  obtain ⟨m, hm⟩ := per_dvd_ord E hp
  have h2 : (per e p : Int) ∣ (ord e : Int) := ⟨(m : Int), by rw [hm, Int.natCast_mul]⟩
  unfold rp
  rw [← Int.emod_emod_of_dvd c h2, h, Int.emod_emod_of_dvd d h2]
theorem rep_mod {e : List Nat} (E : Eff e) {c d : Int} (h : c % (ord e : Int) = d % (ord e : Int)) : rep e c = rep e d := List.map_congr_left fun p hp => rp_dvd E (List.mem_range.mp hp) h
theorem rep_id_dvd {e : List Nat} (E : Eff e) {m : Nat} (h : rep e (m : Int) = List.range e.length) : ord e ∣ m := ord_dvd E fun p hp => by
  have q := congrArg (fun l => ap l p) h
  have q : ap (rep e (m : Int)) p = ap (List.range e.length) p := q
  rw [rep_ap hp, rp_nat E m hp] at q
  have e2 : ap (List.range e.length) p = p := by
    unfold ap
    rw [List.getD_eq_getElem?_getD, List.getElem?_range hp]
    rfl
  rw [e2] at q
  exact (it_eq_iff E hp m).mp q
end Sv
set_option maxHeartbeats 4000000
namespace Sv
open PySem PySem.Spec PyProof.Rows L2
theorem b_isinstance : bootBuiltins "isinstance" = some (.builtin "isinstance") := by decide +kernel
theorem b_len : bootBuiltins "len" = some (.builtin "len") := by decide +kernel
theorem b_max : bootBuiltins "max" = some (.builtin "max") := by decide +kernel
theorem b_bool : bootBuiltins "bool" = some (.type "bool") := by decide +kernel
theorem b_int : bootBuiltins "int" = some (.type "int") := by decide +kernel
theorem b_list : bootBuiltins "list" = some (.type "list") := by decide +kernel
theorem b_tuple : bootBuiltins "tuple" = some (.type "tuple") := by decide +kernel
theorem pe_ty {X : Cx} {x : Str} {T : String} {pos : Pos} (hg : Gl X x) (hm : X.mg x = none) (hv : bootBuiltins x = some (.type T)) (hn : x ≠ "__name__" := by decide) (hd : (x == ("__debug__" : Str)) = false := by decide) : PE X (.Name x pos) (tC (.ty T)) :=
  pe_bltn hg hm hv rfl hn hd
theorem b_sum : bootBuiltins "sum" = some (.builtin "sum") := by decide +kernel
theorem scWithin : FnScope ["number", "low", "high"] ["number", "low", "high"] (defScope sWithin) := ⟨rfl, rfl, rfl, by decide +kernel, rfl, by decide +kernel, by decide +kernel⟩
section
variable {P : Program} {w : World} {K : PySem.W.Frag} {mg : Str → Option Value} {base : Heap}
def spWithin : Sp := fun vs H Q _ => ∃ n lo hi : Int, vs = [.int n, .int lo, .int hi] ∧ Q (.bl (decide (lo ≤ n ∧ n ≤ hi))) H
theorem ok_within {f : Addr} {fd : FuncData} {k : Nat} (F : Fun K "is_within" "is_within" sWithin f fd) (mi : mg "isinstance" = none) (mb : mg "bool" = none) (mn : mg "int" = none) :
    FnOk P w K mg base CX0 (k + 1) f fd ["number", "low", "high"] spWithin := by
  refine F.ok scWithin (fun vs H Q E h => ?_) (fun cdv A outer s H vs Q E hr h => ?_)
  · obtain ⟨n, lo, hi, rfl, _⟩ := h
    rfl
  · obtain ⟨n, lo, hi, rfl, q⟩ := h
    refine ⟨_, pss_cons (ps_if (pw_or (pt_val (pe_callB call_isi (by rfl) mi b_isinstance (pa_cons (pv 0) (pa_cons (pe_ty (by rfl) mb b_bool) pa_nil))))
        (pw_or1 (pt_not (pt_val (pe_callB call_isi (by rfl) mi b_isinstance (pa_cons (pv 0) (pa_cons (pe_ty (by rfl) mn b_int) pa_nil))))))).pt
      (pss_one (ps_ret pe_bl)) pss_nil)
      (pss_one (ps_ret (pe_chain op_le op_le (pv 1) (pv 0) (pv 2)))), ?_⟩
    refine ⟨.int n, rfl, .int n, .ty "bool", _, _, false, rfl, .ty "bool", .base (.int n), kit_ty (by decide +kernel), false, rfl, iteF ?_⟩
    refine ⟨.int n, rfl, .int n, .ty "int", _, _, true, rfl, .ty "int", .base (.int n), kit_ty (by decide +kernel), true, rfl, iteF ?_⟩
    refine ⟨.int lo, rfl, .int n, rfl, lo, n, rfl, rfl, _, rfl, ?_⟩
    by_cases h1 : lo ≤ n
    · rw [decide_eq_true h1]
      refine iteT ⟨.int hi, rfl, n, hi, rfl, rfl, ?_⟩
      show Q (.bl (decide (n ≤ hi))) H
      have e : decide (n ≤ hi) = decide (lo ≤ n ∧ n ≤ hi) := by simp [h1]
      rw [e]
      exact q
    · rw [decide_eq_false h1]
      have e : decide (lo ≤ n ∧ n ≤ hi) = false := by simp [h1]
      rw [e] at q
      exact iteF q
end
theorem tyx_tup {K : PySem.W.Frag} {H : Hp} {a : Addr} {xs : List V} (h : SqT K H a xs) : TyX K H (.ref a) (.type "tuple") := by
  rcases h with (h | ⟨o, h⟩) | ⟨o, its, n, h1, h2, _⟩
  · exact .base (.tup h)
  · exact .fTuple h
  · exact .kTuple h1 h2
structure Bt (mg : Str → Option Value) : Prop where
  isinstance : mg "isinstance" = none
  bool : mg "bool" = none
  int : mg "int" = none
  str : mg "str" = none
  list : mg "list" = none
  tuple : mg "tuple" = none
  dict : mg "dict" = none
  len : mg "len" = none
  range : mg "range" = none
  enumerate : mg "enumerate" = none
  max : mg "max" = none
  sum : mg "sum" = none
  set : mg "set" = none
  zip : mg "zip" = none
  divmod : mg "divmod" = none
  sorted : mg "sorted" = none
  abs : mg "abs" = none
  min : mg "min" = none
structure Df (K : PySem.W.Frag) (mg : Str → Option Value) (x : Str) (st : Stmt) (ps : List Str) (f : Addr) (fd : FuncData) : Prop where
  F : Fun K x x st f fd
  b : Binds K fd ps []
  g : mg x = some (.ref f)
theorem same_upd {H : Hp} {p : Addr} {o : HO} (h : H p = none) : Same H (upd H p o) := fun b x e => by
  rw [upd_ne (ne_of_none e h)]
  exact e
theorem same_of {H H' : Hp} {p : Addr} {o : HO} (e : Same H H') (h : H p = none) : Same H (upd H' p o) := fun b x q => by
  rw [upd_ne (ne_of_none q h)]
  exact e b x q
theorem sqT_same {K : PySem.W.Frag} {H H' : Hp} {a : Addr} {xs : List V} (e : Same H H') (h : SqT K H a xs) : SqT K H' a xs := by
  rcases h with (h | ⟨o, h⟩) | h
  · exact .inl (.inl (e _ _ h))
  · exact .inl (.inr ⟨o, e _ _ h⟩)
  · exact .inr h
theorem sz1000 {n : Nat} (h : n ≤ 1000) : n ≤ sizeLine := Nat.le_of_lt (small1000 h)
theorem yes_go {σ2 : L2.St} {H2 : Hp} {A B : Hp → Prop} (h : A H2) : tYes σ2 H2 (fun b H3 => if b = true then A H3 else B H3) := by
  show (if true = true then A H2 else B H2)
  rw [if_pos rfl]
  exact h
theorem ixN_nat {n j : Nat} (h : j < n) : ixN n (j : Int) = some j := by
  unfold ixN
  rw [if_pos (by omega), if_pos (by omega), Int.toNat_natCast]
structure LawH (H : Hp) (h l : Addr) : Prop where
  ex : ∃ (m i : Int) (cs : List Int), H h = some (.lst [.int m, .ref l, .int i]) ∧ H l = some (.lst (cs.map V.int)) ∧ cs.length ≤ 1000
def SameX (h l : Addr) (H H' : Hp) : Prop := ∀ b o, b ≠ h → b ≠ l → H b = some o → H' b = some o
theorem LawH.ne {H : Hp} {h l : Addr} (x : LawH H h l) : h ≠ l := by
  obtain ⟨m, i, cs, e1, e2, _⟩ := x.ex
  intro z
  subst z
  rw [e1] at e2
  have e3 := HO.lst.inj (Option.some.inj e2)
  match cs, e3 with
  | [], e3 => cases e3
  | [_], e3 => cases e3
  | _ :: _ :: _, e3 => cases e3
theorem LawH.same {H H' : Hp} {h l : Addr} (x : LawH H h l) (e : Same H H') : LawH H' h l := by
  obtain ⟨m, i, cs, e1, e2, e3⟩ := x.ex
  exact ⟨m, i, cs, e _ _ e1, e _ _ e2, e3⟩
theorem SameX.trans {H H1 H2 : Hp} {h l : Addr} (a : SameX h l H H1) (b : SameX h l H1 H2) : SameX h l H H2 := fun c o h1 h2 q => b c o h1 h2 (a c o h1 h2 q)
section
variable {P : Program} {w : World} {K : PySem.W.Frag} {mg : Str → Option Value} {base : Heap}
theorem scNext : FnScope ["_law_h", "_law_limit", "_law_cell"] ["_law_h", "_law_limit"] (defScope sNext) := ⟨rfl, rfl, rfl, by decide +kernel, rfl, by decide +kernel, by decide +kernel⟩
theorem scMix : FnScope ["_law_script", "_law_seed", "_law_mixed", "_law_cell"] ["_law_script", "_law_seed"] (defScope sMix) := ⟨rfl, rfl, rfl, by decide +kernel, rfl, by decide +kernel, by decide +kernel⟩
def spNext : Sp := fun vs H Q _ => ∃ (h l : Addr) (lim : Int), vs = [.ref h, .int lim] ∧ LawH H h l ∧ 0 < lim ∧ lim < 2 ^ 64 ∧ ∀ r H', 0 ≤ r → r < lim → LawH H' h l → SameX h l H H' → Q (.int r) H'
theorem ok_next {f : Addr} {fd : FuncData} (F : Fun K "_law_next" "_law_next" sNext f fd) (B : Bt mg) : FnOk P w K mg base CX0 1 f fd ["_law_h", "_law_limit"] spNext := by
  refine F.ok scNext (fun vs H Q E h => ?_) (fun cdv A outer s H vs Q E hr h => ?_)
  · obtain ⟨h, l, lim, rfl, _⟩ := h
    rfl
  · obtain ⟨h, l, lim, rfl, LH, p1, p2, q⟩ := h
    have LHx := LH
    have hne := LH.ne
    obtain ⟨m, i, cs, e1, e2, e3⟩ := LH.ex
    refine ⟨_, pss_cons (ps_set (i := 2) scNext.nd rfl (Or.inl rfl) (pe_ix ix_list (pe_op op_cat (pe_ix ix_list (pv 0) pe_int (fun _ _ => rfl)) (pe_lst (pa_cons pe_int pa_nil)))
        (pe_op op_mod (pe_callTy call_int1 (by rfl) B.int b_int (pa_cons (pe_ix ix_list (pv 0) pe_int (fun _ _ => rfl)) pa_nil)) (pe_callB (call_max2 rfl) (by rfl) B.max b_max (pa_cons pe_int (pa_cons (pe_callB call_len_seq (by rfl) B.len b_len (pa_cons (pe_ix ix_list (pv 0) pe_int (fun _ _ => rfl)) pa_nil)) pa_nil)))) (fun _ _ => rfl)))
      (pss_cons (ps_if (pt_cmpR op_ge (pv 2) (pe_op op_pow pe_int pe_int) (nomark _))
        (pss_cons (ps_asg (pe_op op_fdivW (pv 2) (pv 1)) (pg_sub (pe_ix ix_list (pv 0) pe_int (fun _ _ => rfl)) (pe_op op_mod (pe_callTy call_int1 (by rfl) B.int b_int (pa_cons (pe_ix ix_list (pv 0) pe_int (fun _ _ => rfl)) pa_nil)) (pe_callB call_len_seq (by rfl) B.len b_len (pa_cons (pe_ix ix_list (pv 0) pe_int (fun _ _ => rfl)) pa_nil))) set_list))
        (pss_one (ps_ret (pe_op op_mod (pe_callTy call_int1 (by rfl) B.int b_int (pa_cons (pv 2) pa_nil)) (pv 1))))) pss_nil)
      (pss_cons (ps_asg (pe_op op_mod (pe_op op_add (pe_op op_add (pe_op op_mul (pe_ix ix_list (pv 0) pe_int (fun _ _ => rfl)) pe_int) (pe_op op_mul (pv 2) pe_int)) pe_int) pe_int) (pg_sub (pv 0) pe_int set_list))
      (pss_cons (ps_asg (pe_op op_add (pe_ix ix_list (pv 0) pe_int (fun _ _ => rfl)) pe_int) (pg_sub (pv 0) pe_int set_list))
      (pss_one (ps_ret (pe_op op_mod (pe_op op_fdiv (pe_ix ix_list (pv 0) pe_int (fun _ _ => rfl)) pe_int) (pv 1))))))), ?_⟩
    refine ⟨.ref h, rfl, h, _, 1, .ref l, rfl, rfl, .inl (.inl e1), rfl, (by show 1 ≤ sizeLine; decide), fun z hz => ?_⟩
    have hl1 : l ≠ z := ne_of_none e2 hz
    have hl2 : h ≠ z := ne_of_none e1 hz
    refine ⟨l, z, _, _, rfl, rfl, by rw [upd_ne hl1]; exact e2, upd_same, ?_, fun u hu => ?_⟩
    · rw [List.length_map]
      show cs.length + 1 ≤ sizeLine
      exact small1000 e3
    have sm1 : Same H (upd H z (.lst [.int 0])) := same_upd hz
    have sm2 : Same H (upd (upd H z (.lst [.int 0])) u (.lst (cs.map V.int ++ [.int 0]))) := same_of sm1 (Same.free sm1 hu)
    generalize hG : upd (upd H z (.lst [.int 0])) u (.lst (cs.map V.int ++ [.int 0])) = G at sm2 ⊢
    have g1 := sm2 _ _ e1
    have g2 := sm2 _ _ e2
    have g3 : G u = some (.lst ((cs ++ [0]).map V.int)) := by rw [← hG, upd_same, List.map_append]; rfl
    have hmax : (if ((cs.map V.int).length : Int) > 1 then ((cs.map V.int).length : Int) else 1) = ((max 1 cs.length : Nat) : Int) := by
      rw [List.length_map]
      split <;> omega
    have hM : (0 : Int) < ((max 1 cs.length : Nat) : Int) := by omega
    have i0 := Int.emod_nonneg i (Int.ne_of_gt hM)
    have i1 := Int.emod_lt_of_pos i hM
    obtain ⟨k, hk⟩ : ∃ k : Nat, i % ((max 1 cs.length : Nat) : Int) = (k : Int) := ⟨_, (Int.toNat_of_nonneg i0).symm⟩
    have hk1 : k < (cs ++ [0]).length := by
      rw [List.length_append]
      show k < cs.length + 1
      omega
    obtain ⟨cell, hcell⟩ : ∃ c, (cs ++ [0])[k]? = some c := ⟨_, List.getElem?_eq_getElem hk1⟩
    refine ⟨.ref h, rfl, h, _, 2, .int i, rfl, rfl, .inl (.inl g1), rfl, .inl ⟨i, rfl, ?_⟩⟩
    refine ⟨.ref h, rfl, h, _, 1, .ref l, rfl, rfl, .inl (.inl g1), rfl, l, _, rfl, .inl (.inl (.inl g2)), 1, _, rfl, ?_⟩
    refine ⟨i, ((max 1 cs.length : Nat) : Int), rfl, congrArg V.int hmax, hM, ?_⟩
    refine ⟨u, _, (k : Int), .int cell, rfl, congrArg V.int hk, .inl (.inl g3), atI_nat (by rw [List.getElem?_map, hcell]; rfl), ?_⟩
    -- the test
    refine ⟨.int cell, rfl, 10, 18, rfl, rfl, ⟨by decide, by decide, by decide⟩, cell, 10 ^ (18 : Int).toNat, rfl, rfl, _, rfl, ite2 (fun hc => ?_) (fun hc => ?_)⟩
    · have hc2 : (10 : Int) ^ (18 : Int).toNat ≤ cell := of_decide_eq_true hc
      have hc3 : (0 : Int) < cell := Int.lt_of_lt_of_le (by decide) hc2
      have hk2 : k < cs.length := by
        by_cases hkl : k < cs.length
        · exact hkl
        · have : k = cs.length := by
            rw [List.length_append] at hk1
            have : k < cs.length + 1 := hk1
            omega
          rw [this, List.getElem?_append_right (Nat.le_refl _), Nat.sub_self] at hcell
          have : (0 : Int) = cell := Option.some.inj hcell
          omega
      have hl0 : (0 : Int) < ((cs.map V.int).length : Int) := by rw [List.length_map]; omega
      have hkk : i % ((cs.map V.int).length : Int) = (k : Int) := by
        rw [List.length_map, ← hk]
        congr 1
        omega
      refine ⟨.int cell, rfl, .int lim, rfl, cell, lim, rfl, rfl, wide_div (b := 64) p1 (by omega) (by decide) (by decide), ?_⟩
      refine ⟨.ref h, rfl, h, _, 1, .ref l, rfl, rfl, .inl (.inl g1), rfl, ?_⟩
      refine ⟨.ref h, rfl, h, _, 2, .int i, rfl, rfl, .inl (.inl g1), rfl, .inl ⟨i, rfl, ?_⟩⟩
      refine ⟨.ref h, rfl, h, _, 1, .ref l, rfl, rfl, .inl (.inl g1), rfl, l, _, rfl, .inl (.inl (.inl g2)), i, _, rfl, rfl, hl0, ?_⟩
      refine ⟨l, cs.map V.int, (k : Int), k, rfl, congrArg V.int hkk, g2, ixN_nat (by rw [List.length_map]; exact hk2), ?_⟩
      refine ⟨.int cell, rfl, .inl ⟨cell, rfl, .int lim, rfl, cell, lim, rfl, rfl, p1, ?_⟩⟩
      refine q _ _ (Int.emod_nonneg _ (Int.ne_of_gt p1)) (Int.emod_lt_of_pos _ p1) ⟨m, i, cs.set k (cell / lim), ?_, ?_, ?_⟩ (fun b o h1 h2 hb => ?_)
      · rw [upd_ne hne]
        exact g1
      · rw [upd_same, List.map_set]
      · rw [List.length_set]
        exact e3
      · rw [upd_ne h2]
        exact sm2 _ _ hb
    · refine ⟨.ref h, rfl, h, _, 0, .int m, rfl, rfl, .inl (.inl g1), rfl, m, 48271, rfl, rfl, .inr ⟨by decide, by decide⟩, ?_⟩
      refine ⟨.int cell, rfl, cell, 69621, rfl, rfl, .inr ⟨by decide, by decide⟩, _, _, rfl, rfl, _, 11, rfl, rfl, _, 2147483647, rfl, rfl, (by decide : (0 : Int) < 2147483647), ?_⟩
      refine ⟨.ref h, rfl, h, _, 0, 0, rfl, rfl, g1, rfl, ?_⟩
      obtain ⟨m', hm'⟩ : ∃ m' : Int, (m * 48271 + cell * 69621 + 11) % 2147483647 = m' := ⟨_, rfl⟩
      have hmv : (fun i j => V.int (i % j)) (m * 48271 + cell * 69621 + 11) 2147483647 = V.int m' := congrArg V.int hm'
      rw [hmv]
      have g1' : (upd G h (.lst ([V.int m, V.ref l, V.int i].set 0 (V.int m')))) h = some (.lst [.int m', .ref l, .int i]) := upd_same
      refine ⟨.ref h, rfl, h, _, 2, .int i, rfl, rfl, .inl (.inl g1'), rfl, i, 1, rfl, rfl, ?_⟩
      refine ⟨.ref h, rfl, h, _, 2, 2, rfl, rfl, g1', rfl, ?_⟩
      generalize hG2 : upd (upd G h (.lst ([V.int m, V.ref l, V.int i].set 0 (V.int m')))) h (.lst ([V.int m', V.ref l, V.int i].set 2 (V.int (i + 1)))) = G2
      have g1'' : G2 h = some (.lst [.int m', .ref l, .int (i + 1)]) := by rw [← hG2]; exact upd_same
      refine ⟨.ref h, rfl, h, _, 0, .int m', rfl, rfl, .inl (.inl g1''), rfl, m', 7, rfl, rfl, ⟨by decide, by decide⟩, .int lim, rfl, _, lim, rfl, rfl, p1, ?_⟩
      refine q _ _ (Int.emod_nonneg _ (Int.ne_of_gt p1)) (Int.emod_lt_of_pos _ p1) ⟨m', i + 1, cs, g1'', ?_, e3⟩ (fun b o h1 h2 hb => ?_)
      · rw [← hG2, upd_ne (Ne.symm hne), upd_ne (Ne.symm hne)]
        exact g2
      · rw [← hG2, upd_ne h1, upd_ne h1]
        exact sm2 _ _ hb
def spMix (K : PySem.W.Frag) : Sp := fun vs H Q _ => ∃ (a : Addr) (ns : List Int) (seed : Int), vs = [.ref a, .int seed] ∧ SqL K H a (ns.map V.int) ∧ ns.length ≤ 63 ∧ ∀ H' h l, LawH H' h l → Same H H' → H h = none → H l = none → Q (.ref h) H'
theorem ok_mix {f : Addr} {fd : FuncData} (F : Fun K "_law_mix" "_law_mix" sMix f fd) (B : Bt mg) : FnOk P w K mg base CX0 1 f fd ["_law_script", "_law_seed"] (spMix K) := by
  refine F.ok scMix (fun vs H Q E h => ?_) (fun cdv A outer s H vs Q E hr h => ?_)
  · obtain ⟨a, ns, seed, rfl, _⟩ := h
    rfl
  · obtain ⟨a, ns, seed, rfl, hA, hl, q⟩ := h
    refine ⟨_, pss_cons (ps_set (i := 2) scMix.nd rfl (Or.inl rfl) (pv 1))
      (pss_cons (ps_for PassesOwn.never rfl (pi_list (pv 0)) (pg_name (i := 3) scMix.nd rfl (Or.inl rfl))
        (pss_one (ps_set (i := 2) scMix.nd rfl (Or.inl rfl) (pe_op op_mod (pe_op op_add (pe_op op_add (pe_op op_mul (pv 2) pe_int) (pe_op op_mod (pv 3) pe_int)) pe_int) pe_int))))
      (pss_one (ps_ret (pe_lst (pa_cons (pv 2) (pa_cons (pe_callTy call_list_of (by rfl) B.list b_list (pa_cons (pv 0) pa_nil)) (pa_cons pe_int pa_nil))))))), ?_⟩
    refine ⟨.int seed, rfl, .ref a, rfl, a, rfl, ⟨_, hA⟩, for_list (xs := ns.map V.int) (fun i σ H' => (∃ m y3, σ = [some (.ref a), some (.int seed), some (.int m), y3]) ∧ H' = H) ⟨⟨seed, none, rfl⟩, rfl⟩ (fun i σ H' _ h => by rw [h.2]; exact hA) (fun i x σ H' hx ⟨⟨m, y3, es⟩, eH⟩ => ?_) (fun σ H' ⟨⟨m, y3, es⟩, eH⟩ => ?_)⟩
    · subst es
      subst eH
      rw [List.getElem?_map] at hx
      cases hn : ns[i]? with
      | none => rw [hn] at hx; cases hx
      | some n =>
        rw [hn] at hx
        obtain rfl : V.int n = x := Option.some.inj hx
        refine ⟨.int m, rfl, m, 48271, rfl, rfl, .inr ⟨by decide, by decide⟩, .int n, rfl, n, 2147483629, rfl, rfl, (by decide : (0 : Int) < 2147483629), _, _, rfl, rfl, _, 1, rfl, rfl, _, 2147483647, rfl, rfl, (by decide : (0 : Int) < 2147483647), ⟨_, _, rfl⟩, rfl⟩
    · subst es
      subst eH
      refine ⟨.int m, rfl, .ref a, rfl, a, _, rfl, .inl hA, fun l hl2 => ⟨(by show 3 ≤ sizeLine; decide), fun h hh => ?_⟩⟩
      have ln : l ≠ h := ne_of_none upd_same hh
      refine q _ h l ⟨m, 0, ns, upd_same, by rw [upd_ne ln]; exact upd_same, by omega⟩ (same_of (same_upd hl2) (Same.free (same_upd hl2) hh)) (Same.free (same_upd hl2) hh) hl2
end
end Sv
set_option maxHeartbeats 4000000
set_option exponentiation.threshold 2000
namespace Sv
open PySem PySem.Spec PyProof.Rows L2 NdefX
def clsInit : Stmt → Stmt | .ClassDef _ _ _ b _ _ _ _ _ _ _ => b.getD 0 (.Pass ⟨0, 0, 0, 0⟩) | s => s
abbrev sPlanInit : Stmt := clsInit sInvalidPlan
def nfPlan (cc c0 : Addr) : NF := ⟨"__init__", "InvalidPlan.__init__", defArgs sPlanInit, defBody sPlanInit, defScope sPlanInit, [("__class__", cc)], c0⟩
def arPlan : Arg := (defArgs sPlanInit).args.getD 0 ⟨"x", none, ⟨0, 0, 0, 0⟩⟩
def nPI : List Str := ["self", "part", "index", "__class__"]
theorem nsPlan (cc c0 : Addr) : NScope nPI ["self", "part", "index"] ["__class__"] (nfPlan cc c0).scope := by
  show NScope nPI ["self", "part", "index"] ["__class__"] (defScope sPlanInit)
  exact nscope_by (by decide +kernel)
section
variable {P : Program} {w : World} {K : PySem.W.Frag} {mg : Str → Option Value} {base : Heap}
/-- the promise of InvalidPlan.__init__ -/
def spPI (C : Addr) : Sp := fun vs H Q _ => ∃ (a : Addr) (part : Str) (i : Int), vs = [.ref a, .str part, .int i] ∧ H a = some (exo a C none) ∧ part.length ≤ 1000 ∧ i.natAbs < 2 ^ 100 ∧
  ∀ d, H d = none → d ≠ a → Q .non (upd (upd (upd H d (exd d [("part", .str part)])) a (exo a C (some d))) d (exd d [("index", .int i), ("part", .str part)]))
theorem ok_planInit {C fI cc c0 : Addr} {oc : Value} {od : Option Addr} {osl : Array (Option Value)} {doc pm ctv : Value} (S : SupF P K mg C fI cc (nfPlan cc c0) arPlan) (lk : K.lookup fI = some ⟨oc, od, .func ((nfPlan cc c0).fd doc pm ctv), osl⟩)
    (n1 : PySem.W.findIn K (.ref C) "part" = some none) (n2 : PySem.W.findIn K (.ref C) "index" = some none) :
    FnOk P w K mg base CX0 1 fI ((nfPlan cc c0).fd doc pm ctv) ["self", "part", "index"] (spPI C) := by
  refine fnOk_sup (N := nPI) S lk (nsPlan cc c0) rfl rfl rfl (fun vs H Q E h => ?_) (fun _ => rfl) (fun _ => ⟨_, rfl⟩) (fun _ => rfl) (fun _ => rfl) (fun A outer s H vs Q E hr h => ?_)
  · obtain ⟨a, part, i, rfl, _⟩ := h
    rfl
  · obtain ⟨a, part, i, rfl, ha, hl, hi, q⟩ := h
    refine ⟨a, _, _, rfl, ha, pe_joined (.cons pe_str (.cons (pe_fmt (pv 1)) (.cons pe_str (.cons (pe_fmt (pv 2)) .nil)))),
      pss_cons (ps_ost (pv 0) (pv 1)) (pss_one (ps_ost (pv 0) (pv 2))), ?_⟩
    have hz : sizeLine = 16777216 := sizeLine_eq
    have hlog : i.natAbs.log2 < 1920 := by
      have : i.natAbs < 2 ^ 1920 := Nat.lt_trans hi (Nat.pow_lt_pow_right (by decide) (by decide))
      by_cases h0 : i.natAbs = 0
      · rw [h0]
        decide
      · exact (Nat.log2_lt h0).mpr this
    have l4 : (Str.ofString (toString i)).length ≤ 1921 := int_text_len_1921 hlog
    refine ⟨"invalid ", rfl, ?_, .str part, rfl, .inl ⟨part, rfl, by omega, part, rfl, ?_, ", at index ", rfl, ?_, .int i, rfl, .inr ⟨i, rfl, hlog, _, rfl, ?_, ha, ?_⟩⟩⟩
    · decide
    · rw [Str.length_append]
      have : (Str.empty ++ ("invalid " : Str)).length = 8 := by decide
      omega
    · rw [Str.length_append, Str.length_append]
      have : (Str.empty ++ ("invalid " : Str)).length = 8 := by decide
      have : (", at index " : Str).length = 11 := by decide
      omega
    · rw [Str.length_append, Str.length_append, Str.length_append]
      have : (Str.empty ++ ("invalid " : Str)).length = 8 := by decide
      have : (", at index " : Str).length = 11 := by decide
      omega
    · refine ⟨.str part, rfl, .ref a, rfl, a, C, rfl, S.T, n1, .inl ⟨ha, fun d hd hda => ?_⟩⟩
      refine ⟨.int i, rfl, .ref a, rfl, a, C, rfl, S.T, n2, .inr ⟨d, [("part", .str part)], upd_same, ?_, (by show 1 ≤ 900; decide), q d hd hda⟩⟩
      rw [upd_ne hda, upd_same]
/-- the facts of InvalidPlan -/
structure Pl (P : Program) (K : PySem.W.Frag) (mg : Str → Option Value) (C fI : Addr) (fd : FuncData) : Prop where
  ex : ∃ (cc c0 : Addr) (oc : Value) (od : Option Addr) (osl : Array (Option Value)) (doc pm ctv : Value), fd = (nfPlan cc c0).fd doc pm ctv ∧ SupF P K mg C fI cc (nfPlan cc c0) arPlan ∧ K.lookup fI = some ⟨oc, od, .func fd, osl⟩
  n1 : PySem.W.findIn K (.ref C) "part" = some none
  n2 : PySem.W.findIn K (.ref C) "index" = some none
  g : mg "InvalidPlan" = some (.ref C)
  iC : PySem.W.findIn K (.ref C) "__init__" = some (some (.ref fI))
  tI : PySem.W.typeIn K (.ref fI) = some (.type "function")
  b : Binds K fd ["self", "part", "index"] []
  x : XfC K C
theorem Pl.T {C fI : Addr} {fd : FuncData} (p : Pl P K mg C fI fd) : OexC K C := by
  obtain ⟨cc, c0, oc, od, osl, doc, pm, ctv, _, S, _⟩ := p.ex
  exact S.T
theorem Pl.ok {C fI : Addr} {fd : FuncData} (p : Pl P K mg C fI fd) : FnOk P w K mg base CX0 1 fI fd ["self", "part", "index"] (spPI C) := by
  obtain ⟨cc, c0, oc, od, osl, doc, pm, ctv, rfl, S, lk⟩ := p.ex
  exact ok_planInit S lk p.n1 p.n2
/-- what is wanted where InvalidPlan(part, i) is raised -/
def PlanE (C : Addr) (H : Hp) (part : Str) (i : Int) (Q : XK) : Prop := ∀ (H' : Hp) (dd : Addr) (fs : List (Str × V)), Same H H' → H' dd = some (.xd fs) → fs.lookup ("part" : Str) = some (V.str part) → fs.lookup ("index" : Str) = some (V.int i) → Q (.ref C) (some dd) H'
theorem PlanE.imp {C : Addr} {H H1 : Hp} {part : Str} {i : Int} {Q : XK} (h : PlanE C H part i Q) (e : Same H H1) : PlanE C H1 part i Q := fun H' dd fs sm => h H' dd fs (e.trans sm)
theorem pmk_plan {X : Cx} {C fI : Addr} {fd : FuncData} {e1 e2 : Expr} {t1 t2 : TE} {p pos : Pos} (T : Pl X.prog X.K X.mg C fI fd) (hr : Room 2 X.A) (hg : Gl X "InvalidPlan") (h1 : PE X e1 t1) (h2 : PE X e2 t2)
    (s1 : starEach [e1, e2] X.env = (false, eval e1 X.env) :: starEach [e2] X.env := by rfl) (s2 : starEach [e2] X.env = (false, eval e2 X.env) :: starEach [] X.env := by rfl) (hpl : (backTo pos (starEach [e2] X.env)).any (·.1) = false := by rfl) :
    PMk X (.Call (.Name "InvalidPlan" p) [e1, e2] [] pos) (tMkO C (spPI C) [] (tCons t1 (tCons t2 tNil))) := by
  have G : FnOk X.prog X.w X.K X.mg X.base CX0 1 fI fd ["self", "part", "index"] (spPI C) := T.ok
  exact pmk_oex T.T T.iC T.tI G hr T.b .nil pass0 hg T.g (pa_cons h1 (pa_cons h2 pa_nil s2) s1) (by decide) s1 hpl
theorem mk_go {C : Addr} {H : Hp} {part : Str} {i : Int} {Q : XK} (hl : part.length ≤ 1000) (hi : i.natAbs < 2 ^ 100) (q : PlanE C H part i Q) : [V.str part, V.int i].length ≤ 1000 ∧ ∀ a, H a = none → spPI C (.ref a :: ([V.str part, V.int i] ++ [])) (upd H a (exo a C none))
    (fun v H2 => v = .non ∧ ∃ (d : Addr) (fs : List (Str × V)), H2 a = some (exo a C (some d)) ∧ H2 d = some (exd d fs) ∧ H d = none ∧ Q (.ref C) (some d) (upd (del H2 a) d (.xd fs))) (fun _ _ _ => False) := by
  refine ⟨by show 2 ≤ 1000; decide, fun a ha => ⟨a, part, i, rfl, upd_same, hl, hi, fun d hd hda => ⟨rfl, d, _, ?_, upd_same, ?_, q _ d _ (fun b o hb => ?_) upd_same rfl rfl⟩⟩⟩
  · rw [upd_ne (Ne.symm hda), upd_same]
  · rw [upd_ne hda] at hd
    exact hd
  · have hd' : H d = none := by
      rw [upd_ne hda] at hd
      exact hd
    have b1 := ne_of_none hb hd'
    have b2 := ne_of_none hb ha
    rw [upd_ne b1, del_ne b2, upd_ne b1, upd_ne b2, upd_ne b1, upd_ne b2]
    exact hb
end
abbrev sLapInit : Stmt := clsInit sLap
structure LapF (K : PySem.W.Frag) (mg : Str → Option Value) (C f : Addr) (fd : FuncData) : Prop where
  g : mg "Lap" = some (.ref C)
  m : Mk K C f
  c : Cls K C
  n1 : NoAttr K C "length"
  n2 : NoAttr K C "stops"
  n3 : NoAttr K C "lefts"
  n4 : NoAttr K C "effect"
  F : Fun K "__init__" "Lap.__init__" sLapInit f fd
  b : Binds K fd ["self", "plan", "time"] []
end Sv
set_option maxHeartbeats 4000000
namespace Sv
open PySem PySem.Spec PyProof.Rows L2
/-- an own class of exceptions as it stands behind the top -/
structure ExcF (K : PySem.W.Frag) (mg : Str → Option Value) (x : Str) (C : Addr) : Prop where
  g : mg x = some (.ref C)
  x : PySem.W.excIn K C [.type "ValueError", .type "Exception", .type "BaseException", .type "object"] "ValueError.__new__" = true
  k : PySem.W.keepIn K (.ref C) = true
  b : PySem.W.subIn K (.ref C) (.type "BaseException") = some true
  t : PySem.W.typeIn K (.ref C) = some (.type "type")
/-- the facts of the program's defs -/
structure Bd (P : Program) (K : PySem.W.Frag) (mg : Str → Option Value) where
  bt : Bt mg
  lcm : mg "lcm" = some (.builtin "math.lcm")
  C : Addr
  aInit : Addr
  dInit : FuncData
  pl : Pl P K mg C aInit dInit
  m1 : ∃ t, mg "MOST_SHELVES" = some (.int 12 t)
  m2 : ∃ t, mg "MOST_ON_SHELF" = some (.int 9 t)
  m3 : ∃ t, mg "MOST_CARRIERS" = some (.int 6 t)
  m4 : ∃ t, mg "MOST_ENTRIES" = some (.int 6 t)
  lim : ∃ t, mg "COUNT_LIMIT" = some (.int 1000000000000000000 t)
  tlim : ∃ t, mg "TIME_LIMIT" = some (.int 1000000000000000000000000000000 t)
  lastP : ∃ t, mg "LAST_PARCEL" = some (.int 999 t)
  mst : ∃ t, mg "MOST_STAMPS" = some (.int 200 t)
  CC : Addr
  cc : ExcF K mg "InvalidCount" CC
  CS : Addr
  cs : ExcF K mg "InvalidState" CS
  CUr : Addr
  cur : ExcF K mg "UnknownParcel" CUr
  CUs : Addr
  cus : ExcF K mg "UnknownShelf" CUs
  CAr : Addr
  car : ExcF K mg "InvalidArrangement" CAr
  CLap : Addr
  aLap : Addr
  dLap : FuncData
  lap : LapF K mg CLap aLap dLap
  aWithin : Addr
  dWithin : FuncData
  Within : Df K mg "is_within" sWithin ["number", "low", "high"] aWithin dWithin
  aCheckCount : Addr
  dCheckCount : FuncData
  CheckCount : Df K mg "check_count" sCheckCount ["count"] aCheckCount dCheckCount
  aCheckTicks : Addr
  dCheckTicks : FuncData
  CheckTicks : Df K mg "check_ticks" sCheckTicks ["count"] aCheckTicks dCheckTicks
  aCheckBetween : Addr
  dCheckBetween : FuncData
  CheckBetween : Df K mg "check_between" sCheckBetween ["number", "low", "high"] aCheckBetween dCheckBetween
  aPattern : Addr
  dPattern : FuncData
  Pattern : Df K mg "pattern_length" sPattern ["plan"] aPattern dPattern
  aCheckPlan : Addr
  dCheckPlan : FuncData
  CheckPlan : Df K mg "check_plan" sCheckPlan ["plan"] aCheckPlan dCheckPlan
  aCheckSizes : Addr
  dCheckSizes : FuncData
  CheckSizes : Df K mg "check_sizes" sCheckSizes ["sizes"] aCheckSizes dCheckSizes
  aCheckRoutes : Addr
  dCheckRoutes : FuncData
  CheckRoutes : Df K mg "check_routes" sCheckRoutes ["routes", "shelves"] aCheckRoutes dCheckRoutes
  aIsRoute : Addr
  dIsRoute : FuncData
  IsRoute : Df K mg "is_route" sIsRoute ["route", "shelves"] aIsRoute dIsRoute
  aPlacesOf : Addr
  dPlacesOf : FuncData
  PlacesOf : Df K mg "places_of" sPlacesOf ["plan"] aPlacesOf dPlacesOf
  aCheckShelf : Addr
  dCheckShelf : FuncData
  CheckShelf : Df K mg "check_shelf" sCheckShelf ["plan", "shelf"] aCheckShelf dCheckShelf
  aShelvesOf : Addr
  dShelvesOf : FuncData
  ShelvesOf : Df K mg "shelves_of_places" sShelvesOf ["plan"] aShelvesOf dShelvesOf
  aNumPlaces : Addr
  dNumPlaces : FuncData
  NumPlaces : Df K mg "number_of_places" sNumPlaces ["plan"] aNumPlaces dNumPlaces
  aVisitsIn : Addr
  dVisitsIn : FuncData
  VisitsIn : Df K mg "visits_in_tick" sVisitsIn ["routes", "number"] aVisitsIn dVisitsIn
  aCommon : Addr
  dCommon : FuncData
  Common : Df K mg "common_pattern" sCommon ["routes"] aCommon dCommon
  aRoutePat : Addr
  dRoutePat : FuncData
  RoutePat : Df K mg "route_pattern" sRoutePat ["route"] aRoutePat dRoutePat
  aJoin : Addr
  dJoin : FuncData
  Join : Df K mg "join_layout" sJoin ["carried", "shelves"] aJoin dJoin
  aSplit : Addr
  dSplit : FuncData
  Split : Df K mg "split_layout" sSplit ["plan", "contents"] aSplit dSplit
  aAfterTick : Addr
  dAfterTick : FuncData
  AfterTick : Df K mg "after_tick" sAfterTick ["plan", "number", "carried", "shelves"] aAfterTick dAfterTick
  aEffectTicks : Addr
  dEffectTicks : FuncData
  EffectTicks : Df K mg "effect_of_ticks" sEffectTicks ["plan", "time", "count"] aEffectTicks dEffectTicks
  aInverse : Addr
  dInverse : FuncData
  Inverse : Df K mg "inverse" sInverse ["effect"] aInverse dInverse
  aRepeated : Addr
  dRepeated : FuncData
  Repeated : Df K mg "repeated" sRepeated ["effect", "count"] aRepeated dRepeated
  aOrderOf : Addr
  dOrderOf : FuncData
  OrderOf : Df K mg "order_of" sOrderOf ["effect"] aOrderOf dOrderOf
  aCyclesOf : Addr
  dCyclesOf : FuncData
  CyclesOf : Df K mg "cycles_of" sCyclesOf ["effect"] aCyclesOf dCyclesOf
  aCycleFrom : Addr
  dCycleFrom : FuncData
  CycleFrom : Df K mg "cycle_from" sCycleFrom ["effect", "start"] aCycleFrom dCycleFrom
  aMoved : Addr
  dMoved : FuncData
  Moved : Df K mg "moved" sMoved ["plan", "state", "effect"] aMoved dMoved
  aStateOf : Addr
  dStateOf : FuncData
  StateOf : Df K mg "state_of" sStateOf ["plan", "time", "parcels"] aStateOf dStateOf
  aParcelsIn : Addr
  dParcelsIn : FuncData
  ParcelsIn : Df K mg "parcels_in" sParcelsIn ["state"] aParcelsIn dParcelsIn
  aCheckState : Addr
  dCheckState : FuncData
  CheckState : Df K mg "check_state" sCheckState ["plan", "state"] aCheckState dCheckState
  aFits : Addr
  dFits : FuncData
  Fits : Df K mg "fits_plan" sFits ["plan", "carried", "shelves"] aFits dFits
  aTupOf : Addr
  dTupOf : FuncData
  TupOf : Df K mg "is_tuple_of" sTupOf ["row", "length"] aTupOf dTupOf
  aParcels : Addr
  dParcels : FuncData
  Parcels : Df K mg "are_parcels" sParcels ["parcels"] aParcels dParcels
  aCheckParcel : Addr
  dCheckParcel : FuncData
  CheckParcel : Df K mg "check_parcel" sCheckParcel ["parcels", "parcel"] aCheckParcel dCheckParcel
  aPlaceOfParcel : Addr
  dPlaceOfParcel : FuncData
  PlaceOfParcel : Df K mg "place_of_parcel" sPlaceOfParcel ["state", "parcel"] aPlaceOfParcel dPlaceOfParcel
  aStartOf : Addr
  dStartOf : FuncData
  StartOf : Df K mg "start_of_parcel" sStartOf ["plan", "state", "parcel"] aStartOf dStartOf
  aAdvance : Addr
  dAdvance : FuncData
  Advance : Df K mg "advance" sAdvance ["plan", "state", "count"] aAdvance dAdvance
  aPeriod : Addr
  dPeriod : FuncData
  Period : Df K mg "period" sPeriod ["plan", "state"] aPeriod dPeriod
  aLeftsJ : Addr
  dLeftsJ : FuncData
  LeftsJ : Df K mg "lefts_of_journey" sLeftsJ ["lap", "start"] aLeftsJ dLeftsJ
  aCountIn : Addr
  dCountIn : FuncData
  CountIn : Df K mg "count_in_ticks" sCountIn ["row", "wanted", "count"] aCountIn dCountIn
  aTimesLeft : Addr
  dTimesLeft : FuncData
  TimesLeft : Df K mg "times_left" sTimesLeft ["plan", "state", "parcel", "shelf", "count"] aTimesLeft dTimesLeft
  aStamps : Addr
  dStamps : FuncData
  Stamps : Df K mg "stamps" sStamps ["plan", "state", "parcel", "count"] aStamps dStamps
  aStampsJ : Addr
  dStampsJ : FuncData
  StampsJ : Df K mg "stamps_of_journey" sStampsJ ["plan", "state", "start"] aStampsJ dStampsJ
  aFamilies : Addr
  dFamilies : FuncData
  Families : Df K mg "families" sFamilies ["plan", "state"] aFamilies dFamilies
  aFirstMeeting : Addr
  dFirstMeeting : FuncData
  FirstMeeting : Df K mg "first_meeting" sFirstMeeting ["plan", "state", "one", "other"] aFirstMeeting dFirstMeeting
  aMarks : Addr
  dMarks : FuncData
  Marks : Df K mg "marks_of_meetings" sMarks ["plan", "state", "one", "other"] aMarks dMarks
  aShelvesLap : Addr
  dShelvesLap : FuncData
  ShelvesLap : Df K mg "shelves_in_a_lap" sShelvesLap ["plan", "lap"] aShelvesLap dShelvesLap
  aMarksLap : Addr
  dMarksLap : FuncData
  MarksLap : Df K mg "marks_in_a_lap" sMarksLap ["row", "other"] aMarksLap dMarksLap
  aPairs : Addr
  dPairs : FuncData
  Pairs : Df K mg "pairs_before_laps" sPairs ["effect", "one", "other"] aPairs dPairs
  aPlanSwaps : Addr
  dPlanSwaps : FuncData
  PlanSwaps : Df K mg "plan_swaps" sPlanSwaps ["plan", "state", "goal", "count"] aPlanSwaps dPlanSwaps
  aFewest : Addr
  dFewest : FuncData
  Fewest : Df K mg "fewest_swaps" sFewest ["plan", "state", "goal", "count"] aFewest dFewest
  aCheckArr : Addr
  dCheckArr : FuncData
  CheckArr : Df K mg "check_arrangement" sCheckArr ["parcels", "goal"] aCheckArr dCheckArr
  aSwapsBetween : Addr
  dSwapsBetween : FuncData
  SwapsBetween : Df K mg "swaps_between" sSwapsBetween ["found", "parcels", "wanted"] aSwapsBetween dSwapsBetween
  aExchange : Addr
  dExchange : FuncData
  Exchange : Df K mg "exchange" sExchange ["contents", "one", "other"] aExchange dExchange
  aLMix : Addr
  dLMix : FuncData
  LMix : Df K mg "_law_mix" sMix ["_law_script", "_law_seed"] aLMix dLMix
  aLNext : Addr
  dLNext : FuncData
  LNext : Df K mg "_law_next" sNext ["_law_h", "_law_limit"] aLNext dLNext
  aLPlan : Addr
  dLPlan : FuncData
  LPlan : Df K mg "_law_plan" sPlan ["_law_h", "_law_shelves", "_law_carriers"] aLPlan dLPlan
  aLState : Addr
  dLState : FuncData
  LState : Df K mg "_law_state" sState ["_law_h", "_law_plan_here"] aLState dLState
  aLTurned : Addr
  dLTurned : FuncData
  LTurned : Df K mg "_law_turned" sTurned ["_law_row", "_law_by"] aLTurned dLTurned
  aLRenamed : Addr
  dLRenamed : FuncData
  LRenamed : Df K mg "_law_renamed" sRenamed ["_law_state_here"] aLRenamed dLRenamed
  aLLawMoved : Addr
  dLLawMoved : FuncData
  LLawMoved : Df K mg "_law_moved" sLawMoved ["_law_plan_here", "_law_state_here", "_law_by"] aLLawMoved dLLawMoved
  aLLawMore : Addr
  dLLawMore : FuncData
  LLawMore : Df K mg "_law_more" sLawMore ["_law_plan_here", "_law_state_here"] aLLawMore dLLawMore
  aLMoreRight : Addr
  dLMoreRight : FuncData
  LMoreRight : Df K mg "_law_more_right" sMoreRight ["_law_plan_here", "_law_state_here", "_law_later", "_law_far"] aLMoreRight dLMoreRight
  aLaw : Addr
  dLaw : FuncData
  Law : Df K mg "law" sLaw ["_law_script"] aLaw dLaw
end Sv
set_option maxHeartbeats 4000000
namespace Sv
open PySem PySem.Spec PyProof.Rows L2
def eV : Option Int → V
  | none => .non
  | some i => .int i
def rV (r : Ro) : List V := r.map eV
theorem rV_len (r : Ro) : (rV r).length = r.length := by unfold rV; simp
theorem rV_get {r : Ro} {i : Nat} {e : Option Int} (h : r[i]? = some e) : (rV r)[i]? = some (eV e) := by
  unfold rV
  rw [List.getElem?_map, h]
  rfl
theorem rV_lt {r : Ro} {i : Nat} {x : V} (h : (rV r)[i]? = some x) : ∃ e, r[i]? = some e ∧ x = eV e := by
  unfold rV at h
  rw [List.getElem?_map] at h
  cases e : r[i]? with
  | none => rw [e] at h; cases h
  | some y =>
    rw [e] at h
    exact ⟨y, rfl, (Option.some.inj h).symm⟩
theorem iV_lt {zs : List Int} {i : Nat} {x : V} (h : (zs.map V.int)[i]? = some x) : ∃ z, zs[i]? = some z ∧ x = .int z := by
  rw [List.getElem?_map] at h
  cases e : zs[i]? with
  | none => rw [e] at h; cases h
  | some y =>
    rw [e] at h
    exact ⟨y, rfl, (Option.some.inj h).symm⟩
theorem refs_lt {qs : List Addr} {i : Nat} {x : V} (h : (qs.map V.ref)[i]? = some x) : ∃ q, qs[i]? = some q ∧ x = .ref q := by
  rw [List.getElem?_map] at h
  cases e : qs[i]? with
  | none => rw [e] at h; cases h
  | some y =>
    rw [e] at h
    exact ⟨y, rfl, (Option.some.inj h).symm⟩
structure RtAt (K : PySem.W.Frag) (H : Hp) (b : Addr) (rs : List Ro) : Prop where
  ex : ∃ qs : List Addr, SqT K H b (qs.map V.ref) ∧ Paired (fun q r => SqT K H q (rV r)) qs rs
theorem paired_same {K : PySem.W.Frag} {H H' : Hp} (e : Same H H') : ∀ {qs : List Addr} {rs : List Ro}, Paired (fun q r => SqT K H q (rV r)) qs rs → Paired (fun q r => SqT K H' q (rV r)) qs rs
  | _, _, .nil => .nil
  | _, _, .cons h t => .cons (sqT_same e h) (paired_same e t)
theorem paired_len {K : PySem.W.Frag} {H : Hp} : ∀ {qs : List Addr} {rs : List Ro}, Paired (fun q r => SqT K H q (rV r)) qs rs → qs.length = rs.length
  | _, _, .nil => rfl
  | _, _, .cons _ t => congrArg Nat.succ (paired_len t)
theorem paired_at {K : PySem.W.Frag} {H : Hp} : ∀ {qs : List Addr} {rs : List Ro} {i : Nat} {q : Addr}, Paired (fun q r => SqT K H q (rV r)) qs rs → qs[i]? = some q → ∃ r, rs[i]? = some r ∧ SqT K H q (rV r)
  | _, _, i, q, .nil, e => by simp at e
  | _, _, 0, q, .cons h t, e => by
    obtain rfl := Option.some.inj e
    exact ⟨_, rfl, h⟩
  | _, _, i + 1, q, .cons h t, e => paired_at (i := i) t (by simpa using e)
theorem RtAt.same {K : PySem.W.Frag} {H H' : Hp} {b : Addr} {rs : List Ro} (x : RtAt K H b rs) (e : Same H H') : RtAt K H' b rs := by
  obtain ⟨qs, h1, h2⟩ := x.ex
  exact ⟨qs, sqT_same e h1, paired_same e h2⟩
/-- a plan in its place -/
structure PlanAt (K : PySem.W.Frag) (H : Hp) (p : Addr) (zs : List Int) (rs : List Ro) : Prop where
  ex : ∃ a b : Addr, SqT K H p [.ref a, .ref b] ∧ SqT K H a (zs.map V.int) ∧ RtAt K H b rs
theorem PlanAt.same {K : PySem.W.Frag} {H H' : Hp} {p : Addr} {zs : List Int} {rs : List Ro} (x : PlanAt K H p zs rs) (e : Same H H') : PlanAt K H' p zs rs := by
  obtain ⟨a, b, h1, h2, h3⟩ := x.ex
  exact ⟨a, b, sqT_same e h1, sqT_same e h2, h3.same e⟩
section
variable {P : Program} {w : World} {K : PySem.W.Frag} {mg : Str → Option Value} {base : Heap}
theorem scIsRoute : FnScope ["route", "shelves", "entry"] ["route", "shelves"] (defScope sIsRoute) := ⟨rfl, rfl, rfl, by decide +kernel, rfl, by decide +kernel, by decide +kernel⟩
def spIsRoute (K : PySem.W.Frag) : Sp := fun vs H Q _ => ∃ (q : Addr) (r : Ro) (n : Int), vs = [.ref q, .int n] ∧ SqT K H q (rV r) ∧ r.length ≤ 1000 ∧ Q (.bl (okR n r)) H
theorem okR_all {n : Int} {r : Ro} (h1 : 1 ≤ r.length ∧ r.length ≤ 6) (h : ∀ (j : Nat) (e : Option Int), r[j]? = some e → okE n e = true) : okR n r = true := by
  unfold okR
  rw [decide_eq_true h1, Bool.true_and]
  refine List.all_eq_true.mpr fun e he => ?_
  obtain ⟨j, hj⟩ := List.mem_iff_getElem?.mp he
  exact h j e hj
theorem okR_no {n : Int} {r : Ro} {j : Nat} {e : Option Int} (h : r[j]? = some e) (hb : okE n e = false) : okR n r = false := by
  unfold okR
  have : r.all (okE n) = false := by
    rw [List.all_eq_false]
    exact ⟨e, List.mem_of_getElem? h, by rw [hb]; decide⟩
  rw [this, Bool.and_false]
theorem ok_isRoute (T : Bd P K mg) : FnOk P w K mg base CX0 2 T.aIsRoute T.dIsRoute ["route", "shelves"] (spIsRoute K) := by
  have GW : FnOk P w K mg base CX0 1 T.aWithin T.dWithin ["number", "low", "high"] spWithin := ok_within T.Within.F T.bt.isinstance T.bt.bool T.bt.int
  obtain ⟨t4, h4⟩ := T.m4
  refine T.IsRoute.F.ok scIsRoute (fun vs H Q E h => ?_) (fun cdv A outer s H vs Q E hr h => ?_)
  · obtain ⟨q, r, n, rfl, _⟩ := h
    rfl
  · obtain ⟨q, r, n, rfl, hq, hl, hQ⟩ := h
    refine ⟨_, pss_cons (ps_if (pw_or (pt_not (pt_val (pe_callB call_isi (by rfl) T.bt.isinstance b_isinstance (pa_cons (pv 0) (pa_cons (pe_ty (by rfl) T.bt.tuple b_tuple) pa_nil)))))
        (pw_or1 (pt_not (pt_chain op_le op_le pe_int (pe_callB call_len_seq (by rfl) T.bt.len b_len (pa_cons (pv 0) pa_nil)) (pe_glob (v := .int 6) (by rfl) h4 ⟨_, rfl⟩))))).pt (pss_one (ps_ret pe_bl)) pss_nil)
      (pss_cons (ps_for PassesOwn.never rfl (pi_tup (pv 0)) (pg_name (i := 2) scIsRoute.nd rfl (Or.inl rfl))
        (pss_one (ps_if (pw_and (pt_cmpR op_notN (pv 2) pe_non (nomark _)) (pw_and1 (pt_not (pt_val (pe_call (E := E0) GW hr (by rfl) T.Within.g T.Within.F.kp T.Within.b .nil pass0 (pa_cons (pv 2) (pa_cons pe_int (pa_cons (pe_op op_sub (pv 1) pe_int) pa_nil)))))))).pt (pss_one (ps_ret pe_bl)) pss_nil)))
      (pss_one (ps_ret pe_bl))), ?_⟩
    refine ⟨.ref q, rfl, .ref q, .ty "tuple", _, _, true, rfl, .ty "tuple", tyx_tup hq, kit_ty (by decide +kernel), true, rfl, iteF ?_⟩
    refine ⟨.ref q, rfl, q, rV r, rfl, .inr hq, 1, _, rfl, rfl, _, rfl, ?_⟩
    rw [rV_len]
    have no : ∀ b, okR n r = b → b = false → Q (.bl false) H := fun b e1 e2 => by
      rw [e1, e2] at hQ
      exact hQ
    by_cases h1 : (1 : Int) ≤ (r.length : Nat)
    · rw [decide_eq_true h1]
      refine iteT ⟨_, _, rfl, rfl, _, rfl, ?_⟩
      by_cases h2 : ((r.length : Nat) : Int) ≤ 6
      · rw [decide_eq_true h2]
        refine iteF ?_
        have hlen : 1 ≤ r.length ∧ r.length ≤ 6 := ⟨by omega, by omega⟩
        refine ⟨.ref q, rfl, q, rfl, ⟨_, hq⟩, for_tup (xs := rV r) (fun i σ H' => (∃ y, σ = [some (.ref q), some (.int n), y]) ∧ H' = H ∧ ∀ j e, j < i → r[j]? = some e → okE n e = true) ⟨⟨none, rfl⟩, rfl, fun j e hj => by omega⟩ (fun i σ H' _ h => by rw [h.2.1]; exact hq)
          (fun i x σ H' hx ⟨⟨y, es⟩, eH, hok⟩ => ?_) (fun σ H' ⟨⟨y, es⟩, eH, hok⟩ => ?_)⟩
        · subst es
          subst eH
          obtain ⟨e, he, rfl⟩ := rV_lt hx
          have more : okE n e = true → ∀ j e', j < i + 1 → r[j]? = some e' → okE n e' = true := fun h j e' hj hh => by
            by_cases hji : j = i
            · rw [hji, he] at hh
              rw [← Option.some.inj hh]
              exact h
            · exact hok j e' (by omega) hh
          cases e with
          | none =>
            refine ⟨.non, rfl, rfl, false, rfl, iteF (iteF ⟨⟨_, rfl⟩, rfl, more rfl⟩)⟩
          | some z =>
            refine ⟨.int z, rfl, rfl, true, rfl, iteT ⟨.int z, rfl, .int n, rfl, n, 1, rfl, rfl, z, 0, n - 1, rfl, _, rfl, ?_⟩⟩
            by_cases hz : 0 ≤ z ∧ z ≤ n - 1
            · rw [decide_eq_true hz]
              exact iteF ⟨⟨_, rfl⟩, rfl, more (decide_eq_true hz)⟩
            · rw [decide_eq_false hz]
              exact iteT (no _ (okR_no he (decide_eq_false hz)) rfl)
        · subst es
          subst eH
          rw [rV_len] at hok
          have : okR n r = true := okR_all hlen fun j e he => hok j e (List.getElem?_eq_some_iff.mp he).1 he
          rw [this] at hQ
          exact hQ
      · rw [decide_eq_false h2]
        refine iteT (no _ ?_ rfl)
        unfold okR
        rw [decide_eq_false (fun z => h2 (by omega)), Bool.false_and]
    · rw [decide_eq_false h1]
      refine iteF ⟨false, rfl, iteT (no _ ?_ rfl)⟩
      unfold okR
      rw [decide_eq_false (fun z => h1 (by omega)), Bool.false_and]
end
end Sv
set_option maxHeartbeats 4000000
namespace Sv
open PySem PySem.Spec PyProof.Rows L2
section
variable {P : Program} {w : World} {K : PySem.W.Frag} {mg : Str → Option Value} {base : Heap}
theorem scCheckSizes : FnScope ["sizes", "index", "size"] ["sizes"] (defScope sCheckSizes) := ⟨rfl, rfl, rfl, by decide +kernel, rfl, by decide +kernel, by decide +kernel⟩
theorem scCheckRoutes : FnScope ["routes", "shelves", "index", "route"] ["routes", "shelves"] (defScope sCheckRoutes) := ⟨rfl, rfl, rfl, by decide +kernel, rfl, by decide +kernel, by decide +kernel⟩
theorem scCheckPlan : FnScope ["plan", "sizes", "routes"] ["plan"] (defScope sCheckPlan) := ⟨rfl, rfl, rfl, by decide +kernel, rfl, by decide +kernel, by decide +kernel⟩
theorem small_idx {i : Nat} (h : i ≤ 1000) : ((i : Nat) : Int).natAbs < 2 ^ 100 := Nat.lt_of_le_of_lt (by omega : ((i : Nat) : Int).natAbs ≤ 1000) (by decide)
def spCheckSizes (K : PySem.W.Frag) (C : Addr) : Sp := fun vs H Q E => ∃ (a : Addr) (zs : List Int), vs = [.ref a] ∧ SqT K H a (zs.map V.int) ∧ zs.length ≤ 1000 ∧ (badS zs = none → ∀ H', Same H H' → Q .non H') ∧ (∀ i, badS zs = some i → PlanE C H "sizes" i E)
theorem ok_checkSizes (T : Bd P K mg) : FnOk P w K mg base (L2.CX P w) 3 T.aCheckSizes T.dCheckSizes ["sizes"] (spCheckSizes K T.C) := by
  have GW : FnOk P w K mg base CX0 1 T.aWithin T.dWithin ["number", "low", "high"] spWithin := ok_within T.Within.F T.bt.isinstance T.bt.bool T.bt.int
  obtain ⟨t1, h1⟩ := T.m1
  obtain ⟨t2, h2⟩ := T.m2
  refine T.CheckSizes.F.okX scCheckSizes (fun vs H Q E h => ?_) (fun cdv A outer s H vs Q E hr h => ?_)
  · obtain ⟨a, zs, rfl, _⟩ := h
    rfl
  · obtain ⟨a, zs, rfl, hA, hl, q1, q2⟩ := h
    refine ⟨_, pss_cons (ps_if (pt_not (pt_chain op_le op_le pe_int (pe_callB call_len_seq (by rfl) T.bt.len b_len (pa_cons (pv 0) pa_nil)) (pe_glob (v := .int 12) (by rfl) h1 ⟨_, rfl⟩)))
        (pss_one (ps_raise rfl (takes_of rfl rfl rfl rfl) (pmk_plan T.pl hr (by rfl) pe_str (pe_un un_neg pe_int)))) pss_nil)
      (pss_one (ps_for (passes_of rfl) rfl (pi_enumT (by rfl) T.bt.enumerate (pa_cons (pv 0) pa_nil)) (pg_tup rfl (pgs_cons (pg_name (i := 1) scCheckSizes.nd rfl (.inl rfl)) (pgs_cons (pg_name (i := 2) scCheckSizes.nd rfl (.inl rfl)) pgs_nil)))
        (pss_one (ps_if (pt_not (pt_val (pe_call (E := E0) GW (hr.mono (by decide)) (by rfl) T.Within.g T.Within.F.kp T.Within.b .nil pass0 (pa_cons (pv 2) (pa_cons pe_int (pa_cons (pe_glob (v := .int 9) (by rfl) h2 ⟨_, rfl⟩) pa_nil))))))
          (pss_one (ps_raise rfl (takes_of rfl rfl rfl rfl) (pmk_plan T.pl hr (by rfl) pe_str (pv 1)))) pss_nil)))), ?_⟩
    have big : (-1 : Int).natAbs < 2 ^ 100 := by decide
    have lw : ("sizes" : Str).length ≤ 1000 := by decide
    have no : ¬ (1 ≤ zs.length ∧ zs.length ≤ 12) → PlanE T.C H "sizes" (-1) E := fun hz => q2 (-1) (by unfold badS; rw [if_neg hz])
    refine ⟨.ref a, rfl, a, _, rfl, .inr hA, 1, _, rfl, rfl, _, rfl, ?_⟩
    rw [List.length_map]
    by_cases c1 : (1 : Int) ≤ (zs.length : Nat)
    · rw [decide_eq_true c1]
      refine iteT ⟨_, _, rfl, rfl, _, rfl, ?_⟩
      by_cases c2 : ((zs.length : Nat) : Int) ≤ 12
      · rw [decide_eq_true c2]
        have hz : 1 ≤ zs.length ∧ zs.length ≤ 12 := ⟨by omega, by omega⟩
        have eb : badS zs = (fst okZ zs 0).map fun (k : Nat) => (k : Int) := by unfold badS; rw [if_pos hz]
        refine iteF ⟨.ref a, rfl, a, _, rfl, hA, for_enumT (xs := zs.map V.int) (fun i σ H' => (∃ y1 y2, σ = [some (.ref a), y1, y2]) ∧ Same H H' ∧ ∀ (j : Nat) (z : Int), j < i → zs[j]? = some z → okZ z = true) ⟨⟨none, none, rfl⟩, fun _ _ h => h, fun j z hj => by omega⟩
          (fun i σ H' _ h => sqT_same h.2.1 hA) (fun i x σ H' U hx ⟨⟨y1, y2, es⟩, sm, hok⟩ hU => ?_) (fun σ H' ⟨_, sm, hok⟩ => ?_)⟩
        · subst es
          obtain ⟨z, hz1, rfl⟩ := iV_lt hx
          have sm2 : Same H (upd H' U (.tup [.int (i : Nat), .int z])) := same_of sm (Same.free sm hU)
          refine ⟨U, [.int (i : Nat), .int z], rfl, .inl (.inl upd_same), rfl, _, _, rfl, _, _, rfl, rfl, ?_⟩
          refine ⟨.int z, rfl, z, 0, 9, rfl, _, rfl, ?_⟩
          by_cases hzz : 0 ≤ z ∧ z ≤ 9
          · rw [decide_eq_true hzz]
            refine iteF ⟨⟨_, _, rfl⟩, sm2, fun j z' hj hz' => ?_⟩
            by_cases hji : j = i
            · rw [hji, hz1] at hz'
              rw [← Option.some.inj hz']
              exact decide_eq_true hzz
            · exact hok j z' (by omega) hz'
          · rw [decide_eq_false hzz]
            have il : i < zs.length := (List.getElem?_eq_some_iff.mp hz1).1
            refine iteT ⟨.int (i : Nat), rfl, mk_go lw (small_idx (by omega)) ((q2 i ?_).imp sm2)⟩
            rw [eb, fst_some (i := i) (x := z) hok hz1 (decide_eq_false hzz)]
            rfl
        · rw [List.length_map] at hok
          refine q1 ?_ H' sm
          rw [eb, fst_none fun j z hz' => hok j z (List.getElem?_eq_some_iff.mp hz').1 hz']
          rfl
      · rw [decide_eq_false c2]
        exact iteT ⟨1, rfl, mk_go lw big (no fun z => c2 (by omega))⟩
    · rw [decide_eq_false c1]
      exact iteF ⟨false, rfl, iteT ⟨1, rfl, mk_go lw big (no fun z => c1 (by omega))⟩⟩
def spCheckRoutes (K : PySem.W.Frag) (C : Addr) : Sp := fun vs H Q E => ∃ (b : Addr) (rs : List Ro) (n : Int), vs = [.ref b, .int n] ∧ RtAt K H b rs ∧ rs.length ≤ 1000 ∧ (∀ r ∈ rs, r.length ≤ 1000) ∧ (badR n rs = none → ∀ H', Same H H' → Q .non H') ∧ (∀ i, badR n rs = some i → PlanE C H "routes" i E)
theorem ok_checkRoutes (T : Bd P K mg) : FnOk P w K mg base (L2.CX P w) 3 T.aCheckRoutes T.dCheckRoutes ["routes", "shelves"] (spCheckRoutes K T.C) := by
  have GT : FnOk P w K mg base CX0 2 T.aIsRoute T.dIsRoute ["route", "shelves"] (spIsRoute K) := ok_isRoute T
  obtain ⟨t3, h3⟩ := T.m3
  refine T.CheckRoutes.F.okX scCheckRoutes (fun vs H Q E h => ?_) (fun cdv A outer s H vs Q E hr h => ?_)
  · obtain ⟨b, rs, n, rfl, _⟩ := h
    rfl
  · obtain ⟨b, rs, n, rfl, hB, hl, hrl, q1, q2⟩ := h
    obtain ⟨qs, hA, hP⟩ := hB.ex
    have hql := paired_len hP
    refine ⟨_, pss_cons (ps_if (pt_not (pt_chain op_le op_le pe_int (pe_callB call_len_seq (by rfl) T.bt.len b_len (pa_cons (pv 0) pa_nil)) (pe_glob (v := .int 6) (by rfl) h3 ⟨_, rfl⟩)))
        (pss_one (ps_raise rfl (takes_of rfl rfl rfl rfl) (pmk_plan T.pl hr (by rfl) pe_str (pe_un un_neg pe_int)))) pss_nil)
      (pss_one (ps_for (passes_of rfl) rfl (pi_enumT (by rfl) T.bt.enumerate (pa_cons (pv 0) pa_nil)) (pg_tup rfl (pgs_cons (pg_name (i := 2) scCheckRoutes.nd rfl (.inl rfl)) (pgs_cons (pg_name (i := 3) scCheckRoutes.nd rfl (.inl rfl)) pgs_nil)))
        (pss_one (ps_if (pt_not (pt_val (pe_call (E := E0) GT hr (by rfl) T.IsRoute.g T.IsRoute.F.kp T.IsRoute.b .nil pass0 (pa_cons (pv 3) (pa_cons (pv 1) pa_nil)))))
          (pss_one (ps_raise rfl (takes_of rfl rfl rfl rfl) (pmk_plan T.pl hr (by rfl) pe_str (pv 2)))) pss_nil)))), ?_⟩
    have big : (-1 : Int).natAbs < 2 ^ 100 := by decide
    have lw : ("routes" : Str).length ≤ 1000 := by decide
    have no : ¬ (1 ≤ rs.length ∧ rs.length ≤ 6) → PlanE T.C H "routes" (-1) E := fun hz => q2 (-1) (by unfold badR; rw [if_neg hz])
    refine ⟨.ref b, rfl, b, _, rfl, .inr hA, 1, _, rfl, rfl, _, rfl, ?_⟩
    rw [List.length_map, hql]
    by_cases c1 : (1 : Int) ≤ (rs.length : Nat)
    · rw [decide_eq_true c1]
      refine iteT ⟨_, _, rfl, rfl, _, rfl, ?_⟩
      by_cases c2 : ((rs.length : Nat) : Int) ≤ 6
      · rw [decide_eq_true c2]
        have hz : 1 ≤ rs.length ∧ rs.length ≤ 6 := ⟨by omega, by omega⟩
        have eb : badR n rs = (fst (okR n) rs 0).map fun (k : Nat) => (k : Int) := by unfold badR; rw [if_pos hz]
        refine iteF ⟨.ref b, rfl, b, _, rfl, hA, for_enumT (xs := qs.map V.ref) (fun i σ H' => (∃ y1 y2, σ = [some (.ref b), some (.int n), y1, y2]) ∧ Same H H' ∧ ∀ (j : Nat) (r : Ro), j < i → rs[j]? = some r → okR n r = true) ⟨⟨none, none, rfl⟩, fun _ _ h => h, fun j z hj => by omega⟩
          (fun i σ H' _ h => sqT_same h.2.1 hA) (fun i x σ H' U hx ⟨⟨y1, y2, es⟩, sm, hok⟩ hU => ?_) (fun σ H' ⟨_, sm, hok⟩ => ?_)⟩
        · subst es
          obtain ⟨qa, hqa, rfl⟩ := refs_lt hx
          obtain ⟨r, hr1, hqr⟩ := paired_at hP hqa
          have sm2 : Same H (upd H' U (.tup [.int (i : Nat), .ref qa])) := same_of sm (Same.free sm hU)
          refine ⟨U, [.int (i : Nat), .ref qa], rfl, .inl (.inl upd_same), rfl, _, _, rfl, _, _, rfl, rfl, ?_⟩
          refine ⟨.ref qa, rfl, .int n, rfl, qa, r, n, rfl, sqT_same sm2 hqr, hrl r (List.mem_of_getElem? hr1), _, rfl, ?_⟩
          by_cases hzz : okR n r = true
          · rw [hzz]
            refine iteF ⟨⟨_, _, rfl⟩, sm2, fun j z' hj hz' => ?_⟩
            by_cases hji : j = i
            · rw [hji, hr1] at hz'
              rw [← Option.some.inj hz']
              exact hzz
            · exact hok j z' (by omega) hz'
          · have hzf : okR n r = false := by simpa using hzz
            rw [hzf]
            have il : i < rs.length := (List.getElem?_eq_some_iff.mp hr1).1
            refine iteT ⟨.int (i : Nat), rfl, mk_go lw (small_idx (by omega)) ((q2 i ?_).imp sm2)⟩
            rw [eb, fst_some (i := i) (x := r) hok hr1 hzf]
            rfl
        · rw [List.length_map, hql] at hok
          refine q1 ?_ H' sm
          rw [eb, fst_none fun j z hz' => hok j z (List.getElem?_eq_some_iff.mp hz').1 hz']
          rfl
      · rw [decide_eq_false c2]
        exact iteT ⟨1, rfl, mk_go lw big (no fun z => c2 (by omega))⟩
    · rw [decide_eq_false c1]
      exact iteF ⟨false, rfl, iteT ⟨1, rfl, mk_go lw big (no fun z => c1 (by omega))⟩⟩
def spCheckPlan (K : PySem.W.Frag) (C : Addr) : Sp := fun vs H Q E => ∃ (p : Addr) (zs : List Int) (rs : List Ro), vs = [.ref p] ∧ PlanAt K H p zs rs ∧ Small zs rs ∧ (bad zs rs = none → ∀ H', Same H H' → Q .non H') ∧ (∀ part i, bad zs rs = some (part, i) → PlanE C H part i E)
theorem ok_checkPlan (T : Bd P K mg) : FnOk P w K mg base (L2.CX P w) 4 T.aCheckPlan T.dCheckPlan ["plan"] (spCheckPlan K T.C) := by
  have GS : FnOk P w K mg base (L2.CX P w) 3 T.aCheckSizes T.dCheckSizes ["sizes"] (spCheckSizes K T.C) := ok_checkSizes T
  have GR : FnOk P w K mg base (L2.CX P w) 3 T.aCheckRoutes T.dCheckRoutes ["routes", "shelves"] (spCheckRoutes K T.C) := ok_checkRoutes T
  refine T.CheckPlan.F.okX scCheckPlan (fun vs H Q E h => ?_) (fun cdv A outer s H vs Q E hr h => ?_)
  · obtain ⟨p, zs, rs, rfl, _⟩ := h
    rfl
  · obtain ⟨p, zs, rs, rfl, hp, ⟨l1, l2, l3⟩, q1, q2⟩ := h
    obtain ⟨a, b, hp1, ha, hb⟩ := hp.ex
    refine ⟨_, pss_cons (ps_asg (pv 0) (pg_tup rfl (pgs_cons (pg_name (i := 1) scCheckPlan.nd rfl (.inl rfl)) (pgs_cons (pg_name (i := 2) scCheckPlan.nd rfl (.inl rfl)) pgs_nil))))
      (pss_cons (ps_expr (pe_call (E := E) GS hr (by rfl) T.CheckSizes.g T.CheckSizes.F.kp T.CheckSizes.b .nil (passes_call (takes_of rfl rfl rfl rfl) fun _ _ _ _ h => h) (pa_cons (pv 1) pa_nil)))
      (pss_one (ps_expr (pe_call (E := E) GR hr (by rfl) T.CheckRoutes.g T.CheckRoutes.F.kp T.CheckRoutes.b .nil (passes_call (takes_of rfl rfl rfl rfl) fun _ _ _ _ h => h) (pa_cons (pv 2) (pa_cons (pe_callB call_len_seq (by rfl) T.bt.len b_len (pa_cons (pv 1) pa_nil)) pa_nil)))))), ?_⟩
    refine ⟨.ref p, rfl, p, [.ref a, .ref b], rfl, hp1, rfl, _, _, rfl, _, _, rfl, rfl, ?_⟩
    refine ⟨.ref a, rfl, a, zs, rfl, ha, l1, fun e1 H1 sm1 => ?_, fun i e1 => q2 _ i ?_⟩
    · refine ⟨.ref b, rfl, .ref a, rfl, a, _, rfl, .inr (sqT_same sm1 ha), b, rs, _, rfl, hb.same sm1, l2, l3, fun e2 H2 sm2 => q1 ?_ H2 (sm1.trans sm2), fun i e2 => (q2 "routes" i ?_).imp sm1⟩
      · unfold bad
        rw [e1]
        rw [List.length_map] at e2
        simp only [e2, Option.map_none]
      · unfold bad
        rw [e1]
        rw [List.length_map] at e2
        simp only [e2, Option.map_some]
    · unfold bad
      rw [e1]
end
end Sv
set_option maxHeartbeats 4000000
namespace Sv
open PySem PySem.Spec PyProof.Rows L2
abbrev TupsV (H : Hp) (ps : List Addr) (ts : List (List V)) : Prop := Paired (fun p t => H p = some (.tup t)) ps ts
theorem tupsV_imp {H H' : Hp} (e : ∀ b xs, H b = some (.tup xs) → H' b = some (.tup xs)) : ∀ {ps : List Addr} {ts : List (List V)}, TupsV H ps ts → TupsV H' ps ts
  | _, _, .nil => .nil
  | _, _, .cons h t => .cons (e _ _ h) (tupsV_imp e t)
theorem tupsV_same {H H' : Hp} (e : Same H H') {ps : List Addr} {ts : List (List V)} (h : TupsV H ps ts) : TupsV H' ps ts := tupsV_imp (fun b xs q => e _ _ q) h
theorem tupsV_len {H : Hp} : ∀ {ps : List Addr} {ts : List (List V)}, TupsV H ps ts → ps.length = ts.length
  | _, _, .nil => rfl
  | _, _, .cons _ t => congrArg Nat.succ (tupsV_len t)
theorem tupsV_app {H : Hp} : ∀ {ps qs : List Addr} {ts us : List (List V)}, TupsV H ps ts → TupsV H qs us → TupsV H (ps ++ qs) (ts ++ us)
  | _, _, _, _, .nil, h => h
  | _, _, _, _, .cons h t, h2 => .cons h (tupsV_app t h2)
theorem tupsV_snoc {H : Hp} {p : Addr} {t : List V} {ps : List Addr} {ts : List (List V)} (h : TupsV H ps ts) (hp : H p = some (.tup t)) : TupsV H (ps ++ [p]) (ts ++ [t]) := tupsV_app h (.cons hp .nil)
/-- at f a list of new tuples -/
structure TL (H : Hp) (f : Addr) (ts : List (List V)) : Prop where
  ex : ∃ ps : List Addr, H f = some (.lst (ps.map V.ref)) ∧ TupsV H ps ts
theorem TL.same {H H' : Hp} {f : Addr} {ts : List (List V)} (x : TL H f ts) (e : Same H H') : TL H' f ts := by
  obtain ⟨ps, h1, h2⟩ := x.ex
  exact ⟨ps, e _ _ h1, tupsV_same e h2⟩
/-- one more behind -/
theorem TL.push {H : Hp} {f p : Addr} {ts : List (List V)} {t : List V} {xs : List V} (x : TL H f ts) (hf : H f = some (.lst xs)) (hp : H p = some (.tup t)) : TL (upd H f (.lst (xs ++ [.ref p]))) f (ts ++ [t]) := by
  obtain ⟨ps, h1, h2⟩ := x.ex
  rw [hf] at h1
  obtain rfl := HO.lst.inj (Option.some.inj h1)
  refine ⟨ps ++ [p], by rw [upd_same, List.map_append]; rfl, tupsV_imp (fun b xs q => ?_) (tupsV_snoc h2 hp)⟩
  rw [upd_ne (fun z => by rw [z, hf] at q; cases q)]
  exact q
def NewTL (H : Hp) (ts : List (List V)) (Q : VK) : Prop := ∀ H' f, Same H H' → H f = none → TL H' f ts → Q (.ref f) H'
def pairV (c : Nat) (z : Int) : List V := [.int (c : Nat), .int z]
/-- the pairs of the first k carriers -/
def meetN (rs : List Ro) (m : Int) : Nat → List (List V)
  | 0 => []
  | k + 1 => meetN rs m k ++ (match rs[k]? with | some r => (match ent r m with | some z => [pairV k z] | none => []) | none => [])
def meets (rs : List Ro) (m : Int) : List (List V) := meetN rs m rs.length
theorem meetN_none {rs : List Ro} {m : Int} {k : Nat} {r : Ro} (h : rs[k]? = some r) (e : ent r m = none) : meetN rs m (k + 1) = meetN rs m k := by
  conv => lhs; unfold meetN
  rw [h]
  simp only [e, List.append_nil]
theorem meetN_some {rs : List Ro} {m : Int} {k : Nat} {r : Ro} {z : Int} (h : rs[k]? = some r) (e : ent r m = some z) : meetN rs m (k + 1) = meetN rs m k ++ [pairV k z] := by
  conv => lhs; unfold meetN
  rw [h]
  simp only [e]
theorem meetN_len (rs : List Ro) (m : Int) : ∀ k, (meetN rs m k).length ≤ k
  | 0 => Nat.le_refl _
  | k + 1 => by
    unfold meetN
    rw [List.length_append]
    have := meetN_len rs m k
    split
    · split
      · simp; omega
      · simp; omega
    · simp; omega
section
variable {P : Program} {w : World} {K : PySem.W.Frag} {mg : Str → Option Value} {base : Heap}
theorem scVisitsIn : FnScope ["routes", "number", "found", "carrier", "route", "shelf"] ["routes", "number"] (defScope sVisitsIn) := ⟨rfl, rfl, rfl, by decide +kernel, rfl, by decide +kernel, by decide +kernel⟩
def spVisitsIn (K : PySem.W.Frag) : Sp := fun vs H Q _ => ∃ (b : Addr) (rs : List Ro) (n : Int), vs = [.ref b, .int n] ∧ RtAt K H b rs ∧ rs.length ≤ 1000 ∧ (∀ r ∈ rs, r ≠ [] ∧ r.length ≤ 1000) ∧ NewTL H (meets rs (n - 1)) Q
theorem ok_visitsIn {f : Addr} {fd : FuncData} (F : Df K mg "visits_in_tick" sVisitsIn ["routes", "number"] f fd) (B : Bt mg) : FnOk P w K mg base CX0 1 f fd ["routes", "number"] (spVisitsIn K) := by
  refine F.F.ok scVisitsIn (fun vs H Q E h => ?_) (fun cdv A outer s H vs Q E hr h => ?_)
  · obtain ⟨b, rs, n, rfl, _⟩ := h
    rfl
  · obtain ⟨b, rs, n, rfl, hB, hl, hrs, q⟩ := h
    obtain ⟨qs, hA, hP⟩ := hB.ex
    have hql := paired_len hP
    refine ⟨_, pss_cons (ps_set (i := 2) scVisitsIn.nd rfl (Or.inl rfl) (pe_lst pa_nil))
      (pss_cons (ps_for PassesOwn.never rfl (pi_enumT (by rfl) B.enumerate (pa_cons (pv 0) pa_nil)) (pg_tup rfl (pgs_cons (pg_name (i := 3) scVisitsIn.nd rfl (.inl rfl)) (pgs_cons (pg_name (i := 4) scVisitsIn.nd rfl (.inl rfl)) pgs_nil)))
        (pss_cons (ps_set (i := 5) scVisitsIn.nd rfl (Or.inl rfl) (pe_ix ix_tup (pv 4) (pe_op op_mod (pe_op op_sub (pv 1) pe_int) (pe_callB call_len_seq (by rfl) B.len b_len (pa_cons (pv 4) pa_nil))) (fun _ _ => rfl)))
        (pss_one (ps_if (pt_cmpR op_notN (pv 5) pe_non (nomark _)) (pss_one (ps_expr (pe_bm PySem.F.plainAttrs_list PySem.F.slot_list_append PySem.F.type_list_append mt_append (pv 2) (pa_cons (pe_tup (pa_cons (pv 3) (pa_cons (pv 5) pa_nil))) pa_nil)))) pss_nil))))
      (pss_one (ps_ret (pv 2)))), ?_⟩
    refine ⟨Nat.zero_le _, fun f hf => ?_⟩
    have sm0 : Same H (upd H f (.lst [])) := same_upd hf
    refine ⟨.ref b, rfl, b, _, rfl, sqT_same sm0 hA, for_enumT (xs := qs.map V.ref) (fun i σ H' => (∃ y3 y4 y5, σ = [some (.ref b), some (.int n), some (.ref f), y3, y4, y5]) ∧ Same H H' ∧ TL H' f (meetN rs (n - 1) i)) ⟨⟨none, none, none, rfl⟩, sm0, [], upd_same, .nil⟩
      (fun i σ H' _ h => sqT_same h.2.1 hA) (fun i x σ H' U hx ⟨⟨y3, y4, y5, es⟩, sm, tl⟩ hU => ?_) (fun σ H' ⟨⟨y3, y4, y5, es⟩, sm, tl⟩ => ?_)⟩
    · subst es
      obtain ⟨qa, hqa, rfl⟩ := refs_lt hx
      obtain ⟨r, hr1, hqr⟩ := paired_at hP hqa
      have il : i < rs.length := (List.getElem?_eq_some_iff.mp hr1).1
      obtain ⟨rne, rl⟩ := hrs r (List.mem_of_getElem? hr1)
      obtain ⟨eg, em⟩ := ent_get rne (n - 1)
      have hrl : 0 < r.length := List.length_pos_iff.mpr rne
      have sm2 : Same H (upd H' U (.tup [.int (i : Nat), .ref qa])) := same_of sm (Same.free sm hU)
      have tl2 := tl.same (same_upd (o := .tup [.int (i : Nat), .ref qa]) hU)
      refine ⟨U, [.int (i : Nat), .ref qa], rfl, .inl (.inl upd_same), rfl, _, _, rfl, _, _, rfl, rfl, ?_⟩
      generalize upd H' U (.tup [.int (i : Nat), .ref qa]) = H2 at sm2 tl2 ⊢
      have hq2 := sqT_same sm2 hqr
      obtain ⟨ps, hff, htv⟩ := tl2.ex
      have pl : ps.length ≤ i := by rw [tupsV_len htv]; exact meetN_len _ _ _
      have eg2 : (rV r)[((n - 1) % (r.length : Int)).toNat]? = some (eV (ent r (n - 1))) := rV_get eg
      have hmod : (n - 1) % (((rV r).length : Nat) : Int) = (((n - 1) % (r.length : Int)).toNat : Nat) := by rw [rV_len]; exact em
      have hpos : (0 : Int) < (((rV r).length : Nat) : Int) := by rw [rV_len]; omega
      refine ⟨.ref qa, rfl, .int n, rfl, n, 1, rfl, rfl, .ref qa, rfl, qa, rV r, rfl, .inr hq2, n - 1, _, rfl, rfl, hpos, qa, rV r, _, eV (ent r (n - 1)), rfl, rfl, hq2, ?_, ?_⟩
      · show atI (rV r) ((n - 1) % (((rV r).length : Nat) : Int)) = _
        rw [hmod]
        exact atI_nat eg2
      cases he : ent r (n - 1) with
      | none =>
        refine ⟨.non, rfl, rfl, false, rfl, iteF ⟨⟨_, _, _, rfl⟩, sm2, ?_⟩⟩
        rw [meetN_none hr1 he]
        exact tl2
      | some z =>
        refine ⟨.int z, rfl, rfl, true, rfl, iteT ⟨.ref f, rfl, .inl ⟨rfl, _, .inl (.inl hff)⟩, .int (i : Nat), rfl, .int z, rfl, (by show 2 ≤ sizeLine; decide), fun p hp => ?_⟩⟩
        have fp : f ≠ p := ne_of_none hff hp
        have hf2 : (upd H2 p (.tup [.int (i : Nat), .int z])) f = some (.lst (ps.map V.ref)) := by rw [upd_ne fp]; exact hff
        refine ⟨f, _, _, rfl, rfl, hf2, ?_, ⟨_, _, _, rfl⟩, same_of (same_of sm2 (Same.free sm2 hp)) hf, ?_⟩
        · rw [List.length_map]
          exact small1000 (by omega)
        · rw [meetN_some hr1 he]
          exact (tl2.same (same_upd hp)).push hf2 upd_same
    · subst es
      rw [List.length_map, hql] at tl
      exact ⟨.ref f, rfl, q H' f sm hf tl⟩
end
end Sv
set_option maxHeartbeats 4000000
namespace Sv
open PySem PySem.Spec PyProof.Rows L2
/-- a test's reading, made to hold of more -/
def tMoT (t : TT) : TT := fun σ H Q => ∃ Q0 : Bool → Hp → Prop, t σ H Q0 ∧ ∀ b H1, Q0 b H1 → Q b H1
theorem pt_mo {X : Cx} {e : Expr} {t : TT} (h : PT X e t) : PT X e (tMoT t) := by
  refine ⟨fun pins s σ H Q I ⟨Q0, h0, h1⟩ => thn (h.run pins s σ H Q0 I h0) fun b s1 hb => ?_⟩
  obtain ⟨H1, J, q⟩ := hb
  exact ⟨H1, J, h1 _ _ q⟩
theorem mo_mono {t : TT} : ∀ (σ : L2.St) (H : Hp) (Q Q' : Bool → Hp → Prop), (∀ b H1, Q b H1 → Q' b H1) → tMoT t σ H Q → tMoT t σ H Q' := fun σ H Q Q' hq ⟨Q0, h0, h1⟩ => ⟨Q0, h0, fun b H1 q => hq _ _ (h1 _ _ q)⟩
theorem mo_go {t : TT} {σ : L2.St} {H : Hp} {Q : Bool → Hp → Prop} (h : t σ H Q) : tMoT t σ H Q := ⟨Q, h, fun _ _ q => q⟩
def dE : Option Int → PyData
  | none => .none
  | some i => .int i
def dRs (r : Ro) : List PyData := r.map dE
def dR (r : Ro) : PyData := .tuple (dRs r)
theorem dp_eV {K : PySem.W.Frag} {H : Hp} : ∀ e : Option Int, Dp K H (eV e) (dE e)
  | none => .non
  | some i => .int i
theorem dpAll_rV {K : PySem.W.Frag} {H : Hp} : ∀ r : Ro, DpAll K H (rV r) (dRs r)
  | [] => .nil
  | e :: r => .cons (dp_eV e) (dpAll_rV r)
theorem dp_rV {K : PySem.W.Frag} {H : Hp} {a : Addr} {r : Ro} (h : SqT K H a (rV r)) : Dp K H (.ref a) (dR r) := .tup h (dpAll_rV r)
theorem eqv_dE : ∀ a b : Option Int, PyData.eqv (dE a) (dE b) = decide (a = b)
  | none, none => by show PyData.eqv .none .none = _; rw [PyData.eqv]; rfl
  | none, some j => by show PyData.eqv .none (.int j) = _; rw [PyData.eqv]; rfl
  | some i, none => by show PyData.eqv (.int i) .none = _; rw [PyData.eqv]; rfl
  | some i, some j => by
    show PyData.eqv (.int i) (.int j) = _
    rw [PyData.eqv]
    by_cases h : i = j
    · subst h
      simp
    · rw [decide_eq_false (fun z => h (Option.some.inj z))]
      simpa using h
theorem eqv_dRs : ∀ a b : Ro, PyData.eqvAll (dRs a) (dRs b) = decide (a = b)
  | [], [] => by show PyData.eqvAll [] [] = _; rw [PyData.eqvAll]; rfl
  | [], y :: b => by show PyData.eqvAll [] (dE y :: dRs b) = _; rw [PyData.eqvAll]; rfl
  | x :: a, [] => by show PyData.eqvAll (dE x :: dRs a) [] = _; rw [PyData.eqvAll]; rfl
  | x :: a, y :: b => by
    show PyData.eqvAll (dE x :: dRs a) (dE y :: dRs b) = _
    rw [PyData.eqvAll, eqv_dE, eqv_dRs a b]
    by_cases h1 : x = y
    · subst h1
      by_cases h2 : a = b
      · subst h2
        simp
      · simp [h2]
    · simp [h1]
theorem eqv_dR (a b : Ro) : PyData.eqv (dR a) (dR b) = decide (a = b) := by
  show PyData.eqv (.tuple (dRs a)) (.tuple (dRs b)) = _
  rw [PyData.eqv]
  exact eqv_dRs a b
theorem can_dRs : ∀ r : Ro, PyData.canLayAll0 (dRs r) = true
  | [] => by show PyData.canLayAll0 [] = true; rw [PyData.canLayAll0]
  | e :: r => by
    show PyData.canLayAll0 (dE e :: dRs r) = true
    rw [PyData.canLayAll0, can_dRs r, Bool.and_true]
    cases e with
    | none => show PyData.canLay0 .none = true; rw [PyData.canLay0]
    | some i => show PyData.canLay0 (.int i) = true; rw [PyData.canLay0]
theorem dep_dRs : ∀ r : Ro, PyData.depthAll (dRs r) ≤ 1
  | [] => by show PyData.depthAll [] ≤ 1; rw [PyData.depthAll]; omega
  | e :: r => by
    show PyData.depthAll (dE e :: dRs r) ≤ 1
    rw [PyData.depthAll]
    have h1 := dep_dRs r
    have h2 : PyData.depth (dE e) ≤ 1 := by
      cases e with
      | none => show PyData.depth .none ≤ 1; simp only [PyData.depth]; omega
      | some i => show PyData.depth (.int i) ≤ 1; simp only [PyData.depth]; omega
    omega
theorem shaped_dR (r : Ro) : SeqAt.shaped (dR r) = true := by
  unfold SeqAt.shaped
  rw [Bool.and_eq_true]
  refine ⟨?_, decide_eq_true ?_⟩
  · show PyData.canLay0 (.tuple (dRs r)) = true
    rw [PyData.canLay0]
    exact can_dRs r
  · show PyData.depth (.tuple (dRs r)) ≤ 64
    have h := dep_dRs r
    rw [PyData.depth]
    omega
@[irreducible] def qSl (K : PySem.W.Frag) : V → Option Int → Option Int → Hp → VK → Prop := rSlA K
@[irreducible] def qCat (K : PySem.W.Frag) : R2 := rCatA K
@[irreducible] def qNe (K : PySem.W.Frag) : R2 := rNeD K
theorem sl_tupQ {X : Cx} : SlR X (qSl X.K) := by
  unfold qSl
  exact sl_tupA
theorem op_catQ {X : Cx} : OpR X (binaryOp .Add) (qCat X.K) := by
  unfold qCat
  exact op_catA
theorem op_neQ {X : Cx} (hu : X.A.units + 64 < cLine) : OpR X (compareOp .NotEq) (qNe X.K) := by
  unfold qNe
  exact op_neD hu
section
variable {K : PySem.W.Frag} {H : Hp} {a b : Addr} {xs ys : List V} {lo hi : Option Int} {Q : VK}
theorem sl_go (hA : SqT K H a xs) (q : ∀ H' p, Same H H' → SqT K H' p (cutV xs lo hi) → Q (.ref p) H') : qSl K (.ref a) lo hi H Q := by
  unfold qSl
  refine ⟨a, xs, rfl, hA, fun hw => ?_, fun _ p hp => q _ p (same_upd hp) (.inl (.inl upd_same))⟩
  refine q H a (fun _ _ h => h) ?_
  have e : cutV xs lo hi = xs := by
    unfold cutV
    rw [hw.1, hw.2, List.drop_zero, Nat.sub_zero]
    exact List.take_of_length_le (Nat.le_refl _)
  rw [e]
  exact hA
theorem cat_go (hA : SqT K H a xs) (hB : SqT K H b ys) (hl : xs.length + ys.length ≤ 1000) (q : ∀ H' p, Same H H' → SqT K H' p (xs ++ ys) → Q (.ref p) H') : qCat K (.ref a) (.ref b) H Q := by
  unfold qCat
  refine ⟨a, b, _, _, rfl, rfl, hA, hB, sz1000 hl, fun z => ?_, fun _ z => ?_, fun _ _ p hp => q _ p (same_upd hp) (.inl (.inl upd_same))⟩
  · subst z
    exact q H b (fun _ _ h => h) hB
  · subst z
    exact q H a (fun _ _ h => h) (by rw [List.append_nil]; exact hA)
theorem neR_go {r t : Ro} (hA : SqT K H a (rV r)) (hB : SqT K H b (rV t)) (q : Q (.bl (!decide (r = t))) H) : qNe K (.ref a) (.ref b) H Q := by
  unfold qNe
  exact ⟨dR r, dR t, dp_rV hA, dp_rV hB, shaped_dR r, shaped_dR t, by rw [eqv_dR]; exact q⟩
theorem cut_from {xs : List V} {k : Nat} : cutV xs (some (k : Int)) none = xs.drop k := by
  unfold cutV
  rw [HT.sIx_nat, HT.sIx_none]
  by_cases h : k ≤ xs.length
  · rw [Nat.min_eq_left h]
    exact List.take_of_length_le (by rw [List.length_drop]; omega)
  · rw [Nat.min_eq_right (by omega), List.drop_of_length_le (Nat.le_refl _), List.drop_of_length_le (by omega), List.take_nil]
theorem cut_to {xs : List V} {k : Nat} : cutV xs none (some (k : Int)) = xs.take k := by
  unfold cutV
  rw [HT.sIx_nat, HT.sIx_none, List.drop_zero, Nat.sub_zero]
  by_cases h : k ≤ xs.length
  · rw [Nat.min_eq_left h]
  · rw [Nat.min_eq_right (by omega), List.take_of_length_le (Nat.le_refl _), List.take_of_length_le (by omega)]
end
section
variable {P : Program} {w : World} {K : PySem.W.Frag} {mg : Str → Option Value} {base : Heap}
theorem scRoutePat : FnScope ["route", "steps"] ["route"] (defScope sRoutePat) := ⟨rfl, rfl, rfl, by decide +kernel, rfl, by decide +kernel, by decide +kernel⟩
theorem scCommon : FnScope ["routes", "length", "route"] ["routes"] (defScope sCommon) := ⟨rfl, rfl, rfl, by decide +kernel, rfl, by decide +kernel, by decide +kernel⟩
def spRoutePat (K : PySem.W.Frag) : Sp := fun vs H Q _ => ∃ (a : Addr) (r : Ro), vs = [.ref a] ∧ SqT K H a (rV r) ∧ r ≠ [] ∧ r.length ≤ 400 ∧ ∀ H', Same H H' → Q (.int (rtp r : Nat)) H'
theorem ok_routePat {f : Addr} {fd : FuncData} (F : Df K mg "route_pattern" sRoutePat ["route"] f fd) : FnOk P w K mg base CX0 1 f fd ["route"] (spRoutePat K) := by
  refine F.F.ok scRoutePat (fun vs H Q E h => ?_) (fun cdv A outer s H vs Q E hr h => ?_)
  · obtain ⟨a, r, rfl, _⟩ := h
    rfl
  · obtain ⟨a, r, rfl, hA, hne, hl, q⟩ := h
    obtain ⟨p1, p2, p3, p4⟩ := rtp_spec hne
    refine ⟨_, pss_cons (ps_set (i := 1) scRoutePat.nd rfl (Or.inl rfl) pe_int)
      (pss_cons (ps_while PassesOwn.never (pt_mo (pt_cmpR (op_neQ hr.units) (pe_op op_catQ (pe_slice sl_tupQ (pv 0) (po_some (pv 1)) po_none) (pe_slice sl_tupQ (pv 0) po_none (po_some (pv 1)))) (pv 0) (nomark _)))
        (pss_one (ps_aug (i := 1) scRoutePat.nd rfl (Or.inl rfl) pe_int ip_add)))
      (pss_one (ps_ret (pv 1)))), ?_⟩
    refine while_by (fun σ H' => ∃ k, 1 ≤ k ∧ k ≤ rtp r ∧ σ = [some (.ref a), some (.int (k : Nat))] ∧ Same H H') (fun σ H' => match σ with | [_, some (.int z)] => rtp r + 1 - z.toNat | _ => 0)
      ⟨1, Nat.le_refl _, p1, rfl, fun _ _ h => h⟩ (fun σ H' ⟨k, k1, k2, es, sm⟩ => ?_) mo_mono
    subst es
    refine mo_go ?_
    have hA1 := sqT_same sm hA
    refine ⟨.ref a, rfl, .int (k : Nat), rfl, k, rfl, sl_go hA1 fun H1 b1 s1 h1 => ⟨.ref a, rfl, .int (k : Nat), rfl, k, rfl, sl_go (sqT_same s1 hA1) fun H2 b2 s2 h2 => ?_⟩⟩
    rw [cut_from] at h1
    rw [cut_to] at h2
    have hlen : ((rV r).drop k).length + ((rV r).take k).length ≤ 1000 := by
      rw [List.length_drop, List.length_take, rV_len]
      omega
    refine cat_go (sqT_same s2 h1) h2 hlen fun H3 b3 s3 h3 => ⟨.ref a, rfl, ?_⟩
    have e3 : (rV r).drop k ++ (rV r).take k = rV (rot r k) := by
      unfold rot rV
      rw [List.map_append, List.map_drop, List.map_take]
    rw [e3] at h3
    have sm3 := ((sm.trans s1).trans s2).trans s3
    refine neR_go h3 (sqT_same sm3 hA) ⟨_, rfl, ?_⟩
    by_cases hk : rot r k = r
    · rw [decide_eq_true hk]
      refine iteF ⟨.int (k : Nat), rfl, ?_⟩
      have : k = rtp r := by
        by_cases h : k = rtp r
        · exact h
        · exact absurd hk (p3 k k1 (by omega))
      rw [this]
      exact q _ sm3
    · rw [decide_eq_false hk]
      have hlt : k < rtp r := by
        by_cases h : k = rtp r
        · rw [h] at hk
          exact absurd p2 hk
        · omega
      refine iteT ⟨.int (k : Nat), rfl, k, 1, rfl, rfl, ⟨k + 1, by omega, by omega, rfl, sm3⟩, ?_⟩
      show rtp r + 1 - ((k : Int) + 1).toNat < rtp r + 1 - (k : Int).toNat
      omega
end
end Sv
set_option maxHeartbeats 4000000
namespace Sv
open PySem PySem.Spec PyProof.Rows L2
section
variable {P : Program} {w : World} {K : PySem.W.Frag} {mg : Str → Option Value} {base : Heap}
def spCommon (K : PySem.W.Frag) : Sp := fun vs H Q _ => ∃ (b : Addr) (rs : List Ro), vs = [.ref b] ∧ RtAt K H b rs ∧ (∀ r ∈ rs, 1 ≤ r.length ∧ r.length ≤ 6) ∧ ∀ H', Same H H' → Q (.int (lc rs : Nat)) H'
theorem ok_common (T : Bd P K mg) : FnOk P w K mg base CX0 2 T.aCommon T.dCommon ["routes"] (spCommon K) := by
  have GR : FnOk P w K mg base CX0 1 T.aRoutePat T.dRoutePat ["route"] (spRoutePat K) := ok_routePat T.RoutePat
  refine T.Common.F.ok scCommon (fun vs H Q E h => ?_) (fun cdv A outer s H vs Q E hr h => ?_)
  · obtain ⟨b, rs, rfl, _⟩ := h
    rfl
  · obtain ⟨b, rs, rfl, hB, hrs, q⟩ := h
    obtain ⟨qs, hA, hP⟩ := hB.ex
    have hql := paired_len hP
    refine ⟨_, pss_cons (ps_set (i := 1) scCommon.nd rfl (Or.inl rfl) pe_int)
      (pss_cons (ps_for PassesOwn.never rfl (pi_tup (pv 0)) (pg_name (i := 2) scCommon.nd rfl (Or.inl rfl))
        (pss_one (ps_set (i := 1) scCommon.nd rfl (Or.inl rfl) (pe_callBfun cr_lcm (by rfl) T.lcm (pa_cons (pv 1) (pa_cons (pe_call (E := E0) GR hr (by rfl) T.RoutePat.g T.RoutePat.F.kp T.RoutePat.b .nil pass0 (pa_cons (pv 2) pa_nil)) pa_nil))))))
      (pss_one (ps_ret (pv 1)))), ?_⟩
    refine ⟨.ref b, rfl, b, rfl, ⟨_, hA⟩, for_tup (xs := qs.map V.ref) (fun i σ H' => (∃ y2, σ = [some (.ref b), some (.int (lc (rs.take i) : Nat)), y2]) ∧ Same H H') ⟨⟨none, rfl⟩, fun _ _ h => h⟩ (fun i σ H' _ h => sqT_same h.2 hA) (fun i x σ H' hx ⟨⟨y2, es⟩, sm⟩ => ?_) (fun σ H' ⟨⟨y2, es⟩, sm⟩ => ?_)⟩
    · subst es
      obtain ⟨qa, hqa, rfl⟩ := refs_lt hx
      obtain ⟨r, hr1, hqr⟩ := paired_at hP hqa
      have hm := List.mem_of_getElem? hr1
      obtain ⟨l1, l2⟩ := hrs r hm
      have rne : r ≠ [] := fun z => by rw [z] at l1; simp at l1
      have b1 := (lc_le (rs := rs.take i) fun x hx => hrs x (List.mem_of_mem_take hx)).2
      have b2 := (rtp_spec rne).2.2.2
      have p64 : (1000 : Nat) < 2 ^ 64 := by decide
      refine ⟨.int (lc (rs.take i) : Nat), rfl, .ref qa, rfl, qa, r, rfl, sqT_same sm hqr, rne, by omega, fun H1 sm1 => ⟨lc (rs.take i), rtp r, rfl, by omega, by omega, ⟨some (.ref qa), ?_⟩, sm.trans sm1⟩⟩
      rw [List.take_add_one, hr1]
      show _ = [some (V.ref b), some (V.int (lc (rs.take i ++ [r]) : Nat)), some (V.ref qa)]
      rw [lc_snoc]
      rfl
    · subst es
      rw [List.length_map, hql, List.take_length]
      exact ⟨.int (lc rs : Nat), rfl, q _ sm⟩
theorem scPattern : FnScope ["plan"] ["plan"] (defScope sPattern) := ⟨rfl, rfl, rfl, by decide +kernel, rfl, by decide +kernel, by decide +kernel⟩
/-- what a function of a plan does where the plan is wrong -/
abbrev BadE (C : Addr) (zs : List Int) (rs : List Ro) (H : Hp) (E : XK) : Prop := ∀ part i, bad zs rs = some (part, i) → PlanE C H part i E
def spPattern (K : PySem.W.Frag) (C : Addr) : Sp := fun vs H Q E => ∃ (p : Addr) (zs : List Int) (rs : List Ro), vs = [.ref p] ∧ PlanAt K H p zs rs ∧ Small zs rs ∧ (bad zs rs = none → ∀ H', Same H H' → Q (.int (lc rs : Nat)) H') ∧ BadE C zs rs H E
theorem ok_pattern (T : Bd P K mg) : FnOk P w K mg base (L2.CX P w) 5 T.aPattern T.dPattern ["plan"] (spPattern K T.C) := by
  have GP : FnOk P w K mg base (L2.CX P w) 4 T.aCheckPlan T.dCheckPlan ["plan"] (spCheckPlan K T.C) := ok_checkPlan T
  have GC : FnOk P w K mg base CX0 2 T.aCommon T.dCommon ["routes"] (spCommon K) := ok_common T
  refine T.Pattern.F.okX scPattern (fun vs H Q E h => ?_) (fun cdv A outer s H vs Q E hr h => ?_)
  · obtain ⟨p, zs, rs, rfl, _⟩ := h
    rfl
  · obtain ⟨p, zs, rs, rfl, hp, hs, q1, q2⟩ := h
    obtain ⟨a, b, hp1, ha, hb⟩ := hp.ex
    refine ⟨_, pss_cons (ps_expr (pe_call (E := E) GP hr (by rfl) T.CheckPlan.g T.CheckPlan.F.kp T.CheckPlan.b .nil (passes_call (takes_of rfl rfl rfl rfl) fun _ _ _ _ h => h) (pa_cons (pv 0) pa_nil)))
      (pss_one (ps_ret (pe_call (E := E0) GC (hr.mono (by decide)) (by rfl) T.Common.g T.Common.F.kp T.Common.b .nil pass0 (pa_cons (pe_ix ix_tup (pv 0) pe_int (fun _ _ => rfl)) pa_nil)))), ?_⟩
    refine ⟨.ref p, rfl, p, zs, rs, rfl, hp, hs, fun e1 H1 sm1 => ?_, q2⟩
    have g := good_of e1
    exact ⟨.ref p, rfl, p, _, 1, .ref b, rfl, rfl, sqT_same sm1 hp1, rfl, b, rs, rfl, hb.same sm1, g.r2, fun H2 sm2 => q1 e1 H2 (sm1.trans sm2)⟩
theorem NewTL.imp {H H1 : Hp} {ts : List (List V)} {Q : VK} (h : NewTL H ts Q) (e : Same H H1) : NewTL H1 ts Q := fun H' f sm hf tl => h H' f (e.trans sm) (Same.free e hf) tl
end
end Sv
set_option maxHeartbeats 4000000
namespace Sv
open PySem PySem.Spec PyProof.Rows L2
theorem TL.ext2 {H : Hp} {f g : Addr} {ts us : List (List V)} {xs ys : List V} (x : TL H f ts) (y : TL H g us) (hf : H f = some (.lst xs)) (hg : H g = some (.lst ys)) : TL (upd H f (.lst (xs ++ ys))) f (ts ++ us) := by
  obtain ⟨ps, h1, h2⟩ := x.ex
  obtain ⟨qs, g1, g2⟩ := y.ex
  rw [hf] at h1
  rw [hg] at g1
  obtain rfl := HO.lst.inj (Option.some.inj h1)
  obtain rfl := HO.lst.inj (Option.some.inj g1)
  refine ⟨ps ++ qs, by rw [upd_same, List.map_append], tupsV_imp (fun b xs q => ?_) (tupsV_app h2 g2)⟩
  rw [upd_ne (fun z => by rw [z, hf] at q; cases q)]
  exact q
theorem TL.len {H : Hp} {f : Addr} {ts : List (List V)} {xs : List V} (x : TL H f ts) (hf : H f = some (.lst xs)) : xs.length = ts.length := by
  obtain ⟨ps, h1, h2⟩ := x.ex
  rw [hf] at h1
  obtain rfl := HO.lst.inj (Option.some.inj h1)
  rw [List.length_map, tupsV_len h2]
def carV (n : Nat) : List (List V) := (List.range n).map fun c => [V.str "carrier", V.int (c : Nat)]
def posV (s n : Nat) : List (List V) := (List.range n).map fun p => [V.str "shelf", V.int (s : Nat), V.int (p : Nat)]
def shN (zs : List Int) : Nat → List (List V)
  | 0 => []
  | k + 1 => shN zs k ++ posV k (zs.getD k 0).toNat
def placesV (zs : List Int) (n : Nat) : List (List V) := carV n ++ shN zs zs.length
theorem carV_succ (n : Nat) : carV (n + 1) = carV n ++ [[V.str "carrier", V.int (n : Nat)]] := by
  unfold carV
  rw [List.range_succ, List.map_append]
  rfl
theorem posV_succ (s n : Nat) : posV s (n + 1) = posV s n ++ [[V.str "shelf", V.int (s : Nat), V.int (n : Nat)]] := by
  unfold posV
  rw [List.range_succ, List.map_append]
  rfl
theorem carV_len (n : Nat) : (carV n).length = n := by unfold carV; simp
theorem posV_len (s n : Nat) : (posV s n).length = n := by unfold posV; simp
theorem shN_len {zs : List Int} (h : ∀ z ∈ zs, 0 ≤ z ∧ z ≤ 9) : ∀ k, k ≤ zs.length → (shN zs k).length ≤ 9 * k
  | 0, _ => Nat.le_refl _
  | k + 1, hk => by
    unfold shN
    rw [List.length_append, posV_len]
    have h1 := shN_len h k (by omega)
    have e : zs.getD k 0 = zs[k] := by rw [List.getD_eq_getElem?_getD, List.getElem?_eq_getElem (by omega)]; rfl
    have h2 := h zs[k] (List.getElem_mem (by omega))
    rw [e]
    omega
section
variable {P : Program} {w : World} {K : PySem.W.Frag} {mg : Str → Option Value} {base : Heap}
def nPl : List Str := ["plan", "sizes", "routes", "found", "shelf", "size", "carrier", "position"]
theorem scPlacesOf : FnScope nPl ["plan"] (defScope sPlacesOf) := ⟨rfl, rfl, rfl, by decide +kernel, rfl, by decide +kernel, by decide +kernel⟩
def spPlacesOf (K : PySem.W.Frag) : Sp := fun vs H Q E => ∃ (p : Addr) (zs : List Int) (rs : List Ro), vs = [.ref p] ∧ PlanAt K H p zs rs ∧ Good zs rs ∧ NewTL H (placesV zs rs.length) Q
theorem ok_placesOf (T : Bd P K mg) : FnOk P w K mg base CX0 1 T.aPlacesOf T.dPlacesOf ["plan"] (spPlacesOf K) := by
  refine T.PlacesOf.F.ok scPlacesOf (fun vs H Q E h => ?_) (fun cdv A outer s H vs Q E hr h => ?_)
  · obtain ⟨p, zs, rs, rfl, _⟩ := h
    rfl
  · obtain ⟨p, zs, rs, rfl, hp, gd, q1⟩ := h
    obtain ⟨a, b, hp1, ha, hb⟩ := hp.ex
    refine ⟨_, pss_cons (ps_asg (pv 0) (pg_tup rfl (pgs_cons (pg_name (i := 1) scPlacesOf.nd rfl (.inl rfl)) (pgs_cons (pg_name (i := 2) scPlacesOf.nd rfl (.inl rfl)) pgs_nil))))
      (pss_cons (ps_setLc (i := 3) (own := [("carrier", 6)]) (g := gName 6) rfl scPlacesOf.nd rfl rfl (sw_true rfl rfl rfl (by decide +kernel)) (pi_range1 (by rfl) T.bt.range (pa_cons (pe_callB call_len_seq (by rfl) T.bt.len b_len (pa_cons (pv 2) pa_nil)) pa_nil)) (blkOk_by (N := nPl) (sc := defScope sPlacesOf) (by decide +kernel))
          (fun _ _ _ _ _ => pg_name (i := 6) scPlacesOf.nd rfl (Or.inl rfl)) (fun _ _ _ _ _ => pts_nil) (fun _ _ _ _ _ => pe_tup (pa_cons pe_str (pa_cons (pv 6) pa_nil))))
      (pss_cons (ps_for PassesOwn.never rfl (pi_enumT (by rfl) T.bt.enumerate (pa_cons (pv 1) pa_nil)) (pg_tup rfl (pgs_cons (pg_name (i := 4) scPlacesOf.nd rfl (.inr rfl)) (pgs_cons (pg_name (i := 5) scPlacesOf.nd rfl (.inl rfl)) pgs_nil)))
        (pss_one (ps_expr (pe_bm PySem.F.plainAttrs_list PySem.F.slot_list_extend PySem.F.type_list_extend mt_extend (pv 3) <| pa_cons
          (pe_lc (own := [("position", 7)]) (g := gName 7) rfl scPlacesOf.nd (pi_range1 (by rfl) T.bt.range (pa_cons (pv 5) pa_nil)) (blkOk_by (N := nPl) (sc := defScope sPlacesOf) (by decide +kernel))
            (fun _ _ _ _ _ => pg_name (i := 7) scPlacesOf.nd rfl (Or.inl rfl)) (fun _ _ _ _ _ => pts_nil) (fun _ _ _ _ _ => pe_tup (pa_cons pe_str (pa_cons (pv 4) (pa_cons (pv 7) pa_nil))))) pa_nil))))
      (pss_one (ps_ret (pv 3))))), ?_⟩
    have sm1 := Same.refl H
    obtain ⟨qs, hA, hP⟩ := hb.ex
    have hql := paired_len hP
    have hp2 := sqT_same sm1 hp1
    refine ⟨.ref p, rfl, p, [.ref a, .ref b], rfl, hp2, rfl, _, _, rfl, _, _, rfl, rfl, ?_⟩
    have b62 : (1000 : Int) < 2 ^ 62 := by decide
    refine ⟨.ref b, rfl, b, _, rfl, .inr (sqT_same sm1 hA), ((qs.map V.ref).length : Nat), rfl, by omega, by rw [List.length_map, hql]; have := gd.r1; omega, fun f hf => ?_⟩
    rw [List.length_map, hql]
    have nf : H f = none := Same.free sm1 hf
    refine lc_range (lo := 0) (n := ((rs.length : Nat) : Int).toNat) (fun i H' => Same H H' ∧ TL H' f (carV i)) ⟨same_upd hf, [], upd_same, .nil⟩ (fun i H' hi ⟨sm, tl⟩ => ?_) (fun H' ⟨sm, tl⟩ => ?_)
    · have hi2 : i < rs.length := by
        rw [Int.toNat_natCast] at hi
        exact hi
      have ei : (0 : Int) + (i : Nat) = (i : Nat) := by omega
      rw [ei]
      obtain ⟨ps, hff, htv⟩ := tl.ex
      refine ⟨rfl, yes_go ⟨.int (i : Nat), rfl, (by show 2 ≤ sizeLine; decide), fun t ht => ⟨ps.map V.ref, ?_, ?_, same_of (same_of sm (Same.free sm ht)) hf, ?_⟩⟩⟩
      · rw [upd_ne (ne_of_none hff ht)]
        exact hff
      · rw [tl.len hff, carV_len]
        exact small1000 (by have := gd.r1; omega)
      · rw [carV_succ]
        exact (tl.same (same_upd ht)).push (by rw [upd_ne (ne_of_none hff ht)]; exact hff) upd_same
    rw [Int.toNat_natCast] at tl
    have smf : Same H H' := sm1.trans sm
    -- the shelves
    refine ⟨.ref a, rfl, a, _, rfl, sqT_same smf ha, for_enumT (xs := zs.map V.int) (fun i σ H2 => (∃ y4 y5, σ = [some (.ref p), some (.ref a), some (.ref b), some (.ref f), y4, y5, none, none]) ∧ Same H H2 ∧ TL H2 f (carV rs.length ++ shN zs i)) ⟨⟨none, none, rfl⟩, smf, by rw [show shN zs 0 = [] from rfl, List.append_nil]; exact tl⟩
      (fun i σ H2 _ h => sqT_same h.2.1 ha) (fun i x σ H2 U hx ⟨⟨y4, y5, es⟩, sm2, tl2⟩ hU => ?_) (fun σ H2 ⟨⟨y4, y5, es⟩, sm2, tl2⟩ => ?_)⟩
    · subst es
      obtain ⟨z, hz1, rfl⟩ := iV_lt hx
      have hz := gd.z2 z (List.mem_of_getElem? hz1)
      have il : i < zs.length := (List.getElem?_eq_some_iff.mp hz1).1
      have zd : zs.getD i 0 = z := by rw [List.getD_eq_getElem?_getD, hz1]; rfl
      have sm3 : Same H (upd H2 U (.tup [.int (i : Nat), .int z])) := same_of sm2 (Same.free sm2 hU)
      have tl3 := tl2.same (same_upd (o := .tup [.int (i : Nat), .int z]) hU)
      refine ⟨U, [.int (i : Nat), .int z], rfl, .inl (.inl upd_same), rfl, _, _, rfl, _, _, rfl, rfl, ?_⟩
      generalize upd H2 U (.tup [.int (i : Nat), .int z]) = H3 at sm3 tl3 ⊢
      obtain ⟨ps, hff, htv⟩ := tl3.ex
      refine ⟨.ref f, rfl, .inl ⟨rfl, _, .inl (.inl hff)⟩, .int z, rfl, z, rfl, by omega, by omega, fun D hD => ?_⟩
      have fD : f ≠ D := ne_of_none hff hD
      refine lc_range (lo := 0) (n := z.toNat) (fun j H' => Same H3 H' ∧ TL H' D (posV i j)) ⟨same_upd hD, [], upd_same, .nil⟩ (fun j H' hj ⟨sm4, tl4⟩ => ?_) (fun H' ⟨sm4, tl4⟩ => ?_)
      · have ej : (0 : Int) + (j : Nat) = (j : Nat) := by omega
        rw [ej]
        obtain ⟨ps2, hdd, htv2⟩ := tl4.ex
        refine ⟨rfl, yes_go ⟨.int (i : Nat), rfl, .int (j : Nat), rfl, (by show 3 ≤ sizeLine; decide), fun t ht => ⟨ps2.map V.ref, ?_, ?_, same_of (same_of sm4 (Same.free sm4 ht)) hD, ?_⟩⟩⟩
        · rw [upd_ne (ne_of_none hdd ht)]
          exact hdd
        · rw [tl4.len hdd, posV_len]
          exact small1000 (by omega)
        · rw [posV_succ]
          exact (tl4.same (same_upd ht)).push (by rw [upd_ne (ne_of_none hdd ht)]; exact hdd) upd_same
      · obtain ⟨ps2, hdd, htv2⟩ := tl4.ex
        have hf4 := sm4 _ _ hff
        have tl5 := tl3.same sm4
        have l1 := tl5.len hf4
        have l2 := tl4.len hdd
        have l3 := shN_len gd.z2 i (by omega)
        refine ⟨f, D, _, _, rfl, rfl, hf4, hdd, ?_, ⟨_, _, rfl⟩, same_of (sm3.trans sm4) nf, ?_⟩
        · rw [l1, l2, List.length_append, carV_len, posV_len]
          exact sz1000 (by have := gd.r1; have := gd.z1; omega)
        · have e : carV rs.length ++ shN zs (i + 1) = (carV rs.length ++ shN zs i) ++ posV i z.toNat := by
            conv => lhs; unfold shN
            rw [zd, List.append_assoc]
          rw [e]
          exact tl5.ext2 tl4 hf4 hdd
    · subst es
      rw [List.length_map] at tl2
      exact ⟨.ref f, rfl, q1 H2 f sm2 nf tl2⟩
end
end Sv
set_option maxHeartbeats 4000000
namespace Sv
open PySem PySem.Spec PyProof.Rows L2
def rSumT (K : PySem.W.Frag) : List V → Hp → VK → Prop := fun vs H Q => ∃ (a : Addr) (ns : List Int), vs = [V.ref a] ∧ SqT K H a (ns.map V.int) ∧ Q (.int ns.sum) H
theorem cr_sumT {X : Cx} (hc : X.calm = true) : CallR X (.builtin "sum") (rSumT X.K) := by
  intro pins s σ H vs us Q I r h
  obtain ⟨a, ns, rfl, hs, q⟩ := h
  obtain ⟨its, rv, hl, _⟩ := I.tuple hs
  rw [Vals.ref1 r]
  have hi := rv.ints
  obtain ⟨xs, e⟩ := hi.allInts.items
  have hn : numsOf (intItems xs).toList = ns := by rw [← e]; exact hi.numsOf
  rw [nums_intItems] at hn
  rw [e] at hl
  refine PySem.W.ktm_sumG (I.ok.hd hc) hl fun h' tk t' hk => ?_
  rw [preSum_eq, List.take_of_length_le (by simp), hn]
  exact ⟨.int ns.sum, H, I.kept hk, ⟨_, rfl⟩, q⟩
abbrev SegV (H : Hp) (qs : List Addr) (ss : List (List Int)) : Prop := Paired (fun q seg => H q = some (.tup (seg.map V.int))) qs ss
theorem segV_imp {H H' : Hp} (e : ∀ b xs, H b = some (.tup xs) → H' b = some (.tup xs)) : ∀ {ps : List Addr} {ts : List (List Int)}, SegV H ps ts → SegV H' ps ts
  | _, _, .nil => .nil
  | _, _, .cons h t => .cons (e _ _ h) (segV_imp e t)
theorem segV_len {H : Hp} : ∀ {ps : List Addr} {ts : List (List Int)}, SegV H ps ts → ps.length = ts.length
  | _, _, .nil => rfl
  | _, _, .cons _ t => congrArg Nat.succ (segV_len t)
theorem segV_snoc {H : Hp} {p : Addr} {t : List Int} (hp : H p = some (.tup (t.map V.int))) : ∀ {ps : List Addr} {ts : List (List Int)}, SegV H ps ts → SegV H (ps ++ [p]) (ts ++ [t])
  | _, _, .nil => .cons hp .nil
  | _, _, .cons h r => .cons h (segV_snoc hp r)
/-- a layout: who is carried, who lies where -/
structure LayAt (H : Hp) (ca sh : Addr) (cs : List Int) (ss : List (List Int)) : Prop where
  c : H ca = some (.tup (cs.map V.int))
  s : ∃ qs : List Addr, H sh = some (.tup (qs.map V.ref)) ∧ SegV H qs ss
theorem LayAt.same {H H' : Hp} {ca sh : Addr} {cs : List Int} {ss : List (List Int)} (x : LayAt H ca sh cs ss) (e : Same H H') : LayAt H' ca sh cs ss := by
  obtain ⟨qs, h1, h2⟩ := x.s
  exact ⟨e _ _ x.c, qs, e _ _ h1, segV_imp (fun b xs q => e _ _ q) h2⟩
theorem cut_seg {xs : List V} {st k : Nat} : cutV xs (some (st : Int)) (some (((st : Nat) : Int) + (k : Nat))) = (xs.drop st).take k := by
  have e : ((st : Nat) : Int) + (k : Nat) = ((st + k : Nat) : Int) := by omega
  unfold cutV
  rw [e, HT.sIx_nat, HT.sIx_nat]
  by_cases h1 : st + k ≤ xs.length
  · rw [Nat.min_eq_left h1, Nat.min_eq_left (by omega)]
    congr 1
    omega
  · by_cases h2 : st ≤ xs.length
    · rw [Nat.min_eq_right (by omega), Nat.min_eq_left h2, List.take_of_length_le (by rw [List.length_drop]; omega), List.take_of_length_le (by rw [List.length_drop]; omega)]
    · rw [Nat.min_eq_right (by omega), Nat.min_eq_right (by omega), List.drop_of_length_le (by omega : xs.length ≤ st), List.drop_of_length_le (Nat.le_refl _), List.take_nil, List.take_nil]
section
variable {P : Program} {w : World} {K : PySem.W.Frag} {mg : Str → Option Value} {base : Heap}
theorem scNum : FnScope ["plan", "sizes", "routes"] ["plan"] (defScope sNumPlaces) := ⟨rfl, rfl, rfl, by decide +kernel, rfl, by decide +kernel, by decide +kernel⟩
theorem scSplit : FnScope ["plan", "contents", "sizes", "routes", "start", "carried", "shelves", "size"] ["plan", "contents"] (defScope sSplit) := ⟨rfl, rfl, rfl, by decide +kernel, rfl, by decide +kernel, by decide +kernel⟩
def spNum (K : PySem.W.Frag) : Sp := fun vs H Q _ => ∃ (p : Addr) (zs : List Int) (rs : List Ro), vs = [.ref p] ∧ PlanAt K H p zs rs ∧ (∀ z ∈ zs, 0 ≤ z) ∧ Q (.int (rs.length + sumN zs : Nat)) H
theorem ok_num (T : Bd P K mg) : FnOk P w K mg base CX0 1 T.aNumPlaces T.dNumPlaces ["plan"] (spNum K) := by
  refine T.NumPlaces.F.ok scNum (fun vs H Q E h => ?_) (fun cdv A outer s H vs Q E hr h => ?_)
  · obtain ⟨p, zs, rs, rfl, _⟩ := h
    rfl
  · obtain ⟨p, zs, rs, rfl, hp, hz, q⟩ := h
    obtain ⟨a, b, hp1, ha, hb⟩ := hp.ex
    obtain ⟨qs, hA, hP⟩ := hb.ex
    have hql := paired_len hP
    refine ⟨_, pss_cons (ps_asg (pv 0) (pg_tup rfl (pgs_cons (pg_name (i := 1) scNum.nd rfl (.inl rfl)) (pgs_cons (pg_name (i := 2) scNum.nd rfl (.inl rfl)) pgs_nil))))
      (pss_one (ps_ret (pe_op op_add (pe_callB call_len_seq (by rfl) T.bt.len b_len (pa_cons (pv 2) pa_nil)) (pe_callB (cr_sumT rfl) (by rfl) T.bt.sum b_sum (pa_cons (pv 1) pa_nil))))), ?_⟩
    refine ⟨.ref p, rfl, p, [.ref a, .ref b], rfl, hp1, rfl, _, _, rfl, _, _, rfl, rfl, ?_⟩
    refine ⟨.ref b, rfl, b, _, rfl, .inr hA, .ref a, rfl, a, zs, rfl, ha, _, _, rfl, rfl, ?_⟩
    rw [List.length_map, hql, sum_int hz]
    exact q
def spSplit (K : PySem.W.Frag) : Sp := fun vs H Q _ => ∃ (p c : Addr) (zs : List Int) (rs : List Ro) (cs : List Int), vs = [.ref p, .ref c] ∧ PlanAt K H p zs rs ∧ SqL K H c (cs.map V.int) ∧ (∀ z ∈ zs, 0 ≤ z ∧ z ≤ 9) ∧ zs.length ≤ 12 ∧ rs.length ≤ 6 ∧ cs.length ≤ 1000 ∧
  ∀ H' t ca sh, Same H H' → H' t = some (.tup [.ref ca, .ref sh]) → LayAt H' ca sh (cs.take rs.length) (segs cs rs.length zs) → Q (.ref t) H'
theorem ok_split (T : Bd P K mg) : FnOk P w K mg base CX0 1 T.aSplit T.dSplit ["plan", "contents"] (spSplit K) := by
  refine T.Split.F.ok scSplit (fun vs H Q E h => ?_) (fun cdv A outer s H vs Q E hr h => ?_)
  · obtain ⟨p, c, zs, rs, cs, rfl, _⟩ := h
    rfl
  · obtain ⟨p, c, zs, rs, cs, rfl, hp, hc, hz, lz, lr, lc, q⟩ := h
    obtain ⟨a, b, hp1, ha, hb⟩ := hp.ex
    obtain ⟨qs, hA, hP⟩ := hb.ex
    have hql := paired_len hP
    refine ⟨_, pss_cons (ps_asg (pv 0) (pg_tup rfl (pgs_cons (pg_name (i := 2) scSplit.nd rfl (.inl rfl)) (pgs_cons (pg_name (i := 3) scSplit.nd rfl (.inl rfl)) pgs_nil))))
      (pss_cons (ps_set (i := 4) scSplit.nd rfl (Or.inl rfl) (pe_callB call_len_seq (by rfl) T.bt.len b_len (pa_cons (pv 3) pa_nil)))
      (pss_cons (ps_set (i := 5) scSplit.nd rfl (Or.inl rfl) (pe_callTy call_tuple_of (by rfl) T.bt.tuple b_tuple (pa_cons (pe_slice sl_list (pv 1) po_none (po_some (pv 4))) pa_nil)))
      (pss_cons (ps_set (i := 6) scSplit.nd rfl (Or.inl rfl) (pe_lst pa_nil))
      (pss_cons (ps_for PassesOwn.never rfl (pi_tup (pv 2)) (pg_name (i := 7) scSplit.nd rfl (Or.inl rfl))
        (pss_cons (ps_expr (pe_bm PySem.F.plainAttrs_list PySem.F.slot_list_append PySem.F.type_list_append mt_append (pv 6) (pa_cons (pe_callTy call_tuple_of (by rfl) T.bt.tuple b_tuple (pa_cons (pe_slice sl_list (pv 1) (po_some (pv 4)) (po_some (pe_op op_add (pv 4) (pv 7)))) pa_nil)) pa_nil)))
        (pss_one (ps_aug (i := 4) scSplit.nd rfl (Or.inl rfl) (pv 7) ip_add))))
      (pss_one (ps_ret (pe_tup (pa_cons (pv 5) (pa_cons (pe_callTy call_tuple_of (by rfl) T.bt.tuple b_tuple (pa_cons (pv 6) pa_nil)) pa_nil))))))))), ?_⟩
    refine ⟨.ref p, rfl, p, [.ref a, .ref b], rfl, hp1, rfl, _, _, rfl, _, _, rfl, rfl, ?_⟩
    refine ⟨.ref b, rfl, b, _, rfl, .inr hA, ?_⟩
    rw [List.length_map, hql]
    refine ⟨.ref c, rfl, .int (rs.length : Nat), rfl, (rs.length : Nat), rfl, c, _, rfl, hc, fun p1 hp1 => ?_⟩
    rw [cut_to, ← List.map_take]
    have m1 : Same H (upd H p1 (.lst ((cs.take rs.length).map V.int))) := same_upd hp1
    refine ⟨p1, _, rfl, .inl ⟨.inl (.inl upd_same), fun ca hca => ?_⟩⟩
    have m2 := m1.trans (same_upd (o := .tup ((cs.take rs.length).map V.int)) hca)
    have kca : (upd (upd H p1 (.lst ((cs.take rs.length).map V.int))) ca (.tup ((cs.take rs.length).map V.int))) ca = some (.tup ((cs.take rs.length).map V.int)) := upd_same
    generalize upd (upd H p1 (.lst ((cs.take rs.length).map V.int))) ca (.tup ((cs.take rs.length).map V.int)) = H2 at m2 kca ⊢
    refine ⟨Nat.zero_le _, fun f hf => ?_⟩
    have nf : H f = none := Same.free m2 hf
    have m3 : Same H (upd H2 f (.lst [])) := m2.trans (same_upd hf)
    have kca3 : (upd H2 f (.lst [])) ca = some (.tup ((cs.take rs.length).map V.int)) := by rw [upd_ne (ne_of_none kca hf)]; exact kca
    refine ⟨.ref a, rfl, a, rfl, ⟨_, sqT_same m3 ha⟩, for_tup (xs := zs.map V.int) (fun i σ H' => (∃ y7, σ = [some (.ref p), some (.ref c), some (.ref a), some (.ref b), some (.int (rs.length + sumN (zs.take i) : Nat)), some (.ref ca), some (.ref f), y7]) ∧ Same H H' ∧ H' ca = some (.tup ((cs.take rs.length).map V.int)) ∧
        ∃ qs : List Addr, H' f = some (.lst (qs.map V.ref)) ∧ SegV H' qs (segs cs rs.length (zs.take i))) ⟨⟨none, rfl⟩, m3, kca3, [], upd_same, .nil⟩ (fun i σ H' _ h => sqT_same h.2.1 ha) (fun i x σ H' hx ⟨⟨y7, es⟩, sm, kc, qs2, kf, sv⟩ => ?_) (fun σ H' ⟨⟨y7, es⟩, sm, kc, qs2, kf, sv⟩ => ?_)⟩
    · subst es
      obtain ⟨z, hz1, rfl⟩ := iV_lt hx
      have hzz := hz z (List.mem_of_getElem? hz1)
      have il : i < zs.length := (List.getElem?_eq_some_iff.mp hz1).1
      have ez : z = (z.toNat : Nat) := (Int.toNat_of_nonneg hzz.1).symm
      refine ⟨.ref f, rfl, .inl ⟨rfl, _, .inl (.inl kf)⟩, .ref c, rfl, .int (rs.length + sumN (zs.take i) : Nat), rfl, (rs.length + sumN (zs.take i) : Nat), rfl, .int (rs.length + sumN (zs.take i) : Nat), rfl, .int z, rfl, (rs.length + sumN (zs.take i) : Nat), z, rfl, rfl, _, rfl, c, _, rfl, Same.seq sm hc, fun p4 hp4 => ?_⟩
      have ecut : cutV (cs.map V.int) (some ((rs.length + sumN (zs.take i) : Nat) : Int)) (some (((rs.length + sumN (zs.take i) : Nat) : Int) + z)) = ((cs.drop (rs.length + sumN (zs.take i))).take z.toNat).map V.int := by
        rw [show (((rs.length + sumN (zs.take i) : Nat) : Int) + z) = ((rs.length + sumN (zs.take i) : Nat) : Int) + (z.toNat : Nat) by omega, cut_seg, ← List.map_drop, ← List.map_take]
      rw [ecut]
      have m4 : Same H' (upd H' p4 (.lst (((cs.drop (rs.length + sumN (zs.take i))).take z.toNat).map V.int))) := same_upd hp4
      refine ⟨p4, _, rfl, .inl ⟨.inl (.inl upd_same), fun p5 hp5 => ?_⟩⟩
      have m5 := m4.trans (same_upd (o := .tup (((cs.drop (rs.length + sumN (zs.take i))).take z.toNat).map V.int)) hp5)
      have k5 : (upd (upd H' p4 (.lst (((cs.drop (rs.length + sumN (zs.take i))).take z.toNat).map V.int))) p5 (.tup (((cs.drop (rs.length + sumN (zs.take i))).take z.toNat).map V.int))) p5 = some (.tup (((cs.drop (rs.length + sumN (zs.take i))).take z.toNat).map V.int)) := upd_same
      generalize upd (upd H' p4 (.lst (((cs.drop (rs.length + sumN (zs.take i))).take z.toNat).map V.int))) p5 (.tup (((cs.drop (rs.length + sumN (zs.take i))).take z.toNat).map V.int)) = H5 at m5 k5 ⊢
      have kf5 := m5 _ _ kf
      have hql2 : qs2.length = i := by
        rw [segV_len sv, segs_len, List.length_take]
        omega
      have ek : zs.take (i + 1) = zs.take i ++ [z] := by rw [List.take_add_one, hz1]; rfl
      refine ⟨f, _, _, rfl, rfl, kf5, ?_, .int (rs.length + sumN (zs.take i) : Nat), rfl, .int z, rfl, (rs.length + sumN (zs.take i) : Nat), z, rfl, rfl, ⟨some (.int z), ?_⟩, same_of (sm.trans m5) nf, ?_, qs2 ++ [p5], ?_, ?_⟩
      · rw [List.length_map]
        exact small1000 (by omega)
      · rw [ek, sumN_snoc]
        have : (((rs.length + sumN (zs.take i) : Nat) : Int) + z) = ((rs.length + (sumN (zs.take i) + z.toNat) : Nat) : Int) := by omega
        show [_, _, _, _, some (V.int (((rs.length + sumN (zs.take i) : Nat) : Int) + z)), _, _, _] = _
        rw [this]
      · rw [upd_ne (fun e => by rw [e, kf] at kc; cases kc)]
        exact m5 _ _ kc
      · rw [upd_same, List.map_append]
        rfl
      · rw [ek, segs_snoc]
        refine segV_imp (fun b xs hb => ?_) (segV_snoc k5 (segV_imp (fun b xs hb => m5 _ _ hb) sv))
        rw [upd_ne (fun e => by rw [e, kf5] at hb; cases hb)]
        exact hb
    · subst es
      rw [List.length_map, List.take_length] at sv
      refine ⟨.ref ca, rfl, .ref f, rfl, f, _, rfl, .inl ⟨.inl (.inl kf), fun sh hsh => ⟨(by show 2 ≤ sizeLine; decide), fun t ht => ?_⟩⟩⟩
      have m6 : Same H' (upd (upd H' sh (.tup (qs2.map V.ref))) t (.tup [.ref ca, .ref sh])) := (same_upd hsh).trans (same_upd ht)
      refine q _ t ca sh (sm.trans m6) upd_same ⟨m6 _ _ kc, qs2, ?_, segV_imp (fun b xs hb => m6 _ _ hb) sv⟩
      have : (upd H' sh (.tup (qs2.map V.ref))) sh = some (.tup (qs2.map V.ref)) := upd_same
      rw [upd_ne (ne_of_none this ht)]
      exact this
theorem sumN_le {zs : List Int} (h : ∀ z ∈ zs, 0 ≤ z ∧ z ≤ 9) : sumN zs ≤ 9 * zs.length := by
  unfold sumN
  induction zs with
  | nil => exact Nat.le_refl _
  | cons z zs ih =>
    have h1 := h z (List.mem_cons_self ..)
    have h2 := ih fun x hx => h x (List.mem_cons_of_mem _ hx)
    rw [List.map_cons, List.sum_cons, List.length_cons]
    omega
end
end Sv
set_option maxHeartbeats 8000000
namespace Sv
open PySem PySem.Spec PyProof.Rows L2 LamX NdefX
section
variable {P : Program} {w : World} {K : PySem.W.Frag} {mg : Str → Option Value} {base : Heap}
mutual
/-- how deep, and no list too long -/
def okD : Nat → PyData → Bool
  | 0, .list _ => false
  | 0, .tuple _ => false
  | n + 1, .list ds => decide (ds.length ≤ 1000) && okDs n ds
  | n + 1, .tuple ds => decide (ds.length ≤ 1000) && okDs n ds
  | _, .dict _ => false
  | _, _ => true
def okDs : Nat → List PyData → Bool
  | _, [] => true
  | n, d :: ds => okD n d && okDs n ds
end
end
end Sv
set_option maxHeartbeats 8000000
namespace Sv
open PySem PySem.Spec PyProof.Rows L2 LamX NdefX
/-- the exception's dict, if there is one -/
def Dd (d : Option Addr) (H : Hp) : Prop := d = none ∨ ∃ (dd : Addr) (fs : List (Str × V)), d = some dd ∧ H dd = some (.xd fs)
theorem Dd.same {d : Option Addr} {H H' : Hp} (h : Dd d H) (e : Same H H') : Dd d H' := by
  rcases h with h | ⟨dd, fs, h1, h2⟩
  · exact .inl h
  · exact .inr ⟨dd, fs, h1, e _ _ h2⟩
def kl (b0 b1 b2 b3 b4 b5 b6 b7 b8 b9 b10 b11 b12 b13 b14 : Bool) : List V := [.bl b0, .bl b1, .bl b2, .bl b3, .bl b4, .bl b5, .bl b6, .bl b7, .bl b8, .bl b9, .bl b10, .bl b11, .bl b12, .bl b13, .bl b14]
def NewS (H : Hp) (t : List V) (Q : VK) : Prop := ∀ H' p, Same H H' → H p = none → H' p = some (.tup t) → Q (.ref p) H'
theorem NewS.imp {H H1 : Hp} {t : List V} {Q : VK} (h : NewS H t Q) (e : Same H H1) : NewS H1 t Q := fun H' p sm hp hq => h H' p (e.trans sm) (Same.free e hp) hq
end Sv
set_option maxHeartbeats 8000000
namespace Sv
open PySem PySem.Spec PyProof.Rows L2
@[irreducible] def qNext : Sp := spNext
theorem go_next {H : Hp} {h l : Addr} {lim : Int} {Q : VK} {E : XK} (LH : LawH H h l) (p1 : 0 < lim) (p2 : lim < 2 ^ 64) (q : ∀ (r : Nat) H', (r : Int) < lim → LawH H' h l → SameX h l H H' → Q (.int (r : Nat)) H') : qNext [.ref h, .int lim] H Q E := by
  unfold qNext
  exact ⟨h, l, lim, rfl, LH, p1, p2, fun r H' r0 r1 L k => by
    obtain ⟨n, rfl⟩ : ∃ n : Nat, r = (n : Int) := ⟨r.toNat, (Int.toNat_of_nonneg r0).symm⟩
    exact q n H' r1 L k⟩
/-- h and l stand, what was tracked but them is kept, and x is kept, too -/
structure St (h l : Addr) (H H' : Hp) : Prop where
  law : LawH H' h l
  k : SameX h l H H'
theorem St.next {h l : Addr} {H H1 H2 : Hp} (a : St h l H H1) (L : LawH H2 h l) (x : SameX h l H1 H2) : St h l H H2 := ⟨L, a.k.trans x⟩
theorem St.same {h l : Addr} {H H1 H2 : Hp} (a : St h l H H1) (e : Same H1 H2) : St h l H H2 := ⟨a.law.same e, fun b o h1 h2 q => e b o (a.k b o h1 h2 q)⟩
theorem LawH.nh {H : Hp} {h l f : Addr} (x : LawH H h l) (hf : H f = none) : f ≠ h ∧ f ≠ l := by
  obtain ⟨m, i, cs, e1, e2, _⟩ := x.ex
  exact ⟨(ne_of_none e1 hf).symm, (ne_of_none e2 hf).symm⟩
theorem LawH.upd {H : Hp} {h l f : Addr} {o : HO} (x : LawH H h l) (h1 : f ≠ h) (h2 : f ≠ l) : LawH (L2.upd H f o) h l := by
  obtain ⟨m, i, cs, e1, e2, e3⟩ := x.ex
  exact ⟨m, i, cs, by rw [upd_ne (Ne.symm h1)]; exact e1, by rw [upd_ne (Ne.symm h2)]; exact e2, e3⟩
theorem St.upd {h l f : Addr} {H H1 : Hp} {o : HO} (a : St h l H H1) (hf : H f = none) (h1 : f ≠ h) (h2 : f ≠ l) : St h l H (L2.upd H1 f o) := by
  refine ⟨a.law.upd h1 h2, fun b u b1 b2 q => ?_⟩
  rw [upd_ne (ne_of_none q hf)]
  exact a.k b u b1 b2 q
theorem St.none {h l f : Addr} {H H1 : Hp} (a : St h l H H1) (hf : H1 f = Option.none) : H f = Option.none := by
  cases q : H f with
  | none => rfl
  | some o =>
    obtain ⟨n1, n2⟩ := a.law.nh hf
    rw [a.k f o n1 n2 q] at hf
    cases hf
theorem St.trans {h l : Addr} {H H1 H2 : Hp} (a : St h l H H1) (b : St h l H1 H2) : St h l H H2 := ⟨b.law, a.k.trans b.k⟩
theorem St.refl {h l : Addr} {H : Hp} (x : LawH H h l) : St h l H H := ⟨x, fun _ _ _ _ q => q⟩
theorem sqT_x {K : PySem.W.Frag} {H H1 : Hp} {h l a : Addr} {xs : List V} (L : LawH H h l) (e : SameX h l H H1) (s : SqT K H a xs) : SqT K H1 a xs := by
  obtain ⟨m, i, cs, e1, e2, _⟩ := L.ex
  rcases s with (s | ⟨o, s⟩) | s
  · exact .inl (.inl (e _ _ (fun z => by rw [z, e1] at s; cases s) (fun z => by rw [z, e2] at s; cases s) s))
  · exact .inl (.inr ⟨o, e _ _ (fun z => by rw [z, e1] at s; cases s) (fun z => by rw [z, e2] at s; cases s) s⟩)
  · exact .inr s
theorem paired_x {K : PySem.W.Frag} {H H' : Hp} {h l : Addr} (L : LawH H h l) (e : SameX h l H H') : ∀ {qs : List Addr} {rs : List Ro}, Paired (fun q r => SqT K H q (rV r)) qs rs → Paired (fun q r => SqT K H' q (rV r)) qs rs
  | _, _, .nil => .nil
  | _, _, .cons h t => .cons (sqT_x L e h) (paired_x L e t)
theorem RtAt.x {K : PySem.W.Frag} {H H' : Hp} {h l b : Addr} {rs : List Ro} (x : RtAt K H b rs) (L : LawH H h l) (e : SameX h l H H') : RtAt K H' b rs := by
  obtain ⟨qs, h1, h2⟩ := x.ex
  exact ⟨qs, sqT_x L e h1, paired_x L e h2⟩
theorem PlanAt.x {K : PySem.W.Frag} {H H' : Hp} {h l p : Addr} {zs : List Int} {rs : List Ro} (x : PlanAt K H p zs rs) (L : LawH H h l) (e : SameX h l H H') : PlanAt K H' p zs rs := by
  obtain ⟨a, b, h1, h2, h3⟩ := x.ex
  exact ⟨a, b, sqT_x L e h1, sqT_x L e h2, h3.x L e⟩
theorem paired_imp {K : PySem.W.Frag} {H H' : Hp} (e : ∀ a xs, SqT K H a xs → SqT K H' a xs) : ∀ {qs : List Addr} {rs : List Ro}, Paired (fun q r => SqT K H q (rV r)) qs rs → Paired (fun q r => SqT K H' q (rV r)) qs rs
  | _, _, .nil => .nil
  | _, _, .cons h t => .cons (e _ _ h) (paired_imp e t)
theorem paired_snoc {K : PySem.W.Frag} {H : Hp} {q : Addr} {r : Ro} (h : SqT K H q (rV r)) : ∀ {qs : List Addr} {rs : List Ro}, Paired (fun q r => SqT K H q (rV r)) qs rs → Paired (fun q r => SqT K H q (rV r)) (qs ++ [q]) (rs ++ [r])
  | _, _, .nil => .cons h .nil
  | _, _, .cons g t => .cons g (paired_snoc h t)
theorem sqT_lst {K : PySem.W.Frag} {H : Hp} {f a : Addr} {xs ys : List V} {o : HO} (hf : H f = some (.lst ys)) (s : SqT K H a xs) : SqT K (upd H f o) a xs := by
  rcases s with (s | ⟨u, s⟩) | s
  · exact .inl (.inl (by rw [upd_ne (fun z => by rw [z, hf] at s; cases s)]; exact s))
  · exact .inl (.inr ⟨u, by rw [upd_ne (fun z => by rw [z, hf] at s; cases s)]; exact s⟩)
  · exact .inr s
section
variable {P : Program} {w : World} {K : PySem.W.Frag} {mg : Str → Option Value} {base : Heap}
def nPla : List Str := ["_law_h", "_law_shelves", "_law_carriers", "_law_sizes", "_law_shelf", "_law_routes", "_law_carrier", "_law_entries", "_law_k"]
theorem scPlan : FnScope nPla ["_law_h", "_law_shelves", "_law_carriers"] (defScope sPlan) := ⟨rfl, rfl, rfl, by decide +kernel, rfl, by decide +kernel, by decide +kernel⟩
end
end Sv
set_option maxHeartbeats 4000000
namespace Sv
open PySem PySem.Spec PyProof.Rows L2
theorem scCheckCount : FnScope ["count"] ["count"] (defScope sCheckCount) := ⟨rfl, rfl, rfl, by decide +kernel, rfl, by decide +kernel, by decide +kernel⟩
theorem scCheckTicks : FnScope ["count"] ["count"] (defScope sCheckTicks) := ⟨rfl, rfl, rfl, by decide +kernel, rfl, by decide +kernel, by decide +kernel⟩
theorem scCheckBetween : FnScope ["number", "low", "high"] ["number", "low", "high"] (defScope sCheckBetween) := ⟨rfl, rfl, rfl, by decide +kernel, rfl, by decide +kernel, by decide +kernel⟩
section
variable {P : Program} {w : World} {K : PySem.W.Frag} {mg : Str → Option Value} {base : Heap}
def vN (e : List Nat) : List V := e.map fun (n : Nat) => V.int (n : Int)
theorem vN_len (e : List Nat) : (vN e).length = e.length := by unfold vN; simp
theorem vN_get {e : List Nat} {i : Nat} (h : i < e.length) : (vN e)[i]? = some (.int (ap e i : Nat)) := by
  unfold vN
  rw [List.getElem?_map, ap_at h]
  rfl
end
end Sv
set_option maxHeartbeats 4000000
namespace Sv
open PySem PySem.Spec PyProof.Rows L2
section
variable {P : Program} {w : World} {K : PySem.W.Frag} {mg : Str → Option Value} {base : Heap}
abbrev CtOk (n : Int) : Prop := -1000000000000000000 ≤ n ∧ n ≤ 1000000000000000000
def spCheckCount (CC : Addr) : Sp := fun vs H Q E => ∃ n : Int, vs = [.int n] ∧ (CtOk n → Q .non H) ∧ (¬ CtOk n → E (.ref CC) none H)
def spCheckBetween (CC : Addr) : Sp := fun vs H Q E => ∃ n lo hi : Int, vs = [.int n, .int lo, .int hi] ∧ ((lo ≤ n ∧ n ≤ hi) → Q .non H) ∧ (¬ (lo ≤ n ∧ n ≤ hi) → E (.ref CC) none H)
theorem ok_checkBetween (T : Bd P K mg) : FnOk P w K mg base (L2.CX P w) 2 T.aCheckBetween T.dCheckBetween ["number", "low", "high"] (spCheckBetween T.CC) := by
  have GW : FnOk P w K mg base CX0 1 T.aWithin T.dWithin ["number", "low", "high"] spWithin := ok_within T.Within.F T.bt.isinstance T.bt.bool T.bt.int
  refine T.CheckBetween.F.okX scCheckBetween (fun vs H Q E h => ?_) (fun cdv A outer s H vs Q E hr h => ?_)
  · obtain ⟨n, lo, hi, rfl, _⟩ := h
    rfl
  · obtain ⟨n, lo, hi, rfl, q1, q2⟩ := h
    refine ⟨_, pss_one (ps_if (pt_not (pt_val (pe_call GW hr (by rfl) T.Within.g T.Within.F.kp T.Within.b .nil pass0 (pa_cons (pv 0) (pa_cons (pv 1) (pa_cons (pv 2) pa_nil))))))
      (pss_one (ps_raise rfl (takes_of rfl rfl rfl rfl) (pmk_own PySem.F.excBase_ValueError T.cc.x T.cc.g T.cc.k (raises_own T.cc.b T.cc.t) rfl))) pss_nil), ?_⟩
    refine ⟨.int n, rfl, .int lo, rfl, .int hi, rfl, n, lo, hi, rfl, _, rfl, ?_⟩
    by_cases h : lo ≤ n ∧ n ≤ hi
    · rw [decide_eq_true h]
      exact iteF (q1 h)
    · rw [decide_eq_false h]
      exact iteT (q2 h)
theorem ok_checkCount (T : Bd P K mg) : FnOk P w K mg base (L2.CX P w) 3 T.aCheckCount T.dCheckCount ["count"] (spCheckCount T.CC) := by
  have GB : FnOk P w K mg base (L2.CX P w) 2 T.aCheckBetween T.dCheckBetween ["number", "low", "high"] (spCheckBetween T.CC) := ok_checkBetween T
  obtain ⟨tl, hlim⟩ := T.lim
  refine T.CheckCount.F.okX scCheckCount (fun vs H Q E h => ?_) (fun cdv A outer s H vs Q E hr h => ?_)
  · obtain ⟨n, rfl, _⟩ := h
    rfl
  · obtain ⟨n, rfl, q1, q2⟩ := h
    exact ⟨_, pss_one (ps_expr (pe_call (E := E) GB hr (by rfl) T.CheckBetween.g T.CheckBetween.F.kp T.CheckBetween.b .nil (passes_call (takes_of rfl rfl rfl rfl) fun _ _ _ _ h => h) (pa_cons (pv 0) (pa_cons (pe_un un_neg (pe_glob (v := .int 1000000000000000000) (by rfl) hlim ⟨_, rfl⟩)) (pa_cons (pe_glob (v := .int 1000000000000000000) (by rfl) hlim ⟨_, rfl⟩) pa_nil))))),
      .int n, rfl, _, rfl, n, -1000000000000000000, 1000000000000000000, rfl, q1, q2⟩
/-- a number of ticks from now on -/
abbrev TkOk (n : Int) : Prop := 0 ≤ n ∧ n ≤ 1000000000000000000
def spCheckTicks (CC : Addr) : Sp := fun vs H Q E => ∃ n : Int, vs = [.int n] ∧ (TkOk n → Q .non H) ∧ (¬ TkOk n → E (.ref CC) none H)
theorem ok_checkTicks (T : Bd P K mg) : FnOk P w K mg base (L2.CX P w) 3 T.aCheckTicks T.dCheckTicks ["count"] (spCheckTicks T.CC) := by
  have GB : FnOk P w K mg base (L2.CX P w) 2 T.aCheckBetween T.dCheckBetween ["number", "low", "high"] (spCheckBetween T.CC) := ok_checkBetween T
  obtain ⟨tl, hlim⟩ := T.lim
  refine T.CheckTicks.F.okX scCheckTicks (fun vs H Q E h => ?_) (fun cdv A outer s H vs Q E hr h => ?_)
  · obtain ⟨n, rfl, _⟩ := h
    rfl
  · obtain ⟨n, rfl, q1, q2⟩ := h
    exact ⟨_, pss_one (ps_expr (pe_call (E := E) GB hr (by rfl) T.CheckBetween.g T.CheckBetween.F.kp T.CheckBetween.b .nil (passes_call (takes_of rfl rfl rfl rfl) fun _ _ _ _ h => h) (pa_cons (pv 0) (pa_cons pe_int (pa_cons (pe_glob (v := .int 1000000000000000000) (by rfl) hlim ⟨_, rfl⟩) pa_nil))))),
      .int n, rfl, n, 0, 1000000000000000000, rfl, q1, q2⟩
theorem vN_snoc {e : List Nat} {i : Nat} (h : i < e.length) : vN (e.take (i + 1)) = vN (e.take i) ++ [.int (ap e i : Nat)] := by
  unfold vN
  rw [List.take_add_one, ap_at h, List.map_append]
  rfl
theorem vN_lt {e : List Nat} {i : Nat} {x : V} (h : (vN e)[i]? = some x) : i < e.length ∧ x = .int (ap e i : Nat) := by
  have h1 := (List.getElem?_eq_some_iff.mp h).1
  rw [vN_len] at h1
  rw [vN_get h1] at h
  exact ⟨h1, (Option.some.inj h).symm⟩
/-- hands back a new tuple of the numbers g -/
def NewT (H : Hp) (g : List Nat) (Q : VK) : Prop := ∀ H' p, Same H H' → H p = none → H' p = some (.tup (vN g)) → Q (.ref p) H'
theorem scInverse : FnScope ["effect", "origins", "place", "target"] ["effect"] (defScope sInverse) := ⟨rfl, rfl, rfl, by decide +kernel, rfl, by decide +kernel, by decide +kernel⟩
def spInverse (K : PySem.W.Frag) : Sp := fun vs H Q _ => ∃ (a : Addr) (e : List Nat), vs = [.ref a] ∧ SqT K H a (vN e) ∧ Eff e ∧ e.length ≤ 1000 ∧ NewT H (inv e) Q
theorem rep_one_list (n : Nat) (v : V) : (List.replicate n [v]).flatten = List.replicate n v := by
  induction n with
  | zero => rfl
  | succ n ih => rw [List.replicate_succ, List.flatten_cons, ih]; rfl
theorem vN_set (e : List Nat) (i y : Nat) : (vN e).set i (.int (y : Int)) = vN (e.set i y) := by
  unfold vN
  rw [List.map_set]
theorem ok_inverse (T : Bd P K mg) : FnOk P w K mg base CX0 1 T.aInverse T.dInverse ["effect"] (spInverse K) := by
  refine T.Inverse.F.ok scInverse (fun vs H Q E h => ?_) (fun cdv A outer s H vs Q E hr h => ?_)
  · obtain ⟨a, e, rfl, _⟩ := h
    rfl
  · obtain ⟨a, e, rfl, hA, he, hl, q⟩ := h
    refine ⟨_, pss_cons (ps_set (i := 1) scInverse.nd rfl (Or.inl rfl) (pe_op op_rep (pe_lst (pa_cons pe_int pa_nil)) (pe_callB call_len_seq (by rfl) T.bt.len b_len (pa_cons (pv 0) pa_nil))))
      (pss_cons (ps_for PassesOwn.never rfl (pi_enumT (by rfl) T.bt.enumerate (pa_cons (pv 0) pa_nil)) (pg_tup rfl (pgs_cons (pg_name (i := 2) scInverse.nd rfl (.inl rfl)) (pgs_cons (pg_name (i := 3) scInverse.nd rfl (.inl rfl)) pgs_nil)))
        (pss_one (ps_asg (pv 2) (pg_sub (pv 1) (pv 3) set_list))))
      (pss_one (ps_ret (pe_callTy call_tuple_of (by rfl) T.bt.tuple b_tuple (pa_cons (pv 1) pa_nil))))), ?_⟩
    refine ⟨by decide, fun p hp => ?_⟩
    refine ⟨.ref a, rfl, a, vN e, rfl, .inr (sqT_same (same_upd hp) hA), ?_⟩
    rw [vN_len]
    have small : (e.length : Int) < 2 ^ 63 := by
      have : (1000 : Int) < 2 ^ 63 := by decide
      omega
    refine ⟨p, (e.length : Int), [.int 0], rfl, rfl, upd_same, by omega, small, ?_, fun l hl2 => ?_⟩
    · show 1 * (e.length : Int).toNat ≤ sizeLine
      rw [Nat.one_mul, Int.toNat_natCast]
      exact sz1000 hl
    · have sm2 : Same H (upd (upd H p (.lst [.int 0])) l (.lst (List.replicate (e.length : Int).toNat [V.int 0]).flatten)) := same_of (same_upd hp) (Same.free (same_upd hp) hl2)
      have nl : H l = none := Same.free (same_upd hp) hl2
      have e0 : (List.replicate (e.length : Int).toNat [V.int 0]).flatten = vN (invF e 0) := by
        rw [rep_one_list, Int.toNat_natCast]
        show _ = vN (List.replicate e.length 0)
        unfold vN
        rw [List.map_replicate]
        rfl
      rw [e0] at sm2 ⊢
      refine ⟨.ref a, rfl, a, vN e, rfl, sqT_same sm2 hA, for_enumT (xs := vN e) (fun i σ H' => (∃ y2 y3, σ = [some (.ref a), some (.ref l), y2, y3]) ∧ Same H H' ∧ H' l = some (.lst (vN (invF e i)))) ⟨⟨none, none, rfl⟩, sm2, upd_same⟩
        (fun i σ H' _ h => sqT_same h.2.1 hA) (fun i x σ H' U hx ⟨⟨y2, y3, es⟩, sm, hd⟩ hU => ?_) (fun σ H' ⟨⟨y2, y3, es⟩, sm, hd⟩ => ?_)⟩
      · subst es
        obtain ⟨hi, rfl⟩ := vN_lt hx
        have nlU : l ≠ U := ne_of_none hd hU
        refine ⟨U, [.int (i : Nat), .int (ap e i : Nat)], rfl, .inl (.inl upd_same), rfl, _, _, rfl, _, _, rfl, rfl, ?_⟩
        refine ⟨.int (i : Nat), rfl, .ref l, rfl, .int (ap e i : Nat), rfl, l, vN (invF e i), _, ap e i, rfl, rfl, by rw [upd_ne nlU]; exact hd, ?_, ⟨some (.int (i : Nat)), some (.int (ap e i : Nat)), rfl⟩, same_of (same_of sm (Same.free sm hU)) nl, ?_⟩
        · rw [vN_len, invF_len]
          exact ixN_nat (ap_lt he hi)
        · rw [upd_same, vN_set]
          rfl
      · subst es
        rw [vN_len] at hd
        exact ⟨.ref l, rfl, l, _, rfl, .inl ⟨.inl (.inl hd), fun l2 hl2 => q _ _ (same_of sm (Same.free sm hl2)) (Same.free sm hl2) upd_same⟩⟩
end
end Sv
set_option maxHeartbeats 4000000
namespace Sv
open PySem PySem.Spec PyProof.Rows L2
section
variable {P : Program} {w : World} {K : PySem.W.Frag} {mg : Str → Option Value} {base : Heap}
theorem scCycleFrom : FnScope ["effect", "start", "cycle", "place"] ["effect", "start"] (defScope sCycleFrom) := ⟨rfl, rfl, rfl, by decide +kernel, rfl, by decide +kernel, by decide +kernel⟩
def spCycleFrom (K : PySem.W.Frag) : Sp := fun vs H Q _ => ∃ (a : Addr) (e : List Nat) (s : Nat), vs = [.ref a, .int (s : Nat)] ∧ SqT K H a (vN e) ∧ Eff e ∧ s < e.length ∧ e.length ≤ 1000 ∧ NewT H (cyc e s) Q
theorem vN_app (a b : List Nat) : vN (a ++ b) = vN a ++ vN b := by unfold vN; rw [List.map_append]
/-- the first k places of a walk from s -/
def walkL (e : List Nat) (s k : Nat) : List Nat := (List.range k).map fun j => it e j s
theorem walkL_succ (e : List Nat) (s k : Nat) : walkL e s (k + 1) = walkL e s k ++ [it e k s] := by
  unfold walkL
  rw [List.range_succ, List.map_append]
  rfl
theorem walkL_len (e : List Nat) (s k : Nat) : (walkL e s k).length = k := by unfold walkL; simp
theorem ok_cycleFrom (T : Bd P K mg) : FnOk P w K mg base CX0 1 T.aCycleFrom T.dCycleFrom ["effect", "start"] (spCycleFrom K) := by
  refine T.CycleFrom.F.ok scCycleFrom (fun vs H Q E h => ?_) (fun cdv A outer s H vs Q E hr h => ?_)
  · obtain ⟨a, e, s, rfl, _⟩ := h
    rfl
  · obtain ⟨a, e, s0, rfl, hA, he, hs, hl, q⟩ := h
    refine ⟨_, pss_cons (ps_set (i := 2) scCycleFrom.nd rfl (Or.inl rfl) (pe_lst (pa_cons (pv 1) pa_nil)))
      (pss_cons (ps_set (i := 3) scCycleFrom.nd rfl (Or.inl rfl) (pe_ix ix_tup (pv 0) (pv 1) (fun _ _ => rfl)))
      (pss_cons (ps_while PassesOwn.never (pt_cmpR op_ne (pv 3) (pv 1) (nomark _))
        (pss_cons (ps_expr (pe_bm PySem.F.plainAttrs_list PySem.F.slot_list_append PySem.F.type_list_append mt_append (pv 2) (pa_cons (pv 3) pa_nil)))
        (pss_one (ps_set (i := 3) scCycleFrom.nd rfl (Or.inl rfl) (pe_ix ix_tup (pv 0) (pv 3) (fun _ _ => rfl))))))
      (pss_one (ps_ret (pe_callTy call_tuple_of (by rfl) T.bt.tuple b_tuple (pa_cons (pv 2) pa_nil)))))), ?_⟩
    obtain ⟨p1, p2, p3, p4⟩ := per_spec he hs
    refine ⟨.int s0, rfl, (by show 1 ≤ sizeLine; decide), fun c hc => ?_⟩
    have sm0 : Same H (upd H c (.lst [.int s0])) := same_upd hc
    refine ⟨.ref a, rfl, .int s0, rfl, a, vN e, _, _, rfl, rfl, sqT_same sm0 hA, atI_nat (vN_get hs), ?_⟩
    refine while_by (fun σ H' => ∃ k, 1 ≤ k ∧ k ≤ per e s0 ∧ σ = [some (.ref a), some (.int (s0 : Nat)), some (.ref c), some (.int (it e k s0 : Nat))] ∧ Same H H' ∧ H' c = some (.lst (vN (walkL e s0 k)))) (fun σ H' => match H' c with | some (.lst xs) => per e s0 + 1 - xs.length | _ => 0)
      ⟨1, Nat.le_refl _, p1, rfl, sm0, upd_same⟩ (fun σ H' hP => ?_) (fun σ H' Q1 Q2 mono h => ?_)
    · obtain ⟨k, h1, h2, rfl, sm, hd⟩ := hP
      have hm : (match H' c with | some (.lst xs) => per e s0 + 1 - xs.length | _ => 0) = per e s0 + 1 - k := by
        rw [hd]
        show per e s0 + 1 - (vN (walkL e s0 k)).length = _
        rw [vN_len, walkL_len]
      refine ⟨_, rfl, _, rfl, rfl, _, rfl, ?_⟩
      by_cases hk : it e k s0 = s0
      · rw [decide_eq_true (by rw [hk])]
        refine iteF ?_
        have ek : k = per e s0 := by
          by_cases h : k = per e s0
          · exact h
          · exact absurd hk (p3 k h1 (by omega))
        rw [ek] at hd
        exact ⟨.ref c, rfl, c, _, rfl, .inl ⟨.inl (.inl hd), fun l hl2 => q _ _ (same_of sm (Same.free sm hl2)) (Same.free sm hl2) upd_same⟩⟩
      · rw [decide_eq_false fun z => hk (by have := V.int.inj z; omega)]
        refine iteT ?_
        have hk2 : k < per e s0 := by
          by_cases h : k = per e s0
          · rw [h] at hk
            exact absurd p2 hk
          · omega
        refine ⟨.ref c, rfl, .inl ⟨rfl, _, .inl (.inl hd)⟩, .int (it e k s0 : Nat), rfl, c, _, _, rfl, rfl, hd, ?_, ?_⟩
        · rw [vN_len, walkL_len]
          exact small1000 (by omega)
        · have sm2 : Same H (upd H' c (.lst (vN (walkL e s0 k) ++ [.int (it e k s0 : Nat)]))) := same_of sm hc
          refine ⟨.ref a, rfl, .int (it e k s0 : Nat), rfl, a, vN e, _, _, rfl, rfl, sqT_same sm2 hA, atI_nat (vN_get (it_lt he hs)), ⟨k + 1, by omega, hk2, rfl, sm2, ?_⟩, ?_⟩
          · rw [upd_same, walkL_succ, vN_app]
            rfl
          · show (match (upd H' c (.lst (vN (walkL e s0 k) ++ [.int (it e k s0 : Nat)]))) c with | some (.lst xs) => per e s0 + 1 - xs.length | _ => 0) < (match H' c with | some (.lst xs) => per e s0 + 1 - xs.length | _ => 0)
            rw [hm, upd_same]
            show per e s0 + 1 - (vN (walkL e s0 k) ++ [V.int (it e k s0 : Nat)]).length < _
            rw [List.length_append, vN_len, walkL_len]
            simp
            omega
    · obtain ⟨x, hx, y, hy, hz, b, hb, hq⟩ := h
      exact ⟨x, hx, y, hy, hz, b, hb, mono _ _ hq⟩
theorem scCyclesOf : FnScope ["effect", "found", "done", "start", "cycle", "place"] ["effect"] (defScope sCyclesOf) := ⟨rfl, rfl, rfl, by decide +kernel, rfl, by decide +kernel, by decide +kernel⟩
/-- tuples of the numbers cs at ps -/
def TupL (H : Hp) (ps : List Addr) (cs : List (List Nat)) : Prop := Paired (fun p c => H p = some (.tup (vN c))) ps cs
theorem tupL_snoc {H : Hp} {p : Addr} {c : List Nat} (h : H p = some (.tup (vN c))) : ∀ {ps : List Addr} {cs : List (List Nat)}, TupL H ps cs → TupL H (ps ++ [p]) (cs ++ [c])
  | _, _, .nil => .cons h .nil
  | _, _, .cons r t => .cons r (tupL_snoc h t)
theorem tupL_len {H : Hp} : ∀ {ps : List Addr} {cs : List (List Nat)}, TupL H ps cs → ps.length = cs.length
  | _, _, .nil => rfl
  | _, _, .cons _ t => congrArg Nat.succ (tupL_len t)
theorem tupL_at {H : Hp} : ∀ {ps : List Addr} {cs : List (List Nat)}, TupL H ps cs → ∀ (i : Nat) (p : Addr), ps[i]? = some p → ∃ c, cs[i]? = some c ∧ H p = some (.tup (vN c))
  | _, _, .nil, i, p, h => by simp at h
  | _, _, .cons r t, 0, p, h => by
    obtain rfl := Option.some.inj h
    exact ⟨_, rfl, r⟩
  | _, _, .cons r t, i + 1, p, h => tupL_at t i p h
def NewLT (H : Hp) (cs : List (List Nat)) (Q : VK) : Prop := ∀ H' f ps, Same H H' → H f = none → H' f = some (.lst (ps.map V.ref)) → TupL H' ps cs → Q (.ref f) H'
def spCyclesOf (K : PySem.W.Frag) : Sp := fun vs H Q _ => ∃ (a : Addr) (e : List Nat), vs = [.ref a] ∧ SqT K H a (vN e) ∧ Eff e ∧ e.length ≤ 1000 ∧ NewLT H (wheels e) Q
/-- which places are told by S -/
def flL (n : Nat) (S : Nat → Bool) : List V := (List.range n).map fun p => V.bl (S p)
theorem flL_len (n : Nat) (S : Nat → Bool) : (flL n S).length = n := by unfold flL; simp
theorem flL_get {n : Nat} {S : Nat → Bool} {p : Nat} (h : p < n) : (flL n S)[p]? = some (.bl (S p)) := by
  unfold flL
  rw [List.getElem?_map, List.getElem?_range h]
  rfl
theorem flL_set (n : Nat) (S : Nat → Bool) (x : Nat) : (flL n S).set x (.bl true) = flL n fun p => S p || decide (p = x) := by
  refine List.ext_getElem? fun i => ?_
  by_cases hi : i < n
  · rw [flL_get hi]
    by_cases hx : i = x
    · subst hx
      rw [List.getElem?_set_self (by rw [flL_len]; exact hi)]
      simp
    · rw [List.getElem?_set_ne (Ne.symm hx), flL_get hi]
      simp [hx]
  · rw [List.getElem?_eq_none (by rw [List.length_set, flL_len]; omega), List.getElem?_eq_none (by rw [flL_len]; omega)]
theorem flL_congr {n : Nat} {S S' : Nat → Bool} (h : ∀ p, p < n → S p = S' p) : flL n S = flL n S' := by
  unfold flL
  exact List.map_congr_left fun p hp => by rw [h p (List.mem_range.mp hp)]
theorem ok_cyclesOf (T : Bd P K mg) : FnOk P w K mg base CX0 2 T.aCyclesOf T.dCyclesOf ["effect"] (spCyclesOf K) := by
  have GF : FnOk P w K mg base CX0 1 T.aCycleFrom T.dCycleFrom ["effect", "start"] (spCycleFrom K) := ok_cycleFrom T
  refine T.CyclesOf.F.ok scCyclesOf (fun vs H Q E h => ?_) (fun cdv A outer s H vs Q E hr h => ?_)
  · obtain ⟨a, e, rfl, _⟩ := h
    rfl
  · obtain ⟨a, e, rfl, hA, he, hl, q⟩ := h
    refine ⟨_, pss_cons (ps_set (i := 1) scCyclesOf.nd rfl (Or.inl rfl) (pe_lst pa_nil))
      (pss_cons (ps_set (i := 2) scCyclesOf.nd rfl (Or.inl rfl) (pe_op op_rep (pe_lst (pa_cons pe_bl pa_nil)) (pe_callB call_len_seq (by rfl) T.bt.len b_len (pa_cons (pv 0) pa_nil))))
      (pss_cons (ps_for PassesOwn.never rfl (pi_range1 (by rfl) T.bt.range (pa_cons (pe_callB call_len_seq (by rfl) T.bt.len b_len (pa_cons (pv 0) pa_nil)) pa_nil)) (pg_name (i := 3) scCyclesOf.nd rfl (Or.inl rfl))
        (pss_one (ps_if (pt_not (pt_val (pe_ix ix_list (pv 2) (pv 3) (fun _ _ => rfl))))
          (pss_cons (ps_set (i := 4) scCyclesOf.nd rfl (Or.inl rfl) (pe_call GF hr (by rfl) T.CycleFrom.g T.CycleFrom.F.kp T.CycleFrom.b .nil pass0 (pa_cons (pv 0) (pa_cons (pv 3) pa_nil))))
          (pss_cons (ps_for PassesOwn.never rfl (pi_tup (pv 4)) (pg_name (i := 5) scCyclesOf.nd rfl (Or.inl rfl))
            (pss_one (ps_asg pe_bl (pg_sub (pv 2) (pv 5) set_list))))
          (pss_one (ps_expr (pe_bm PySem.F.plainAttrs_list PySem.F.slot_list_append PySem.F.type_list_append mt_append (pv 1) (pa_cons (pv 4) pa_nil))))))
          pss_nil)))
      (pss_one (ps_ret (pv 1))))), ?_⟩
    refine ⟨Nat.zero_le _, fun f hf => ?_⟩
    have sm1 : Same H (upd H f (.lst [])) := same_upd hf
    refine ⟨(by show 1 ≤ sizeLine; decide), fun p hp => ?_⟩
    have sm2 : Same H (upd (upd H f (.lst [])) p (.lst [.bl false])) := same_of sm1 (Same.free sm1 hp)
    have small : (e.length : Int) < 2 ^ 62 := by
      have : (1000 : Int) < 2 ^ 62 := by decide
      omega
    have small3 : (e.length : Int) < 2 ^ 63 := by
      have : (1000 : Int) < 2 ^ 63 := by decide
      omega
    refine ⟨.ref a, rfl, a, vN e, rfl, .inr (sqT_same sm2 hA), p, ((vN e).length : Nat), [.bl false], rfl, rfl, upd_same, by omega, by rw [vN_len]; exact small3, ?_, fun d hd => ?_⟩
    · show 1 * ((vN e).length : Int).toNat ≤ sizeLine
      rw [Nat.one_mul, Int.toNat_natCast, vN_len]
      exact sz1000 hl
    have e0 : (List.replicate ((vN e).length : Int).toNat [V.bl false]).flatten = flL e.length fun p => decide (p ∈ (whN e 0).flatten) := by
      rw [rep_one_list, Int.toNat_natCast, vN_len]
      unfold flL whN
      simp only [List.flatten_nil, List.not_mem_nil, decide_false]
      rw [show (fun (p : Nat) => V.bl false) = Function.const Nat (V.bl false) from rfl, List.map_const, List.length_range]
    rw [e0]
    have fp : f ≠ p := ne_of_none upd_same hp
    have fd : f ≠ d := ne_of_none (show (upd (upd H f (.lst [])) p (.lst [.bl false])) f = some (.lst []) by rw [upd_ne fp, upd_same]) hd
    have nd' : H d = none := Same.free sm2 hd
    have sm3 : Same H (upd (upd (upd H f (.lst [])) p (.lst [.bl false])) d (.lst (flL e.length fun p => decide (p ∈ (whN e 0).flatten)))) := same_of sm2 nd'
    refine ⟨.ref a, rfl, a, vN e, rfl, .inr (sqT_same sm3 hA), ((vN e).length : Nat), rfl, by omega, by rw [vN_len]; exact small, ?_⟩
    rw [Int.toNat_natCast, vN_len]
    refine for_range (lo := 0) (n := e.length) (fun i σ H' => (∃ y3 y4 y5, σ = [some (.ref a), some (.ref f), some (.ref d), y3, y4, y5]) ∧ Same H H' ∧ H' d = some (.lst (flL e.length fun p => decide (p ∈ (whN e i).flatten))) ∧
      ∃ ps, H' f = some (.lst (ps.map V.ref)) ∧ TupL H' ps (whN e i)) ⟨⟨none, none, none, rfl⟩, sm3, upd_same, [], by rw [upd_ne fd, upd_ne fp, upd_same]; rfl, .nil⟩ (fun i σ H' hi ⟨⟨y3, y4, y5, es⟩, sm, hdd, ps, hff, hps⟩ => ?_) (fun σ H' ⟨⟨y3, y4, y5, es⟩, sm, hdd, ps, hff, hps⟩ => ?_)
    · subst es
      have ei : (0 + (i : Int)) = (i : Nat) := by omega
      rw [ei]
      refine ⟨.ref d, rfl, .int (i : Nat), rfl, d, _, _, _, rfl, rfl, .inl (.inl hdd), atI_nat (flL_get hi), _, rfl, ?_⟩
      by_cases hm : i ∈ (whN e i).flatten
      · rw [decide_eq_true hm]
        have ew : whN e (i + 1) = whN e i := by
          conv => lhs; unfold whN
          exact if_pos hm
        refine iteF ⟨⟨_, _, _, rfl⟩, sm, ?_, ps, hff, ?_⟩
        · rw [ew]; exact hdd
        · rw [ew]; exact hps
      · rw [decide_eq_false hm]
        have ew : whN e (i + 1) = whN e i ++ [cyc e i] := by
          conv => lhs; unfold whN
          exact if_neg hm
        refine iteT ⟨.ref a, rfl, .int (i : Nat), rfl, a, e, i, rfl, sqT_same sm hA, he, hi, hl, fun H1 t sm1 nt ht => ?_⟩
        have hdd1 := sm1 _ _ hdd
        have hff1 := sm1 _ _ hff
        have dt : d ≠ t := ne_of_none hdd nt
        have df : f ≠ d := fd
        have ft : f ≠ t := ne_of_none hff nt
        refine ⟨.ref t, rfl, t, rfl, ⟨_, .inl (.inl ht)⟩, for_tup (xs := vN (cyc e i)) (fun j σ H2 => (∃ y5, σ = [some (.ref a), some (.ref f), some (.ref d), some (.int (i : Nat)), some (.ref t), y5]) ∧ (∀ b o, b ≠ d → H1 b = some o → H2 b = some o) ∧ (∀ b, H b = none → H2 b = none ∨ True) ∧
          H2 d = some (.lst (flL e.length fun p => decide (p ∈ (whN e i).flatten) || decide (p ∈ (cyc e i).take j)))) ⟨⟨_, rfl⟩, fun b o _ h => h, fun _ _ => .inr trivial, ?_⟩ (fun j σ H2 _ h => .inl (.inl (h.2.1 t _ (Ne.symm dt) ht))) (fun j x σ H2 hx ⟨⟨y5, es⟩, k2, _, hd2⟩ => ?_) (fun σ H2 ⟨⟨y5, es⟩, k2, _, hd2⟩ => ?_)⟩
        · rw [hdd1]
          refine congrArg some (congrArg HO.lst (flL_congr fun p _ => ?_))
          simp
        · subst es
          obtain ⟨hj, rfl⟩ := vN_lt hx
          have hcl : ap (cyc e i) j < e.length := by
            obtain ⟨kk, hkk⟩ := (cyc_mem he hi).mp (List.mem_of_getElem? (ap_at hj))
            rw [hkk]
            exact it_lt he hi
          refine ⟨.ref d, rfl, .int (ap (cyc e i) j : Nat), rfl, d, _, _, ap (cyc e i) j, rfl, rfl, hd2, ?_, ⟨_, rfl⟩, fun b o hb ho => ?_, fun _ _ => .inr trivial, ?_⟩
          · rw [flL_len]
            exact ixN_nat hcl
          · rw [upd_ne hb]
            exact k2 b o hb ho
          · rw [upd_same, flL_set]
            refine congrArg some (congrArg HO.lst (flL_congr fun p _ => ?_))
            rw [List.take_add_one, ap_at hj]
            simp [List.mem_append, Bool.or_assoc]
        · subst es
          rw [vN_len] at hd2
          have hff2 := k2 f _ df hff1
          refine ⟨.ref f, rfl, .inl ⟨rfl, _, .inl (.inl hff2)⟩, .ref t, rfl, f, _, _, rfl, rfl, hff2, ?_, ⟨_, _, _, rfl⟩, fun b o hb => ?_, ?_, ps ++ [t], ?_, ?_⟩
          · rw [List.length_map, tupL_len hps]
            have := ((whN_ok he i (by omega)).1).len he
            exact small1000 (by omega)
          · have hbf : b ≠ f := fun z => by rw [z, hf] at hb; cases hb
            have hbd : b ≠ d := fun z => by rw [z, nd'] at hb; cases hb
            rw [upd_ne hbf]
            exact k2 b o hbd (sm1 _ _ (sm _ _ hb))
          · rw [upd_ne (Ne.symm df), hd2, ew]
            refine congrArg some (congrArg HO.lst (flL_congr fun p _ => ?_))
            rw [List.take_length, List.flatten_append, List.flatten_singleton]
            simp [List.mem_append]
          · rw [upd_same, List.map_append]
            rfl
          · rw [ew]
            have key : ∀ b c, H' b = some (.tup (vN c)) ∨ b = t ∧ c = cyc e i → (upd H2 f (.lst (ps.map V.ref ++ [V.ref t]))) b = some (.tup (vN c)) := fun b c hb => by
              rcases hb with hb | ⟨rfl, rfl⟩
              · have hbf : b ≠ f := ne_of hb hff (fun z => by cases z)
                have hbd : b ≠ d := ne_of hb hdd (fun z => by cases z)
                rw [upd_ne hbf]
                exact k2 b _ hbd (sm1 _ _ hb)
              · rw [upd_ne (Ne.symm ft)]
                exact k2 b _ (Ne.symm dt) ht
            refine tupL_snoc (key t _ (.inr ⟨rfl, rfl⟩)) ?_
            have gen : ∀ {ps : List Addr} {cs : List (List Nat)}, TupL H' ps cs → Paired (fun p c => (upd H2 f (.lst (List.map V.ref _ ++ [V.ref t]))) p = some (.tup (vN c))) ps cs := fun h => Paired.mapP h fun p c hp => key p c (.inl hp)
            exact gen hps
    · subst es
      exact ⟨.ref f, rfl, q H' f ps sm hf hff hps⟩
end
end Sv
set_option maxHeartbeats 4000000
namespace Sv
open PySem PySem.Spec PyProof.Rows L2
section
variable {P : Program} {w : World} {K : PySem.W.Frag} {mg : Str → Option Value} {base : Heap}
theorem scRepeated : FnScope ["effect", "count", "targets", "cycle", "shift", "place", "target"] ["effect", "count"] (defScope sRepeated) := ⟨rfl, rfl, rfl, by decide +kernel, rfl, by decide +kernel, by decide +kernel⟩
theorem vN_drop (c : List Nat) (k : Nat) : (vN c).drop k = vN (c.drop k) := by unfold vN; rw [List.map_drop]
theorem vN_tk (c : List Nat) (k : Nat) : (vN c).take k = vN (c.take k) := by unfold vN; rw [List.map_take]
theorem rot_read {K : PySem.W.Frag} {H : Hp} {a : Addr} {c : List Nat} {k : Nat} {z : Int} {Q : VK} (hz : z = (k : Int)) (hA : SqT K H a (vN c)) (hk : k < c.length) (hl : c.length ≤ 1000)
    {G : V → Hp → Prop} (hG : ∀ x H1, (rSlA K (.ref a) none (some z) H1 fun y H2 => rCatA K x y H2 Q) → G x H1) (q : ∀ H' b, Same H H' → SqT K H' b (vN (c.drop k ++ c.take k)) → Q (.ref b) H') : rSlA K (.ref a) (some z) none H G := by
  subst hz
  have s1 : HT.sIx (vN c).length 0 (some (k : Int)) = k := by rw [HT.sIx_nat, vN_len]; omega
  have s2 : HT.sIx (vN c).length (vN c).length (some (k : Int)) = k := by rw [HT.sIx_nat, vN_len]; omega
  have s3 : HT.sIx (vN c).length (vN c).length none = c.length := by rw [HT.sIx_none, vN_len]
  have c1 : cutV (vN c) (some (k : Int)) none = vN (c.drop k) := by
    unfold cutV
    rw [s1, s3, vN_drop, vN_tk]
    congr 1
    exact List.take_of_length_le (by rw [List.length_drop]; omega)
  have c2 : cutV (vN c) none (some (k : Int)) = vN (c.take k) := by
    unfold cutV
    rw [s2, HT.sIx_none, List.drop_zero, Nat.sub_zero, vN_tk]
  have second : ∀ H1 x, Same H H1 → (∀ (H2 : Hp) (p2 : Addr), Same H1 H2 → H2 p2 = some (.tup (vN (c.take k))) → rCatA K x (.ref p2) H2 Q) → rSlA K (.ref a) none (some (k : Int)) H1 fun y H2 => rCatA K x y H2 Q := fun H1 x sm h => by
    refine ⟨a, vN c, rfl, sqT_same sm hA, fun hw => ?_, fun _ p hp => ?_⟩
    · rw [s2, vN_len] at hw
      omega
    · rw [c2]
      exact h _ p (same_upd hp) upd_same
  by_cases h0 : k = 0
  · refine ⟨a, vN c, rfl, hA, fun _ => ?_, fun hn => ?_⟩
    · refine hG _ _ (second H _ (Same.refl H) fun H2 p2 sm hp2 => ?_)
      refine ⟨a, p2, vN c, vN (c.take k), rfl, rfl, sqT_same sm hA, .inl (.inl hp2), ?_, fun e => ?_, fun _ _ => ?_, fun _ e => ?_⟩
      · rw [vN_len, vN_len, List.length_take]
        exact sz1000 (by omega)
      · have := congrArg List.length e
        rw [vN_len] at this
        simp at this
        rw [this] at hk
        simp at hk
      · refine q H2 a sm ?_
        rw [h0, List.drop_zero, List.take_zero, List.append_nil]
        exact sqT_same sm hA
      · rw [h0, List.take_zero] at e
        exact absurd rfl e
    · rw [s1, s3, vN_len] at hn
      exact absurd ⟨h0, rfl⟩ hn
  · refine ⟨a, vN c, rfl, hA, fun hw => ?_, fun _ p hp => ?_⟩
    · rw [s1] at hw
      omega
    · rw [c1]
      refine hG _ _ (second _ _ (same_upd hp) fun H2 p2 sm hp2 => ?_)
      refine ⟨p, p2, vN (c.drop k), vN (c.take k), rfl, rfl, .inl (.inl (sm _ _ upd_same)), .inl (.inl hp2), ?_, fun e => ?_, fun _ e => ?_, fun _ _ p3 hp3 => ?_⟩
      · rw [vN_len, vN_len, List.length_take, List.length_drop]
        exact sz1000 (by omega)
      · have := congrArg List.length e
        rw [vN_len, List.length_drop] at this
        simp at this
        omega
      · have := congrArg List.length e
        rw [vN_len, List.length_take] at this
        have h9 : min k c.length = 0 := this
        omega
      · refine q _ p3 ((same_upd hp).trans (sm.trans (same_upd hp3))) (.inl (.inl ?_))
        rw [upd_same, vN_app]
theorem rot_tm {K : PySem.W.Frag} {σ : L2.St} {i j : Nat} {H : Hp} {a : Addr} {c : List Nat} {k : Nat} {z : Int} {Q : VK} (hi : σ[i]? = some (some (.ref a))) (hj : σ[j]? = some (some (.int z))) (hz : z = (k : Int)) (hA : SqT K H a (vN c)) (hk : k < c.length) (hl : c.length ≤ 1000)
    (q : ∀ H' b, Same H H' → SqT K H' b (vN (c.drop k ++ c.take k)) → Q (.ref b) H') : tOp (rCatA K) (tSl (rSlA K) (tVar i) (tPart (tVar j)) tNoPart) (tSl (rSlA K) (tVar i) tNoPart (tPart (tVar j))) σ H Q := by
  refine ⟨.ref a, hi, .int z, hj, z, rfl, ?_⟩
  show rSlA K (.ref a) (some z) none H (fun x H1 => tSl (rSlA K) (tVar i) tNoPart (tPart (tVar j)) σ H1 fun y H2 => rCatA K x y H2 Q)
  exact rot_read hz hA hk hl (fun x H2 h => ⟨.ref a, hi, .int z, hj, z, rfl, h⟩) q
/-- the targets when the places of S have been told -/
noncomputable def tgL (e : List Nat) (c : Int) (S : Nat → Bool) : List Nat := (List.range e.length).map fun p => if S p = true then rp e c p else ap e p
theorem tgL_len (e : List Nat) (c : Int) (S : Nat → Bool) : (tgL e c S).length = e.length := by unfold tgL; simp
theorem tgL_congr {e : List Nat} {c : Int} {S S' : Nat → Bool} (h : ∀ p, p < e.length → S p = S' p) : tgL e c S = tgL e c S' := by
  unfold tgL
  exact List.map_congr_left fun p hp => by rw [h p (List.mem_range.mp hp)]
theorem tgL_at {e : List Nat} {c : Int} {S : Nat → Bool} {p : Nat} (hp : p < e.length) : (tgL e c S)[p]? = some (if S p = true then rp e c p else ap e p) := by
  unfold tgL
  rw [List.getElem?_map, List.getElem?_range hp]
  rfl
theorem tgL_set (e : List Nat) (c : Int) (S : Nat → Bool) (x : Nat) : (tgL e c S).set x (rp e c x) = tgL e c fun p => S p || decide (p = x) := by
  refine List.ext_getElem? fun i => ?_
  by_cases hi : i < e.length
  · rw [tgL_at hi]
    by_cases hx : i = x
    · subst hx
      rw [List.getElem?_set_self (by rw [tgL_len]; exact hi)]
      simp
    · rw [List.getElem?_set_ne (Ne.symm hx), tgL_at hi]
      simp [hx]
  · rw [List.getElem?_eq_none (by rw [List.length_set, tgL_len]; omega), List.getElem?_eq_none (by rw [tgL_len]; omega)]
theorem tgL_none (e : List Nat) (c : Int) : tgL e c (fun _ => false) = e := by
  refine List.ext_getElem? fun i => ?_
  by_cases hi : i < e.length
  · rw [tgL_at hi, ap_at hi]
    rfl
  · rw [List.getElem?_eq_none (by rw [tgL_len]; omega), List.getElem?_eq_none (by omega)]
theorem tgL_all {e : List Nat} {c : Int} {S : Nat → Bool} (h : ∀ p, p < e.length → S p = true) : tgL e c S = rep e c := by
  unfold tgL rep
  exact List.map_congr_left fun p hp => by rw [if_pos (h p (List.mem_range.mp hp))]
/-- what stands beside the j-th place of a cycle -/
theorem rot_at {e : List Nat} (E : Eff e) {s : Nat} (hs : s < e.length) (c : Int) {j : Nat} (hj : j < per e s) :
    ((cyc e s).drop (c % (per e s : Int)).toNat ++ (cyc e s).take (c % (per e s : Int)).toNat)[j]? = some (rp e c (it e j s)) := by
  have hpos := per_pos E hs
  have h0 := Int.emod_nonneg c (show (per e s : Int) ≠ 0 by omega)
  have h1 := Int.emod_lt_of_pos c (show (0 : Int) < (per e s : Int) by omega)
  generalize hk : (c % (per e s : Int)).toNat = k
  have hkl : k < per e s := by omega
  have er : rp e c (it e j s) = it e (k + j) s := by
    unfold rp
    rw [per_it E hs, ← it_add, hk]
  rw [er]
  by_cases h : j < per e s - k
  · rw [List.getElem?_append_left (by rw [List.length_drop, cyc_len]; exact h), List.getElem?_drop, cyc_at (by omega)]
  · rw [List.getElem?_append_right (by rw [List.length_drop, cyc_len]; omega), List.length_drop, cyc_len, List.getElem?_take_of_lt (by omega), cyc_at (by omega)]
    refine congrArg some ?_
    rw [it_mod E hs (k + j)]
    congr 1
    rw [show k + j = (j - (per e s - k)) + per e s by omega, Nat.add_mod_right, Nat.mod_eq_of_lt (by omega)]
def spRepeated (K : PySem.W.Frag) : Sp := fun vs H Q _ => ∃ (a : Addr) (e : List Nat) (c : Int), vs = [.ref a, .int c] ∧ SqT K H a (vN e) ∧ Eff e ∧ e.length ≤ 1000 ∧ NewT H (rep e c) Q
theorem ok_repeated (T : Bd P K mg) : FnOk P w K mg base CX0 3 T.aRepeated T.dRepeated ["effect", "count"] (spRepeated K) := by
  have GY : FnOk P w K mg base CX0 2 T.aCyclesOf T.dCyclesOf ["effect"] (spCyclesOf K) := ok_cyclesOf T
  refine T.Repeated.F.ok scRepeated (fun vs H Q E h => ?_) (fun cdv A outer s H vs Q E hr h => ?_)
  · obtain ⟨a, e, c, rfl, _⟩ := h
    rfl
  · obtain ⟨a, e, c, rfl, hA, he, hl, q⟩ := h
    refine ⟨_, pss_cons (ps_set (i := 2) scRepeated.nd rfl (Or.inl rfl) (pe_callTy call_list_of (by rfl) T.bt.list b_list (pa_cons (pv 0) pa_nil)))
      (pss_cons (ps_for PassesOwn.never rfl (pi_list (pe_call GY hr (by rfl) T.CyclesOf.g T.CyclesOf.F.kp T.CyclesOf.b .nil pass0 (pa_cons (pv 0) pa_nil))) (pg_name (i := 3) scRepeated.nd rfl (Or.inl rfl))
        (pss_cons (ps_set (i := 4) scRepeated.nd rfl (Or.inl rfl) (pe_op op_mod (pe_callTy call_int1 (by rfl) T.bt.int b_int (pa_cons (pv 1) pa_nil)) (pe_callB call_len_seq (by rfl) T.bt.len b_len (pa_cons (pv 3) pa_nil))))
        (pss_one (ps_for PassesOwn.never rfl (RZ.pi_zipA (by rfl) T.bt.zip (pa_cons (pv 3) (pa_cons (pe_op op_catA (pe_slice sl_tupA (pv 3) (po_some (pv 4)) po_none) (pe_slice sl_tupA (pv 3) po_none (po_some (pv 4)))) pa_nil)))
          (pg_tup rfl (pgs_cons (pg_name (i := 5) scRepeated.nd rfl (.inl rfl)) (pgs_cons (pg_name (i := 6) scRepeated.nd rfl (.inl rfl)) pgs_nil)))
          (pss_one (ps_asg (pv 6) (pg_sub (pv 2) (pv 5) set_list)))))))
      (pss_one (ps_ret (pe_callTy call_tuple_of (by rfl) T.bt.tuple b_tuple (pa_cons (pv 2) pa_nil))))), ?_⟩
    refine ⟨.ref a, rfl, a, vN e, rfl, .inr hA, fun t ht => ?_⟩
    have sm0 : Same H (upd H t (.lst (vN e))) := same_upd ht
    refine ⟨.ref a, rfl, a, e, rfl, sqT_same sm0 hA, he, hl, fun H1 f ps sm1 nf hf hps => ?_⟩
    have ht1 : H1 t = some (.lst (vN e)) := sm1 _ _ upd_same
    have ft : f ≠ t := fun z => by rw [z, upd_same] at nf; cases nf
    have W := (wheels_ok he).1
    refine ⟨f, rfl, ⟨_, .inl (.inl hf)⟩, for_list (xs := ps.map V.ref) (fun i σ H' => (∃ y3 y4 y5 y6, σ = [some (.ref a), some (.int c), some (.ref t), y3, y4, y5, y6]) ∧ (∀ b o, b ≠ t → H1 b = some o → H' b = some o) ∧
      H' t = some (.lst (vN (tgL e c fun p => decide (p ∈ ((wheels e).take i).flatten))))) ⟨⟨none, none, none, none, rfl⟩, fun _ _ _ h => h, ?_⟩ (fun i σ H' _ h => .inl (.inl (h.2.1 f _ ft hf))) (fun i x σ H' hx ⟨⟨y3, y4, y5, y6, es⟩, k1, htt⟩ => ?_) (fun σ H' ⟨⟨y3, y4, y5, y6, es⟩, k1, htt⟩ => ?_)⟩
    · rw [ht1, show (fun p => decide (p ∈ ((wheels e).take 0).flatten)) = fun _ => false from funext fun p => by simp, tgL_none]
    · subst es
      rw [List.getElem?_map] at hx
      cases hpi : ps[i]? with
      | none => rw [hpi] at hx; cases hx
      | some p =>
        rw [hpi] at hx
        obtain rfl : V.ref p = x := Option.some.inj hx
        obtain ⟨cc, hcc, hp1⟩ := tupL_at hps i p hpi
        obtain ⟨s0, hs0, rfl⟩ := W.cy cc (List.mem_of_getElem? hcc)
        have hpos := per_pos he hs0
        have hple := (per_spec he hs0).2.2.2
        have pt : p ≠ t := fun z => by
          rw [z, ht1] at hp1
          cases hp1
        have hp' : H' p = some (.tup (vN (cyc e s0))) := k1 p _ pt hp1
        have hlen : ((vN (cyc e s0)).length : Int) = (per e s0 : Int) := by rw [vN_len, cyc_len]
        have h0 := Int.emod_nonneg c (show (per e s0 : Int) ≠ 0 by omega)
        have h1 := Int.emod_lt_of_pos c (show (0 : Int) < (per e s0 : Int) by omega)
        have ek : c % ((vN (cyc e s0)).length : Int) = ((c % (per e s0 : Int)).toNat : Int) := by rw [hlen, Int.toNat_of_nonneg h0]
        refine ⟨.int c, rfl, .inl ⟨c, rfl, .ref p, rfl, p, _, rfl, .inr (.inl (.inl hp')), c, _, rfl, rfl, by rw [hlen]; omega, ?_⟩⟩
        refine ⟨.ref p, rfl, ?_⟩
        refine rot_tm (K := K) (i := 3) (j := 4) (a := p) (k := (c % (per e s0 : Int)).toNat) (c := cyc e s0) rfl rfl ek (.inl (.inl hp')) (by rw [cyc_len]; omega) (by rw [cyc_len]; omega) (fun H2 b sm2 hb => ?_)
        have hp2 : H2 p = some (.tup (vN (cyc e s0))) := sm2 _ _ hp'
        have ht2 := sm2 _ _ htt
        have hl2 : (vN (cyc e s0)).length = (vN ((cyc e s0).drop (c % (per e s0 : Int)).toNat ++ (cyc e s0).take (c % (per e s0 : Int)).toNat)).length := by
          rw [vN_len, vN_len, List.length_append, List.length_drop, List.length_take, cyc_len]
          omega
        refine ⟨p, b, _, _, rfl, .inr ⟨.inl (.inl hp2), hb, ?_⟩⟩
        refine RZ.for_zipT hl2 (fun j σ H3 => (∃ y5 y6, σ = [some (.ref a), some (.int c), some (.ref t), some (.ref p), some (.int (c % ((vN (cyc e s0)).length : Int))), y5, y6]) ∧ (∀ b o, b ≠ t → H2 b = some o → H3 b = some o) ∧
          H3 t = some (.lst (vN (tgL e c fun p => decide (p ∈ ((wheels e).take i).flatten) || decide (p ∈ (cyc e s0).take j))))) ⟨⟨_, _, rfl⟩, fun _ _ _ h => h, ?_⟩ (fun j σ H3 ⟨_, k3, _⟩ => ⟨.inl (.inl (k3 p _ pt hp2)), ?_⟩)
          (fun j x y U σ H3 hx hy ⟨⟨y5, y6, es⟩, k3, ht3⟩ hU => ?_) (fun σ H3 ⟨⟨y5, y6, es⟩, k3, ht3⟩ => ?_)
        · rw [ht2]
          refine congrArg some (congrArg HO.lst (congrArg vN (tgL_congr fun p _ => ?_)))
          simp
        · have key : ∀ o, H2 b = some o → (∃ ys, o = .tup ys ∨ ∃ ob, o = .frz ob (.tup ys)) → H3 b = some o := fun o ho hh => by
            refine k3 b o (fun z => ?_) ho
            rw [z, ht2] at ho
            obtain ⟨ys, e1 | ⟨ob, e1⟩⟩ := hh
            · rw [e1] at ho
              cases ho
            · rw [e1] at ho
              cases ho
          rcases hb with (hb | ⟨ob, hb⟩) | hb
          · exact .inl (.inl (key _ hb ⟨_, .inl rfl⟩))
          · exact .inl (.inr ⟨ob, key _ hb ⟨_, .inr ⟨ob, rfl⟩⟩⟩)
          · exact .inr hb
        · subst es
          obtain ⟨hj, rfl⟩ := vN_lt hx
          obtain ⟨hj2, rfl⟩ := vN_lt hy
          have hj3 : j < per e s0 := by rwa [cyc_len] at hj
          have e1 : ap (cyc e s0) j = it e j s0 := by
            have q1 := ap_at hj
            rw [cyc_at hj3] at q1
            exact (Option.some.inj q1).symm
          have e2 : ap ((cyc e s0).drop (c % (per e s0 : Int)).toNat ++ (cyc e s0).take (c % (per e s0 : Int)).toNat) j = rp e c (it e j s0) := by
            have q1 := ap_at hj2
            rw [rot_at he hs0 c hj3] at q1
            exact (Option.some.inj q1).symm
          rw [e1, e2]
          have tU : t ≠ U := ne_of_none ht3 hU
          refine ⟨U, [.int (it e j s0 : Nat), .int (rp e c (it e j s0) : Nat)], rfl, .inl (.inl upd_same), rfl, _, _, rfl, _, _, rfl, rfl, ?_⟩
          refine ⟨.int (rp e c (it e j s0) : Nat), rfl, .ref t, rfl, .int (it e j s0 : Nat), rfl, t, _, _, it e j s0, rfl, rfl, by rw [upd_ne tU]; exact ht3, ?_, ⟨_, _, rfl⟩, fun b o hb ho => ?_, ?_⟩
          · rw [vN_len, tgL_len]
            exact ixN_nat (it_lt he hs0)
          · rw [upd_ne hb, upd_ne (ne_of_none (k3 b o hb ho) hU)]
            exact k3 b o hb ho
          · rw [upd_same, vN_set, tgL_set]
            refine congrArg some (congrArg HO.lst (congrArg vN (tgL_congr fun p _ => ?_)))
            rw [List.take_add_one, cyc_at hj3]
            simp [List.mem_append, Bool.or_assoc]
        · subst es
          refine ⟨⟨_, _, _, _, rfl⟩, fun b o hb ho => k3 b o hb (sm2 _ _ (k1 b o hb ho)), ?_⟩
          rw [ht3]
          refine congrArg some (congrArg HO.lst (congrArg vN (tgL_congr fun p _ => ?_)))
          rw [vN_len, List.take_length, List.take_add_one, hcc, List.flatten_append]
          simp [List.mem_append]
    · subst es
      rw [List.length_map, tupL_len hps, List.take_length] at htt
      rw [tgL_all fun p hp => decide_eq_true ((wheels_ok he).2 p hp)] at htt
      have smx : Same H H' := fun b o hb => by
        have bt : b ≠ t := fun z => by rw [z, ht] at hb; cases hb
        exact k1 b o bt (sm1 _ _ (sm0 _ _ hb))
      exact ⟨.ref t, rfl, t, _, rfl, .inl ⟨.inl (.inl htt), fun l2 hl2 => q _ _ (same_of smx (Same.free smx hl2)) (Same.free smx hl2) upd_same⟩⟩
end
end Sv
set_option maxHeartbeats 4000000
set_option maxHeartbeats 4000000
namespace Sv
open PySem PySem.Spec PyProof.Rows L2
section
open AutoSeq1
theorem extend_tupG (l : Addr) (items : Array Value) (n : Nat) (b : Addr) (items2 : Array Value) (n2 : Nat) (dct : Option Addr) (sl : Array (Option Value)) (hs0 : ¬(!items.isEmpty && Builtin.List.listTooLong (items.size + items2.size)) = true) (hs1 : items.size ≤ sizeLine) (hs2 : items.size + items2.size ≤ sizeLine + 1) :
    Meets (Builtin.«list.extend» ⟨[.ref l, .ref b], []⟩) (fun _ R s => s.heap.get? l = some { cls := .type "list", dict := none, data := .seq items n, slots := #[] } ∧ s.heap.get? b = some { cls := .type "tuple", dict := dct, data := .seq items2 n2, slots := sl } ∧
      R (.ok (.ret Value.none)) { s with heap := s.heap.update l (Obj.mapSeq fun x => x ++ items2), toks := s.toks }) :=
  .of_wp fun prog w A R s h => by
    obtain ⟨hp, g, d, tk, os⟩ := s; obtain ⟨hl, hb, h⟩ := h; have f1 := AutoSeq1.idx_int; have f2 := AutoSeq1.sub_tuple_tuple; have f3 := AutoSeq1.sub_list_list; have f4 := AutoSeq1.sub_tuple_list; have f5 := AutoSeq1.sub_list_tuple;
    have hz' : (items ++ items2).size ≤ sizeLine + 1 := by rw [Array.size_append]; exact hs2
    wp_walk using (wpAny_updateSeq hl rfl (hz := hs1) (_hz' := hz')), wpAny_loadPart' hl, wpAny_loadPart' hb; exact ⟨_, rfl, h⟩
end
section
variable {X : Cx}
def rExtT (K : PySem.W.Frag) : V → List V → Hp → VK → Prop := fun x vs H Q => ∃ l b xs zs, x = .ref l ∧ vs = [.ref b] ∧ H l = some (.lst xs) ∧ SqT K H b zs ∧ xs.length + zs.length ≤ sizeLine ∧ Q .non (upd H l (.lst (xs ++ zs)))
theorem mt_extT : MtM X "list.extend" (rExtT X.K) := by
  intro pins s σ H x vs v us Q I rx rv h
  obtain ⟨l, b, xs, zs, rfl, rfl, hH, hB, hz, q⟩ := h
  cases rx
  obtain ⟨u, rfl, ru⟩ := rv.one
  cases ru
  obtain ⟨z, its, n, r, hl, e⟩ := I.lstM hH
  obtain ⟨its2, r2, ⟨⟨c, dct, dt, sl⟩, e2, hc, n2, hd⟩, z2⟩ := I.tuple hB
  obtain rfl : c = .type "tuple" := hc
  obtain rfl : dt = .seq its2.toArray n2 := hd
  have hl2 := r2.length
  have hsz : its.toArray.size + its2.toArray.size ≤ sizeLine := by rw [List.size_toArray, List.size_toArray]; omega
  have hlong : ¬ (!its.toArray.isEmpty && Builtin.List.listTooLong (its.toArray.size + its2.toArray.size)) = true := by
    rw [notLongL hsz, Bool.and_false]
    exact Bool.false_ne_true
  refine call_meets F.slot_list_extend ⟨_, e, rfl⟩ F.entry_list_extend (F.args_list_extend_2 _ _)
    (extend_tupG l its.toArray n b its2.toArray n2 dct sl hlong (by rw [List.size_toArray]; omega) (by omega)) ⟨e, e2, ?_⟩
  refine ⟨.non, _, I.lset (its' := its ++ its2) hH e (by simp) (r.append r2) ?_, rfl, q⟩
  rw [List.length_append]
  omega
end
end Sv
set_option maxHeartbeats 4000000
namespace Sv
open PySem PySem.Spec PyProof.Rows L2
/-- a layout: who is carried, who lies where; the tuples may be constants -/
structure LayT (K : PySem.W.Frag) (H : Hp) (ca sh : Addr) (cs : List Int) (ss : List (List Int)) : Prop where
  c : SqT K H ca (cs.map V.int)
  s : ∃ qs : List Addr, SqT K H sh (qs.map V.ref) ∧ Paired (fun q s => SqT K H q (s.map V.int)) qs ss
theorem segT_imp {K : PySem.W.Frag} {H H' : Hp} (e : ∀ a xs, SqT K H a xs → SqT K H' a xs) : ∀ {qs : List Addr} {ss : List (List Int)}, Paired (fun q s => SqT K H q (s.map V.int)) qs ss → Paired (fun q s => SqT K H' q (s.map V.int)) qs ss
  | _, _, .nil => .nil
  | _, _, .cons h t => .cons (e _ _ h) (segT_imp e t)
theorem segT_len {K : PySem.W.Frag} {H : Hp} : ∀ {qs : List Addr} {ss : List (List Int)}, Paired (fun q s => SqT K H q (s.map V.int)) qs ss → qs.length = ss.length
  | _, _, .nil => rfl
  | _, _, .cons _ t => congrArg Nat.succ (segT_len t)
theorem segT_at {K : PySem.W.Frag} {H : Hp} : ∀ {qs : List Addr} {ss : List (List Int)} {i : Nat} {q : Addr}, Paired (fun q s => SqT K H q (s.map V.int)) qs ss → qs[i]? = some q → ∃ s, ss[i]? = some s ∧ SqT K H q (s.map V.int)
  | _, _, i, _, .nil, e => by simp at e
  | _, _, 0, q, .cons h t, e => by
    obtain rfl := Option.some.inj e
    exact ⟨_, rfl, h⟩
  | _, _, i + 1, q, .cons h t, e => segT_at (i := i) t (by simpa using e)
theorem segT_of {K : PySem.W.Frag} {H : Hp} : ∀ {qs : List Addr} {ss : List (List Int)}, SegV H qs ss → Paired (fun q s => SqT K H q (s.map V.int)) qs ss
  | _, _, .nil => .nil
  | _, _, .cons h t => .cons (.inl (.inl h)) (segT_of t)
theorem LayT.imp {K : PySem.W.Frag} {H H' : Hp} {ca sh : Addr} {cs : List Int} {ss : List (List Int)} (x : LayT K H ca sh cs ss) (e : ∀ a xs, SqT K H a xs → SqT K H' a xs) : LayT K H' ca sh cs ss := by
  obtain ⟨qs, h1, h2⟩ := x.s
  exact ⟨e _ _ x.c, qs, e _ _ h1, segT_imp e h2⟩
theorem LayT.same {K : PySem.W.Frag} {H H' : Hp} {ca sh : Addr} {cs : List Int} {ss : List (List Int)} (x : LayT K H ca sh cs ss) (e : Same H H') : LayT K H' ca sh cs ss := x.imp fun _ _ => sqT_same e
theorem LayAt.t {K : PySem.W.Frag} {H : Hp} {ca sh : Addr} {cs : List Int} {ss : List (List Int)} (x : LayAt H ca sh cs ss) : LayT K H ca sh cs ss := by
  obtain ⟨qs, h1, h2⟩ := x.s
  exact ⟨.inl (.inl x.c), qs, .inl (.inl h1), segT_of h2⟩
/-- lists of numbers at rw, each a list of its own -/
def RowL (H : Hp) (rw : List Addr) (ss : List (List Int)) : Prop := Paired (fun q s => H q = some (.lst (s.map V.int))) rw ss
theorem rowL_imp {H H' : Hp} : ∀ {rw : List Addr} {ss : List (List Int)}, (∀ q ∈ rw, ∀ o, H q = some o → H' q = some o) → RowL H rw ss → RowL H' rw ss
  | _, _, _, .nil => .nil
  | _, _, e, .cons h t => .cons (e _ (List.mem_cons_self ..) _ h) (rowL_imp (fun q hq => e q (List.mem_cons_of_mem _ hq)) t)
theorem rowL_len {H : Hp} : ∀ {rw : List Addr} {ss : List (List Int)}, RowL H rw ss → rw.length = ss.length
  | _, _, .nil => rfl
  | _, _, .cons _ t => congrArg Nat.succ (rowL_len t)
theorem rowL_at {H : Hp} : ∀ {rw : List Addr} {ss : List (List Int)} {i : Nat} {q : Addr}, RowL H rw ss → rw[i]? = some q → ∃ s, ss[i]? = some s ∧ H q = some (.lst (s.map V.int))
  | _, _, i, _, .nil, e => by simp at e
  | _, _, 0, q, .cons h t, e => by
    obtain rfl := Option.some.inj e
    exact ⟨_, rfl, h⟩
  | _, _, i + 1, q, .cons h t, e => rowL_at (i := i) t (by simpa using e)
theorem rowL_mem {H : Hp} {rw : List Addr} {ss : List (List Int)} (h : RowL H rw ss) {q : Addr} (hq : q ∈ rw) : ∃ xs, H q = some (.lst xs) := by
  obtain ⟨i, hi⟩ := List.mem_iff_getElem?.mp hq
  obtain ⟨s, _, e⟩ := rowL_at h hi
  exact ⟨_, e⟩
theorem rowL_free {H : Hp} {rw : List Addr} {ss : List (List Int)} (h : RowL H rw ss) {q : Addr} (hq : H q = none) : q ∉ rw := fun m => by
  obtain ⟨xs, e⟩ := rowL_mem h m
  rw [hq] at e
  cases e
theorem rowL_snoc {H : Hp} {q : Addr} {s : List Int} (h : H q = some (.lst (s.map V.int))) : ∀ {rw : List Addr} {ss : List (List Int)}, RowL H rw ss → RowL H (rw ++ [q]) (ss ++ [s])
  | _, _, .nil => .cons h .nil
  | _, _, .cons r t => .cons r (rowL_snoc h t)
theorem rowL_set {H : Hp} {s' : List Int} : ∀ {rw : List Addr} {ss : List (List Int)} {i : Nat} {q : Addr}, rw.Nodup → RowL H rw ss → rw[i]? = some q → RowL (upd H q (.lst (s'.map V.int))) rw (ss.set i s')
  | _, _, i, _, _, .nil, e => by simp at e
  | r :: rw, s :: ss, 0, q, nd, .cons h t, e => by
    obtain rfl := Option.some.inj e
    refine .cons upd_same (rowL_imp (fun b hb o ho => ?_) t)
    rw [upd_ne (fun z : b = r => (List.nodup_cons.mp nd).1 (by rw [← z]; exact hb))]
    exact ho
  | r :: rw, s :: ss, i + 1, q, nd, .cons h t, e => by
    have e' : rw[i]? = some q := by simpa using e
    refine .cons ?_ (rowL_set (List.nodup_cons.mp nd).2 t e')
    rw [upd_ne (fun z : r = q => (List.nodup_cons.mp nd).1 (by rw [z]; exact List.mem_of_getElem? e'))]
    exact h
def exch (L : Lay Int) (p : Nat × Nat) : List V := [.int (p.1 : Nat), .int (p.2 : Nat), .int (L.1.getD p.1 0), .int ((L.2.getD p.2 []).headD (L.1.getD p.1 0))]
def exN (ps : List (Nat × Nat)) (L : Lay Int) : Nat → List (List V)
  | 0 => []
  | k + 1 => exN ps L k ++ (match ps[k]? with | some p => [exch (steps (ps.take k) L) p] | none => [])
def exL (ps : List (Nat × Nat)) (L : Lay Int) : List (List V) := exN ps L ps.length
theorem exN_len (ps : List (Nat × Nat)) (L : Lay Int) : ∀ k, (exN ps L k).length ≤ k
  | 0 => Nat.le_refl _
  | k + 1 => by
    unfold exN
    rw [List.length_append]
    have := exN_len ps L k
    split <;> simp <;> omega
theorem exN_succ {ps : List (Nat × Nat)} {L : Lay Int} {k : Nat} {p : Nat × Nat} (h : ps[k]? = some p) : exN ps L (k + 1) = exN ps L k ++ [exch (steps (ps.take k) L) p] := by
  conv => lhs; unfold exN
  rw [h]
theorem steps_take {α : Type} {ps : List (Nat × Nat)} {L : Lay α} {k : Nat} {p : Nat × Nat} (h : ps[k]? = some p) : steps (ps.take (k + 1)) L = step1 (steps (ps.take k) L) p := by
  rw [List.take_add_one, h]
  exact steps_snoc _ _ _
/-- the visits of valid plans are there -/
theorem prs_ok {n : Int} {rs : List Ro} (hr : ∀ r ∈ rs, r ≠ [] ∧ ∀ e ∈ r, okE n e = true) (m : Int) : ∀ k, ∀ p ∈ prs rs m k, p.1 < rs.length ∧ 0 ≤ p.2 ∧ p.2 < n
  | 0, p, h => by cases h
  | k + 1, p, h => by
    unfold prs at h
    rcases List.mem_append.mp h with h | h
    · exact prs_ok hr m k p h
    · cases hk : rs[k]? with
      | none => rw [hk] at h; cases h
      | some r =>
        rw [hk] at h
        simp only at h
        cases he : ent r m with
        | none => rw [he] at h; cases h
        | some z =>
          rw [he] at h
          rw [List.mem_singleton.mp h]
          have hmem := List.mem_of_getElem? hk
          obtain ⟨hne, hok⟩ := hr r hmem
          have h1 := (ent_get hne m).1
          rw [he] at h1
          have h2 := hok _ (List.mem_of_getElem? h1)
          unfold okE at h2
          have h3 := of_decide_eq_true h2
          exact ⟨(List.getElem?_eq_some_iff.mp hk).1, h3.1, by have := h3.2; omega⟩
theorem vis_ok {n : Nat} {rs : List Ro} (hr : ∀ r ∈ rs, r ≠ [] ∧ ∀ e ∈ r, okE n e = true) (m : Int) : ∀ p ∈ vis rs m, p.1 < rs.length ∧ p.2 < n := fun p hp => by
  unfold vis at hp
  obtain ⟨q, hq, rfl⟩ := List.mem_map.mp hp
  have := prs_ok hr m _ q hq
  exact ⟨this.1, by show q.2.toNat < n; omega⟩
theorem prs_meet (rs : List Ro) (m : Int) : ∀ k, meetN rs m k = (prs rs m k).map fun p => pairV p.1 p.2
  | 0 => rfl
  | k + 1 => by
    unfold meetN prs
    rw [prs_meet rs m k, List.map_append]
    congr 1
    cases rs[k]? with
    | none => rfl
    | some r =>
      simp only
      cases ent r m with
      | none => rfl
      | some z => rfl
theorem meets_vis {n : Nat} {rs : List Ro} (hr : ∀ r ∈ rs, r ≠ [] ∧ ∀ e ∈ r, okE n e = true) (m : Int) : meets rs m = (vis rs m).map fun p => pairV p.1 (p.2 : Nat) := by
  unfold meets vis
  rw [prs_meet, List.map_map]
  refine List.map_congr_left fun p hp => ?_
  have := prs_ok hr m _ p hp
  show pairV p.1 p.2 = pairV p.1 ((p.2.toNat : Nat) : Int)
  rw [Int.toNat_of_nonneg this.2.1]
end Sv
set_option maxHeartbeats 4000000
namespace Sv
open PySem PySem.Spec PyProof.Rows L2
/-- a plan that is valid, its entries too -/
structure Val (zs : List Int) (rs : List Ro) : Prop extends Good zs rs where
  e : ∀ r ∈ rs, ∀ e ∈ r, okE zs.length e = true
theorem val_of {zs : List Int} {rs : List Ro} (h : bad zs rs = none) : Val zs rs := by
  refine ⟨good_of h, ?_⟩
  unfold bad at h
  cases hb : badS zs with
  | some i => rw [hb] at h; cases h
  | none =>
    rw [hb] at h
    simp only [Option.map_eq_none_iff] at h
    unfold badR at h
    split at h
    · rw [Option.map_eq_none_iff] at h
      intro r hr e he
      have := fst_all h r hr
      unfold okR at this
      rw [Bool.and_eq_true, List.all_eq_true] at this
      exact this.2 e he
    · cases h
theorem Val.bad {zs : List Int} {rs : List Ro} (v : Val zs rs) : bad zs rs = none := by
  have h1 : badS zs = none := by
    unfold badS
    rw [if_pos v.z1, fst_none (p := okZ) (fun j y hy => decide_eq_true (v.z2 y (List.mem_of_getElem? hy)))]
    rfl
  have h2 : badR zs.length rs = none := by
    unfold badR
    rw [if_pos v.r1, fst_none (fun j y hy => ?_)]
    · rfl
    · unfold okR
      rw [decide_eq_true (v.r2 y (List.mem_of_getElem? hy)), Bool.true_and, List.all_eq_true]
      exact v.e y (List.mem_of_getElem? hy)
  unfold Sv.bad
  rw [h1]
  simp [h2]
theorem Val.small {zs : List Int} {rs : List Ro} (v : Val zs rs) : Small zs rs := ⟨by have := v.z1; omega, by have := v.r1; omega, fun r hr => by have := v.r2 r hr; omega⟩
theorem Val.ro {zs : List Int} {rs : List Ro} (v : Val zs rs) : ∀ r ∈ rs, r ≠ [] ∧ ∀ e ∈ r, okE zs.length e = true := fun r hr => ⟨(v.ne r hr).1, v.e r hr⟩
theorem Val.num {zs : List Int} {rs : List Ro} (v : Val zs rs) : rs.length + sumN zs ≤ 200 := by
  have := sumN_le v.z2
  have := v.z1
  have := v.r1
  omega
section
variable {P : Program} {w : World} {K : PySem.W.Frag} {mg : Str → Option Value} {base : Heap}
def nJo : List Str := ["carried", "shelves", "contents", "shelf"]
theorem scJoin : FnScope nJo ["carried", "shelves"] (defScope sJoin) := ⟨rfl, rfl, rfl, by decide +kernel, rfl, by decide +kernel, by decide +kernel⟩
/-- a new list of numbers -/
def NewL (H : Hp) (l : List Int) (Q : VK) : Prop := ∀ H' f, Same H H' → H f = none → H' f = some (.lst (l.map V.int)) → Q (.ref f) H'
def spJoin (K : PySem.W.Frag) : Sp := fun vs H Q _ => ∃ (ca sh : Addr) (cs : List Int) (ss : List (List Int)), vs = [.ref ca, .ref sh] ∧ LayT K H ca sh cs ss ∧ cs.length + ss.flatten.length ≤ 1000 ∧ NewL H (cs ++ ss.flatten) Q
theorem flat_take {α : Type} {ss : List (List α)} {i : Nat} {s : List α} (h : ss[i]? = some s) : (ss.take (i + 1)).flatten = (ss.take i).flatten ++ s := by
  rw [List.take_add_one, h, List.flatten_append]
  simp
theorem flat_take_len {α : Type} (ss : List (List α)) (i : Nat) : (ss.take i).flatten.length ≤ ss.flatten.length := by
  have h := congrArg (fun l => (List.flatten l).length) (List.take_append_drop i ss)
  simp only [List.flatten_append, List.length_append] at h
  omega
theorem ok_join (T : Bd P K mg) : FnOk P w K mg base CX0 1 T.aJoin T.dJoin ["carried", "shelves"] (spJoin K) := by
  refine T.Join.F.ok scJoin (fun vs H Q E h => ?_) (fun cdv A outer s H vs Q E hr h => ?_)
  · obtain ⟨ca, sh, cs, ss, rfl, _⟩ := h
    rfl
  · obtain ⟨ca, sh, cs, ss, rfl, hL, hl, q⟩ := h
    obtain ⟨qs, hs1, hs2⟩ := hL.s
    have hql := segT_len hs2
    refine ⟨_, pss_cons (ps_set (i := 2) scJoin.nd rfl (Or.inl rfl) (pe_callTy call_list_of (by rfl) T.bt.list b_list (pa_cons (pv 0) pa_nil)))
      (pss_cons (ps_for PassesOwn.never rfl (pi_tup (pv 1)) (pg_name (i := 3) scJoin.nd rfl (Or.inl rfl))
        (pss_one (ps_expr (pe_bm PySem.F.plainAttrs_list PySem.F.slot_list_extend PySem.F.type_list_extend mt_extT (pv 2) (pa_cons (pv 3) pa_nil)))))
      (pss_one (ps_ret (pv 2)))), ?_⟩
    refine ⟨.ref ca, rfl, ca, _, rfl, .inr hL.c, fun f hf => ?_⟩
    have sm0 : Same H (upd H f (.lst (cs.map V.int))) := same_upd hf
    refine ⟨.ref sh, rfl, sh, rfl, ⟨_, sqT_same sm0 hs1⟩, for_tup (xs := qs.map V.ref) (fun i σ H' => (∃ y, σ = [some (.ref ca), some (.ref sh), some (.ref f), y]) ∧ Same H H' ∧ H' f = some (.lst ((cs ++ (ss.take i).flatten).map V.int))) ⟨⟨none, rfl⟩, sm0, by rw [upd_same]; simp⟩
      (fun i σ H' _ h => sqT_same h.2.1 hs1) (fun i x σ H' hx ⟨⟨y, es⟩, sm, hd⟩ => ?_) (fun σ H' ⟨⟨y, es⟩, sm, hd⟩ => ?_)⟩
    · subst es
      obtain ⟨q1, hq1, rfl⟩ := refs_lt hx
      obtain ⟨s1, hs3, hq2⟩ := segT_at hs2 hq1
      refine ⟨.ref f, rfl, .inl ⟨rfl, _, .inl (.inl hd)⟩, .ref q1, rfl, f, q1, _, _, rfl, rfl, hd, sqT_same sm hq2, ?_, ⟨_, rfl⟩, same_of sm hf, ?_⟩
      · rw [List.length_map, List.length_map, List.length_append]
        have h1 := flat_take_len ss (i + 1)
        rw [flat_take hs3, List.length_append] at h1
        exact sz1000 (by omega)
      · rw [upd_same, flat_take hs3, ← List.append_assoc, List.map_append (l₁ := cs ++ (ss.take i).flatten)]
    · subst es
      rw [List.length_map, hql, List.take_length] at hd
      exact ⟨.ref f, rfl, q H' f sm hf hd⟩
end
end Sv
set_option maxHeartbeats 4000000
namespace Sv
open PySem PySem.Spec PyProof.Rows L2
section
variable {P : Program} {w : World} {K : PySem.W.Frag} {mg : Str → Option Value} {base : Heap}
def rLo (K : PySem.W.Frag) : List V → Hp → VK → Prop := fun xs H Q => ∃ p ys, xs = [.ref p] ∧ (SqL K H p ys ∨ SqT K H p ys) ∧ ∀ l, H l = none → Q (.ref l) (upd H l (.lst ys))
def rTo (K : PySem.W.Frag) : List V → Hp → VK → Prop := fun xs H Q => ∃ p ys, xs = [.ref p] ∧ ((SqL K H p ys ∧ ∀ l, H l = none → Q (.ref l) (upd H l (.tup ys))) ∨ (SqT K H p ys ∧ Q (.ref p) H))
def nAt : List Str := ["plan", "number", "carried", "shelves", "hands", "rows", "exchanges", "carrier", "shelf", "left", "taken", "row"]
theorem scAfterTick : FnScope nAt ["plan", "number", "carried", "shelves"] (defScope sAfterTick) := ⟨rfl, rfl, rfl, by decide +kernel, rfl, by decide +kernel, by decide +kernel⟩
def spAfterTick (K : PySem.W.Frag) : Sp := fun vs H Q _ => ∃ (p ca sh : Addr) (n : Int) (zs : List Int) (rs : List Ro) (L : Lay Int), vs = [.ref p, .int n, .ref ca, .ref sh] ∧ PlanAt K H p zs rs ∧ Val zs rs ∧ LayT K H ca sh L.1 L.2 ∧ Fits rs.length zs L ∧
  ∀ H' t c' s' x, Same H H' → H' t = some (.tup [.ref c', .ref s', .ref x]) → LayT K H' c' s' (tickL rs (n - 1) L).1 (tickL rs (n - 1) L).2 → TL H' x (exL (vis rs (n - 1)) L) → H x = none → Q (.ref t) H'
theorem fit_at {n : Nat} {zs : List Int} {L : Lay Int} (h : Fits n zs L) : L.1.length = n ∧ L.2.length = zs.length := ⟨h.1, by have := congrArg List.length h.2; simpa using this⟩
theorem fit_row {n : Nat} {zs : List Int} {L : Lay Int} (h : Fits n zs L) (hz : ∀ z ∈ zs, 0 ≤ z ∧ z ≤ 9) {i : Nat} {s : List Int} (e : L.2[i]? = some s) : s.length ≤ 9 := by
  have h1 : (L.2.map List.length)[i]? = some s.length := by rw [List.getElem?_map, e]; rfl
  rw [h.2, List.getElem?_map] at h1
  cases hz1 : zs[i]? with
  | none => rw [hz1] at h1; cases h1
  | some z =>
    rw [hz1] at h1
    have := hz z (List.mem_of_getElem? hz1)
    have := Option.some.inj h1
    omega
theorem mtch_eq {α : Type} {L : Lay α} {p : Nat × Nat} {x : α} {row : List α} (h1 : L.1[p.1]? = some x) (h2 : L.2[p.2]? = some row) : step1 L p = (L.1.set p.1 (row.headD x), L.2.set p.2 (row ++ [x]).tail) := by
  unfold step1
  rw [h1, h2]
theorem exch_eq {L : Lay Int} {p : Nat × Nat} {x : Int} {row : List Int} (h1 : L.1[p.1]? = some x) (h2 : L.2[p.2]? = some row) : exch L p = [.int (p.1 : Nat), .int (p.2 : Nat), .int x, .int (row.headD x)] := by
  unfold exch
  rw [List.getD_eq_getElem?_getD, h1, List.getD_eq_getElem?_getD, h2]
  rfl
theorem vis_len (rs : List Ro) (m : Int) : (vis rs m).length ≤ rs.length := by
  unfold vis
  rw [List.length_map]
  have := meetN_len rs m rs.length
  rw [prs_meet, List.length_map] at this
  exact this
theorem tupsV_at {H : Hp} : ∀ {ps : List Addr} {ts : List (List V)} {i : Nat} {p : Addr}, TupsV H ps ts → ps[i]? = some p → ∃ t, ts[i]? = some t ∧ H p = some (.tup t)
  | _, _, i, _, .nil, e => by simp at e
  | _, _, 0, q, .cons h t, e => by
    obtain rfl := Option.some.inj e
    exact ⟨_, rfl, h⟩
  | _, _, i + 1, q, .cons h t, e => tupsV_at (i := i) t (by simpa using e)
theorem ok_afterTick (T : Bd P K mg) : FnOk P w K mg base CX0 2 T.aAfterTick T.dAfterTick ["plan", "number", "carried", "shelves"] (spAfterTick K) := by
  have GV : FnOk P w K mg base CX0 1 T.aVisitsIn T.dVisitsIn ["routes", "number"] (spVisitsIn K) := ok_visitsIn T.VisitsIn T.bt
  refine T.AfterTick.F.ok scAfterTick (fun vs H Q E h => ?_) (fun cdv A outer s H vs Q E hr h => ?_)
  · obtain ⟨p, ca, sh, n, zs, rs, L, rfl, _⟩ := h
    rfl
  · obtain ⟨p, ca, sh, n, zs, rs, L, rfl, hp, hv, hL, hf, q⟩ := h
    obtain ⟨a, b, hp1, ha, hb⟩ := hp.ex
    obtain ⟨qs, hs1, hs2⟩ := hL.s
    have hql := segT_len hs2
    obtain ⟨fl1, fl2⟩ := fit_at hf
    have hz12 := hv.z1
    have hr6 := hv.r1
    refine ⟨_, pss_cons (ps_set (i := 4) scAfterTick.nd rfl (Or.inl rfl) (pe_callTy call_list_of (by rfl) T.bt.list b_list (pa_cons (pv 2) pa_nil)))
      (pss_cons (ps_setLc (i := 5) (own := [("shelf", 8)]) (g := gName 8) (tt := tYes) (te := tCB (rLo K) (tCons (tVar 8) tNil)) rfl scAfterTick.nd rfl rfl (sw_true rfl rfl rfl (by decide +kernel)) (pi_tup (pv 3)) (blkOk_by (N := nAt) (sc := defScope sAfterTick) (by decide +kernel))
        (fun _ _ _ _ _ => pg_name (i := 8) scAfterTick.nd rfl (Or.inl rfl)) (fun _ _ _ _ _ => pts_nil) (fun _ _ _ _ _ => pe_callTy call_list_of (by rfl) T.bt.list b_list (pa_cons (pv 8) pa_nil)))
      (pss_cons (ps_set (i := 6) scAfterTick.nd rfl (Or.inl rfl) (pe_lst pa_nil))
      (pss_cons (ps_for PassesOwn.never rfl (pi_list (pe_call (E := E0) GV hr (by rfl) T.VisitsIn.g T.VisitsIn.F.kp T.VisitsIn.b .nil pass0 (pa_cons (pe_ix ix_tup (pv 0) pe_int (fun _ _ => rfl)) (pa_cons (pv 1) pa_nil))))
          (pg_tup rfl (pgs_cons (pg_name (i := 7) scAfterTick.nd rfl (.inl rfl)) (pgs_cons (pg_name (i := 8) scAfterTick.nd rfl (.inl rfl)) pgs_nil)))
        (pss_cons (ps_set (i := 9) scAfterTick.nd rfl (Or.inl rfl) (pe_ix ix_list (pv 4) (pv 7) (fun _ _ => rfl)))
        (pss_cons (ps_expr (pe_bm PySem.F.plainAttrs_list PySem.F.slot_list_append PySem.F.type_list_append mt_append (pe_ix ix_list (pv 5) (pv 8) (fun _ _ => rfl)) (pa_cons (pv 9) pa_nil)))
        (pss_cons (ps_set (i := 10) scAfterTick.nd rfl (Or.inl rfl) (pe_bm PySem.F.plainAttrs_list PySem.F.slot_list_pop PySem.F.type_list_pop mt_popAt (pe_ix ix_list (pv 5) (pv 8) (fun _ _ => rfl)) (pa_cons pe_int pa_nil)))
        (pss_cons (ps_asg (pv 10) (pg_sub (pv 4) (pv 7) set_list))
        (pss_one (ps_expr (pe_bm PySem.F.plainAttrs_list PySem.F.slot_list_append PySem.F.type_list_append mt_append (pv 6) (pa_cons (pe_tup (pa_cons (pv 7) (pa_cons (pv 8) (pa_cons (pv 9) (pa_cons (pv 10) pa_nil))))) pa_nil)))))))))
      (pss_one (ps_ret (pe_tup (pa_cons (pe_callTy call_tuple_of (by rfl) T.bt.tuple b_tuple (pa_cons (pv 4) pa_nil))
        (pa_cons (pe_callTy call_tuple_of (by rfl) T.bt.tuple b_tuple (pa_cons (pe_lc (own := [("row", 11)]) (g := gName 11) (tt := tYes) (te := tCB (rTo K) (tCons (tVar 11) tNil)) rfl scAfterTick.nd (pi_list (pv 5)) (blkOk_by (N := nAt) (sc := defScope sAfterTick) (by decide +kernel))
          (fun _ _ _ _ _ => pg_name (i := 11) scAfterTick.nd rfl (Or.inl rfl)) (fun _ _ _ _ _ => pts_nil) (fun _ _ _ _ _ => pe_callTy call_tuple_of (by rfl) T.bt.tuple b_tuple (pa_cons (pv 11) pa_nil))) pa_nil))
        (pa_cons (pv 6) pa_nil))))))))), ?_⟩
    -- hands
    refine ⟨.ref ca, rfl, ca, _, rfl, .inr hL.c, fun hd hhd => ?_⟩
    have sm0 : Same H (upd H hd (.lst (L.1.map V.int))) := same_upd hhd
    have kh : (upd H hd (.lst (L.1.map V.int))) hd = some (.lst (L.1.map V.int)) := upd_same
    generalize upd H hd (.lst (L.1.map V.int)) = H0 at sm0 kh ⊢
    have h0 : H hd = none := hhd
    clear hhd
    -- rows
    refine ⟨.ref sh, rfl, sh, rfl, ⟨_, sqT_same sm0 hs1⟩, fun R hR => lc_tup (xs := qs.map V.ref) (fun i H' => Same H0 H' ∧ ∃ rw : List Addr, H' R = some (.lst (rw.map V.ref)) ∧ RowL H' rw (L.2.take i) ∧ rw.Nodup ∧ ∀ q ∈ rw, H0 q = none ∧ q ≠ R)
      ⟨same_upd hR, [], upd_same, .nil, List.nodup_nil, fun q hq => (List.not_mem_nil hq).elim⟩ (fun i H' _ h => sqT_same (sm0.trans h.1) hs1) (fun i x H' hx ⟨sm, rw, kR, rl, nd, hrw⟩ => ?_) (fun H1 ⟨sm1, rw, kR, rl, nd, hrw⟩ => ?_)⟩
    · obtain ⟨q1, hq1, rfl⟩ := refs_lt hx
      obtain ⟨s1, hs3, hq2⟩ := segT_at hs2 hq1
      refine ⟨rfl, yes_go ⟨.ref q1, rfl, q1, _, rfl, .inr (sqT_same (sm0.trans sm) hq2), fun l hl => ?_⟩⟩
      have n0 : H0 l = none := Same.free sm hl
      have nR : R ≠ l := ne_of_none kR hl
      have kR2 : (upd H' l (.lst (s1.map V.int))) R = some (.lst (rw.map V.ref)) := by rw [upd_ne nR]; exact kR
      have hrl := rowL_len rl
      refine ⟨_, kR2, ?_, ?_, rw ++ [l], ?_, ?_, ?_, ?_⟩
      · rw [List.length_map, hrl, List.length_take]
        exact small1000 (by omega)
      · exact same_of (same_of sm n0) hR
      · rw [upd_same, List.map_append]
        rfl
      · rw [List.take_add_one, hs3]
        have hl2 : l ∉ rw := rowL_free rl hl
        refine rowL_snoc (by rw [upd_ne (Ne.symm nR), upd_same]) (rowL_imp (fun q hq o ho => ?_) rl)
        rw [upd_ne (hrw q hq).2, upd_ne (fun z : q = l => hl2 (by rw [← z]; exact hq))]
        exact ho
      · refine List.nodup_append.mpr ⟨nd, (by simp), fun x hx y hy z => ?_⟩
        rw [List.mem_singleton.mp hy] at z
        exact rowL_free rl hl (by rw [← z]; exact hx)
      · intro q hq
        rcases List.mem_append.mp hq with hq | hq
        · exact hrw q hq
        · rw [List.mem_singleton.mp hq]
          exact ⟨n0, Ne.symm nR⟩
    rw [List.length_map, hql, List.take_length] at rl
    have kh1 := sm1 _ _ kh
    have hRH : hd ≠ R := ne_of_none kh hR
    have hdrw : hd ∉ rw := fun m => by rw [(hrw _ m).1] at kh; cases kh
    have Rrw : R ∉ rw := fun m => (hrw _ m).2 rfl
    have smA := sm0.trans sm1
    -- exchanges
    refine ⟨Nat.zero_le _, fun xe hxe => ?_⟩
    have nxH : H xe = none := Same.free smA hxe
    have xh : xe ≠ hd := (ne_of_none kh1 hxe).symm
    have xR : xe ≠ R := (ne_of_none kR hxe).symm
    have xrw : xe ∉ rw := rowL_free rl hxe
    have sm2 : Same H1 (upd H1 xe (.lst [])) := same_upd hxe
    have kx : (upd H1 xe (.lst [])) xe = some (.lst []) := upd_same
    generalize upd H1 xe (.lst []) = H2 at sm2 kx ⊢
    have smB := smA.trans sm2
    -- visits
    refine ⟨.ref p, rfl, p, _, 1, .ref b, rfl, rfl, sqT_same smB hp1, rfl, .int n, rfl, b, rs, n, rfl, hb.same smB, by omega, fun r hr => ⟨(hv.ne r hr).1, by have := hv.r2 r hr; omega⟩, fun H3 f sm3 hf3 tl3 => ?_⟩
    rw [meets_vis hv.ro] at tl3
    obtain ⟨fs, kf, tv⟩ := tl3.ex
    have hfl : fs.length = (vis rs (n - 1)).length := by rw [tupsV_len tv, List.length_map]
    have smC := smB.trans sm3
    have kh3 := sm3 _ _ (sm2 _ _ kh1)
    have kR3 := sm3 _ _ (sm2 _ _ kR)
    have kx3 := sm3 _ _ kx
    have rl3 : RowL H3 rw L.2 := rowL_imp (fun q _ o ho => sm3 _ _ (sm2 _ _ ho)) rl
    have fh : f ≠ hd := fun z => by rw [z, sm2 _ _ kh1] at hf3; cases hf3
    have fR : f ≠ R := fun z => by rw [z, sm2 _ _ kR] at hf3; cases hf3
    have fx : f ≠ xe := fun z => by rw [z, kx] at hf3; cases hf3
    have frw : f ∉ rw := fun m => by
      obtain ⟨xs, e⟩ := rowL_mem rl m
      rw [sm2 _ _ e] at hf3
      cases hf3
    have hL2 : L = (L.1, L.2) := rfl
    refine ⟨f, rfl, ⟨_, .inl (.inl kf)⟩, for_list (xs := fs.map V.ref) (fun i σ H' => (∃ y7 y8 y9 y10 y11, σ = [some (.ref p), some (.int n), some (.ref ca), some (.ref sh), some (.ref hd), some (.ref R), some (.ref xe), y7, y8, y9, y10, y11]) ∧ Same H H' ∧ H' f = some (.lst (fs.map V.ref)) ∧ TupsV H' fs ((vis rs (n - 1)).map fun p => pairV p.1 (p.2 : Nat)) ∧
        H' hd = some (.lst ((steps ((vis rs (n - 1)).take i) L).1.map V.int)) ∧ H' R = some (.lst (rw.map V.ref)) ∧ RowL H' rw (steps ((vis rs (n - 1)).take i) L).2 ∧ TL H' xe (exN (vis rs (n - 1)) L i))
      ⟨⟨_, _, _, _, _, rfl⟩, smC, kf, tv, kh3, kR3, rl3, [], kx3, .nil⟩ (fun i σ H' _ h => .inl (.inl h.2.2.1)) (fun i x σ H' hx ⟨⟨y7, y8, y9, y10, y11, es⟩, sm, kf4, tv4, kh4, kR4, rl4, tl4⟩ => ?_) (fun σ H' ⟨⟨y7, y8, y9, y10, y11, es⟩, sm, kf4, tv4, kh4, kR4, rl4, tl4⟩ => ?_)⟩
    · subst es
      obtain ⟨U, hU, rfl⟩ := refs_lt hx
      obtain ⟨t0, ht0, hUt⟩ := tupsV_at tv4 hU
      rw [List.getElem?_map] at ht0
      cases hv1 : (vis rs (n - 1))[i]? with
      | none => rw [hv1] at ht0; cases ht0
      | some pr =>
      obtain ⟨c, s⟩ := pr
      rw [hv1] at ht0
      obtain rfl : pairV c (s : Nat) = t0 := Option.some.inj ht0
      have hcs := vis_ok hv.ro (n - 1) (c, s) (List.mem_of_getElem? hv1)
      obtain ⟨hc, hs⟩ := hcs
      simp only at hc hs
      have hfi := steps_fits ((vis rs (n - 1)).take i) hf
      have est := steps_take (L := L) hv1
      have eex := exN_succ (L := L) hv1
      generalize hLi : steps ((vis rs (n - 1)).take i) L = Li at kh4 rl4 hfi est eex
      obtain ⟨g1, g2⟩ := fit_at hfi
      obtain ⟨x, hx1⟩ : ∃ x, Li.1[c]? = some x := ⟨_, List.getElem?_eq_getElem (by omega)⟩
      obtain ⟨row, hrow⟩ : ∃ row, Li.2[s]? = some row := ⟨_, List.getElem?_eq_getElem (by omega)⟩
      have hrl := rowL_len rl4
      obtain ⟨q1, hq1⟩ : ∃ q, rw[s]? = some q := ⟨_, List.getElem?_eq_getElem (by omega)⟩
      have hq1m := List.mem_of_getElem? hq1
      obtain ⟨row', hrow', kq⟩ := rowL_at rl4 hq1
      obtain rfl : row = row' := Option.some.inj (hrow.symm.trans hrow')
      have hr9 := fit_row hfi hv.z2 hrow
      have hV1 : (Li.1.map V.int)[c]? = some (.int x) := by rw [List.getElem?_map, hx1]; rfl
      have hV2 : (rw.map V.ref)[s]? = some (.ref q1) := by rw [List.getElem?_map, hq1]; rfl
      refine ⟨U, pairV c (s : Nat), rfl, .inl (.inl hUt), rfl, _, _, rfl, _, _, rfl, rfl, ?_⟩
      refine ⟨.ref hd, rfl, .int (c : Nat), rfl, hd, _, _, _, rfl, rfl, .inl (.inl kh4), atI_nat hV1, ?_⟩
      refine ⟨.ref R, rfl, .int (s : Nat), rfl, R, _, _, .ref q1, rfl, rfl, .inl (.inl kR4), atI_nat hV2, .inl ⟨rfl, _, .inl (.inl kq)⟩, .int x, rfl, q1, _, _, rfl, rfl, kq, ?_, ?_⟩
      · rw [List.length_map]
        exact small1000 (by omega)
      have qR : q1 ≠ R := fun z => Rrw (by rw [← z]; exact hq1m)
      have qh : q1 ≠ hd := fun z => hdrw (by rw [← z]; exact hq1m)
      have qx : q1 ≠ xe := fun z => xrw (by rw [← z]; exact hq1m)
      have qf : q1 ≠ f := fun z => frw (by rw [← z]; exact hq1m)
      have nq : H q1 = none := by
        cases e : H q1 with
        | none => rfl
        | some o => have := sm0 _ _ e; rw [(hrw _ hq1m).1] at this; cases this
      have kq2 : (upd H' q1 (.lst (row.map V.int ++ [.int x]))) q1 = some (.lst (row.map V.int ++ [.int x])) := upd_same
      have kR5 : (upd H' q1 (.lst (row.map V.int ++ [.int x]))) R = some (.lst (rw.map V.ref)) := by rw [upd_ne (Ne.symm qR)]; exact kR4
      have kh5 : (upd H' q1 (.lst (row.map V.int ++ [.int x]))) hd = some (.lst (Li.1.map V.int)) := by rw [upd_ne (Ne.symm qh)]; exact kh4
      have sm5 : Same H (upd H' q1 (.lst (row.map V.int ++ [.int x]))) := same_of sm nq
      have up5 : ∀ b o, b ≠ q1 → H' b = some o → (upd H' q1 (.lst (row.map V.int ++ [.int x]))) b = some o := fun b o hb ho => by rw [upd_ne hb]; exact ho
      generalize upd H' q1 (.lst (row.map V.int ++ [.int x])) = H5 at kq2 kR5 kh5 sm5 up5 ⊢
      have hhead : (row.map V.int ++ [V.int x])[0]? = some (.int (row.headD x)) := by cases row <;> rfl
      have htail : (row.map V.int ++ [V.int x]).eraseIdx 0 = ((row ++ [x]).tail).map V.int := by
        rw [List.eraseIdx_zero, List.map_tail, List.map_append]
        rfl
      refine ⟨.ref R, rfl, .int (s : Nat), rfl, R, _, _, .ref q1, rfl, rfl, .inl (.inl kR5), atI_nat hV2, .inl ⟨rfl, _, .inl (.inl kq2)⟩, q1, _, 0, 0, _, rfl, rfl, kq2, by decide, by decide, ?_, hhead, ?_⟩
      · simp [seqIndex?]
      rw [htail]
      have nhd : H hd = none := h0
      have kh6 : (upd H5 q1 (.lst (((row ++ [x]).tail).map V.int))) hd = some (.lst (Li.1.map V.int)) := by rw [upd_ne (Ne.symm qh)]; exact kh5
      refine ⟨.int (row.headD x), rfl, .ref hd, rfl, .int (c : Nat), rfl, hd, _, _, c, rfl, rfl, kh6, ?_, ?_⟩
      · rw [List.length_map]
        exact ixN_nat (by omega)
      have sm6 : Same H (upd (upd H5 q1 (.lst (((row ++ [x]).tail).map V.int))) hd (.lst ((Li.1.map V.int).set c (.int (row.headD x))))) := same_of (same_of sm5 nq) nhd
      have up6 : ∀ b o, b ≠ q1 → b ≠ hd → H' b = some o → (upd (upd H5 q1 (.lst (((row ++ [x]).tail).map V.int))) hd (.lst ((Li.1.map V.int).set c (.int (row.headD x))))) b = some o := fun b o h1 h2 ho => by
        rw [upd_ne h2, upd_ne h1]
        exact up5 b o h1 ho
      have kh7 : (upd (upd H5 q1 (.lst (((row ++ [x]).tail).map V.int))) hd (.lst ((Li.1.map V.int).set c (.int (row.headD x))))) hd = some (.lst ((step1 Li (c, s)).1.map V.int)) := by
        rw [upd_same, mtch_eq hx1 hrow, List.map_set]
      have rl7 : RowL (upd (upd H5 q1 (.lst (((row ++ [x]).tail).map V.int))) hd (.lst ((Li.1.map V.int).set c (.int (row.headD x))))) rw (step1 Li (c, s)).2 := by
        rw [mtch_eq hx1 hrow]
        refine rowL_imp (fun q hq o ho => ?_) (rowL_set nd rl4 hq1)
        rw [upd_ne (fun z : q = hd => hdrw (by rw [← z]; exact hq))]
        by_cases hqq : q = q1
        · subst hqq
          rw [upd_same] at ho ⊢
          exact ho
        · rw [upd_ne hqq] at ho ⊢
          exact up5 _ _ hqq ho
      generalize upd (upd H5 q1 (.lst (((row ++ [x]).tail).map V.int))) hd (.lst ((Li.1.map V.int).set c (.int (row.headD x)))) = H7 at sm6 up6 kh7 rl7 ⊢
      obtain ⟨ps, kx7, tv7⟩ := tl4.ex
      have kx8 := up6 _ _ (Ne.symm qx) xh kx7
      refine ⟨.ref xe, rfl, .inl ⟨rfl, _, .inl (.inl kx8)⟩, .int (c : Nat), rfl, .int (s : Nat), rfl, .int x, rfl, .int (row.headD x), rfl, (by show 4 ≤ sizeLine; decide), fun t ht => ?_⟩
      have kx9 : (upd H7 t (.tup [.int (c : Nat), .int (s : Nat), .int x, .int (row.headD x)])) xe = some (.lst (ps.map V.ref)) := by rw [upd_ne (ne_of_none kx8 ht)]; exact kx8
      have psl : ps.length ≤ i := by rw [tupsV_len tv7]; exact exN_len _ _ _
      have il : i < (vis rs (n - 1)).length := (List.getElem?_eq_some_iff.mp hv1).1
      have vl := vis_len rs (n - 1)
      have up8 : ∀ b o, b ≠ q1 → b ≠ hd → b ≠ xe → H' b = some o → (upd (upd H7 t (.tup [.int (c : Nat), .int (s : Nat), .int x, .int (row.headD x)])) xe (.lst (ps.map V.ref ++ [.ref t]))) b = some o := fun b o h1 h2 h3 ho => by
        rw [upd_ne h3, upd_ne (ne_of_none (up6 _ _ h1 h2 ho) ht)]
        exact up6 _ _ h1 h2 ho
      have tl9 : TL (upd H7 t (.tup [.int (c : Nat), .int (s : Nat), .int x, .int (row.headD x)])) xe (exN (vis rs (n - 1)) L i) := by
        refine ⟨ps, kx9, tupsV_imp (fun b xs hb => ?_) tv7⟩
        have h1 : b ≠ q1 := fun z => by rw [z, kq] at hb; cases hb
        have h2 : b ≠ hd := fun z => by rw [z, kh4] at hb; cases hb
        have := up6 _ _ h1 h2 hb
        rw [upd_ne (ne_of_none this ht)]
        exact this
      refine ⟨xe, _, _, rfl, rfl, kx9, ?_, ⟨_, _, _, _, _, rfl⟩, same_of (same_of sm6 (Same.free sm6 ht)) nxH, ?_, ?_, ?_, ?_, ?_, ?_⟩
      · rw [List.length_map]
        exact small1000 (by omega)
      · exact up8 _ _ (Ne.symm qf) fh fx kf4
      · refine tupsV_imp (fun b xs hb => ?_) tv4
        exact up8 _ _ (fun z => by rw [z, kq] at hb; cases hb) (fun z => by rw [z, kh4] at hb; cases hb) (fun z => by rw [z, kx7] at hb; cases hb) hb
      · rw [est, upd_ne (Ne.symm xh), upd_ne (ne_of_none kh7 ht)]
        exact kh7
      · exact up8 _ _ (Ne.symm qR) (Ne.symm hRH) (Ne.symm xR) kR4
      · rw [est]
        refine rowL_imp (fun q hq o ho => ?_) rl7
        rw [upd_ne (fun z : q = xe => xrw (by rw [← z]; exact hq)), upd_ne (ne_of_none ho ht)]
        exact ho
      · rw [eex, exch_eq hx1 hrow]
        exact tl9.push kx9 upd_same
    · subst es
      rw [List.length_map, hfl, List.take_length] at kh4 rl4
      rw [List.length_map, hfl] at tl4
      have hrl := rowL_len rl4
      refine ⟨.ref hd, rfl, hd, _, rfl, .inl ⟨.inl (.inl kh4), fun ca' hca' => ?_⟩⟩
      have s1 : Same H' (upd H' ca' (.tup ((steps (vis rs (n - 1)) L).1.map V.int))) := same_upd hca'
      have k1 : (upd H' ca' (.tup ((steps (vis rs (n - 1)) L).1.map V.int))) ca' = some (.tup ((steps (vis rs (n - 1)) L).1.map V.int)) := upd_same
      generalize upd H' ca' (.tup ((steps (vis rs (n - 1)) L).1.map V.int)) = Ha at s1 k1 ⊢
      refine ⟨.ref R, rfl, R, rfl, ⟨_, .inl (.inl (s1 _ _ kR4))⟩, fun D hD => lc_list (xs := rw.map V.ref) (fun i H'' => Same Ha H'' ∧ ∃ qs' : List Addr, H'' D = some (.lst (qs'.map V.ref)) ∧ SegV H'' qs' ((steps (vis rs (n - 1)) L).2.take i))
        ⟨same_upd hD, [], upd_same, .nil⟩ (fun i H'' _ h => .inl (.inl (h.1 _ _ (s1 _ _ kR4)))) (fun i x H'' hx ⟨s2, qs', kD, sv⟩ => ?_) (fun H'' ⟨s2, qs', kD, sv⟩ => ?_)⟩
      · obtain ⟨q1, hq1, rfl⟩ := refs_lt hx
        obtain ⟨row, hrow, kq⟩ := rowL_at rl4 hq1
        have kq2 := s2 _ _ (s1 _ _ kq)
        refine ⟨rfl, yes_go ⟨.ref q1, rfl, q1, _, rfl, .inl ⟨.inl (.inl kq2), fun l hl => ?_⟩⟩⟩
        have nD : D ≠ l := ne_of_none kD hl
        refine ⟨_, by rw [upd_ne nD]; exact kD, ?_, same_of (same_of s2 (Same.free s2 hl)) hD, qs' ++ [l], ?_, ?_⟩
        · rw [List.length_map, segV_len sv, List.length_take]
          have := fit_at (steps_fits (vis rs (n - 1)) hf)
          exact small1000 (by omega)
        · rw [upd_same, List.map_append]
          rfl
        · rw [List.take_add_one, hrow]
          refine segV_imp (fun b xs hb => ?_) (segV_snoc (show (upd H'' l (.tup (row.map V.int))) l = some (.tup (row.map V.int)) from upd_same) (segV_imp (fun b xs hb => same_upd hl _ _ hb) sv))
          rw [upd_ne (fun z : b = D => by rw [z, upd_ne nD, kD] at hb; cases hb)]
          exact hb
      rw [List.length_map, hrl, List.take_length] at sv
      refine ⟨D, _, rfl, .inl ⟨.inl (.inl kD), fun sh' hsh' => ⟨.ref xe, rfl, (by show 3 ≤ sizeLine; decide), fun t ht => ?_⟩⟩⟩
      have ksh : (upd H'' sh' (.tup (qs'.map V.ref))) sh' = some (.tup (qs'.map V.ref)) := upd_same
      have s3 : Same H'' (upd (upd H'' sh' (.tup (qs'.map V.ref))) t (.tup [.ref ca', .ref sh', .ref xe])) := (same_upd hsh').trans (same_upd ht)
      have lay : LayAt (upd (upd H'' sh' (.tup (qs'.map V.ref))) t (.tup [.ref ca', .ref sh', .ref xe])) ca' sh' (steps (vis rs (n - 1)) L).1 (steps (vis rs (n - 1)) L).2 :=
        ⟨s3 _ _ (s2 _ _ k1), qs', by rw [upd_ne (ne_of_none ksh ht)]; exact ksh, segV_imp (fun b xs hb => s3 _ _ hb) sv⟩
      exact q _ t ca' sh' xe ((sm.trans s1).trans (s2.trans s3)) upd_same lay.t ((tl4.same s1).same (s2.trans s3)) nxH
end
end Sv
set_option maxHeartbeats 4000000
namespace Sv
open PySem PySem.Spec PyProof.Rows L2
theorem for_enumL {K : PySem.W.Frag} {a : Addr} {xs : List V} {g : TG} {tb : TS} {D : Ends} {σ : L2.St} {H : Hp} (Pv : Nat → L2.St → Hp → Prop) (h0 : Pv 0 σ H) (hl : ∀ i σ H, i ≤ xs.length → Pv i σ H → SqL K H a xs)
    (turn : ∀ i x σ H T, xs[i]? = some x → Pv i σ H → H T = none → g (.ref T) σ (upd H T (.tup [.int (i : Nat), x])) fun σ' H' => tb { nx := fun σ2 H2 => Pv (i + 1) σ2 H2, rt := D.rt, bk := D.nx, ct := fun σ2 H2 => Pv (i + 1) σ2 H2 } σ' H')
    (after : ∀ σ H, Pv xs.length σ H → D.nx σ H) : ∃ W : Nat → Nat → L2.St → Hp → Prop, (∃ m, W 0 m σ H) ∧ ∀ i m σ H, W i m σ H →
      ((Ite K a).stop i H ∧ D.nx σ H) ∨ ((Ite K a).go i H ∧ ∃ Nx : L2.St → Hp → Prop, (∀ σ' H', Nx σ' H' → ∃ m', m' < m ∧ W (i + 1) m' σ' H') ∧ ∀ x H', (Ite K a).yld i H x H' → g x σ H' fun σ2 H2 => tb { nx := Nx, rt := D.rt, bk := D.nx, ct := Nx } σ2 H2) := by
  refine ⟨fun i m σ H => i + m = xs.length ∧ Pv i σ H, ⟨xs.length, Nat.zero_add _, h0⟩, fun i m σ H ⟨em, hP⟩ => ?_⟩
  have hS := hl i σ H (by omega) hP
  by_cases hi : i < xs.length
  · have gx : xs[i]? = some xs[i] := List.getElem?_eq_getElem hi
    refine .inr ⟨⟨xs, _, hS, gx⟩, fun σ' H' => Pv (i + 1) σ' H', fun σ' H' h => ⟨m - 1, by omega, by omega, h⟩, fun x H' hy => ?_⟩
    obtain ⟨T, y, rfl, nT, rfl, hy⟩ := hy
    have ey : y = xs[i] := Option.some.inj ((hy xs hS).symm.trans gx)
    rw [ey]
    exact turn i _ σ H T gx hP nT
  · have e : i = xs.length := by omega
    refine .inl ⟨⟨xs, hS, by omega⟩, after σ H ?_⟩
    rw [← e]
    exact hP
section
variable {P : Program} {w : World} {K : PySem.W.Frag} {mg : Str → Option Value} {base : Heap}
def iN (l : List Nat) : List Int := l.map fun (n : Nat) => (n : Int)
theorem iN_V (l : List Nat) : (iN l).map V.int = vN l := by unfold iN vN; rw [List.map_map]; rfl
theorem rgV_iN (n : Nat) : rgV 0 (n : Int) = (iN (List.range n)).map V.int := by
  rw [iN_V]
  unfold rgV vN
  simp
/-- a layout of numbers of places -/
def iL (L : Lay Nat) : Lay Int := mapL (fun (n : Nat) => (n : Int)) L
theorem spl_iN (n : Nat) (zs : List Int) (l : List Nat) : spl n zs (iN l) = iL (spl n zs l) := spl_map _ n zs l
theorem run_iL (rs : List Ro) (t : Int) (k : Nat) (L : Lay Nat) : run rs t k (iL L) = iL (run rs t k L) := run_map _ rs t k L
end
end Sv
set_option maxHeartbeats 4000000
namespace Sv
open PySem PySem.Spec PyProof.Rows L2
section
variable {Z : Cx}
/-- a rule for each block of a comprehension -/
abbrev AllBlk (Z : Cx) (sc : Scope) (R : Cx → Prop) : Prop := ∀ (s : Shared) (H : Hp) (c0 : Addr) (cl : List (Str × Addr)) (fp : List Addr), R (Z.blk s H sc (compEnvC sc cl c0 Z.env) fp)
theorem swD_yes {ke ve : Expr} {gens : List Comprehension} {sc : Scope} {dp np : Pos} {nm : Str} {ln : Nat} {ev : Env} (h1 : ev.scope.kind = .function) (h2 : ev.scope.names.lookup nm = some .local) (h3 : (np.line == dp.line) = true)
    (h4 : (sc.names.any fun (a, b) => a == nm && (b == .local || b == .cell)) = false) : swapsWith (.DictComp ke ve gens sc dp) (some (.Name nm np)) ln ev = pure true := by
  have e1 : ev.kindOf nm = some .local := h2
  have e2 : ev.blockKind = .function := by
    unfold Env.blockKind
    rw [h1]
    rfl
  unfold swapsWith
  simp only [e2, e1, h4, Expr.pos, h3]
  rfl
theorem ps_setDc {j : Nat} {nm : Str} {np dp sp : Pos} {ke ve tg it : Expr} {ifs : List Expr} {sc : Scope} {own : List (Str × Nat)} {wi : TI} {g : TG} {tt : TT} {tk tv : TE} (calm : Z.calm = true) (nd : Z.N.Nodup) (hj : Z.N[j]? = some nm) (hl : Z.env.scope.names.lookup nm = some .local)
    (sw : swapsWith (.DictComp ke ve [⟨tg, it, ifs, 0⟩] sc dp) (some (.Name nm np)) sp.line Z.env = pure true) (pi : PI Z tg it wi) (ok : BlkOk Z.N Z.env.scope sc own)
    (p1 : AllBlk Z sc fun B => PG B tg g) (p2 : AllBlk Z sc fun B => PTs B ifs tt) (p3 : AllBlk Z sc fun B => PE B ke tk) (p4 : AllBlk Z sc fun B => PE B ve tv) (fi : ∀ x, foldedSetIterable it Z.env x = pure x := by intro _; rfl) :
    PS Z (.Assign [.Name nm np] (.DictComp ke ve [⟨tg, it, ifs, 0⟩] sc dp) sp) (tAsg (tDc wi g tt tk tv (own.map (·.2))) (gName j)) := by
  refine ⟨fun pins s σ H D I hq0 => ?_⟩
  rw [exec_Assign_Name_used _ _ _ _ sw]
  refine wpAny_bind (wpAny_standAt (wpAny_bind ?_))
  show wpAny _ Z.A (do let _ ← comprehension (.DictComp ke ve [⟨tg, it, ifs, 0⟩] sc dp) sc Z.env (firstIterPos [⟨tg, it, ifs, 0⟩] dp) newDict false (eval it Z.env) (some (assign (.Name nm np) Z.env))) _ _ s
  have hq : tDc wi g tt tk tv (own.map (·.2)) σ H (fun x H1 => gName j x σ H1 D.nx) := hq0
  refine wpAny_bind (thn (dc_core (Qf := fun _ s' => SP Z pins D .next s') calm nd I pi ok p1 p2 p3 p4 fi hq fun d c s1 m1 H1 I1 q1 hns fr => ?_) fun _ s1 h => wpAny_pure (wpAny_pure h))
  show wpAny _ _ (assign (.Name nm np) Z.env (.ref d)) _ _ _
  obtain ⟨x0, x1, x2, x3, x4, x5⟩ := fr
  refine wpAny_assign_Name (store_ok2 (v := V.ref d) I1 nd hj (.inl hl) rfl (fun s2 I2 ⟨a, sb, ha⟩ => ?_) (.inr hl))
  have ne : c ≠ a := by
    rcases ha with z | z
    · rw [z]
      exact x1
    · exact fun e => x4 nm a z e.symm
  exact ⟨m1, hns.sameBut sb ne, fun h3 sb3 => ⟨_, H1, I2.turned (t' := s2.toks) (fun b o hb e => (sb3.2 b hb).trans e) x0 x1 x3 x4 x5, q1⟩⟩
end
/-- the dict is made by the items of a list -/
theorem dc_list {K : PySem.W.Frag} {a : Addr} {xs : List V} {g : TG} {tt : TT} {tk tv : TE} {vs : List Nat} {σ : L2.St} {H1 : Hp} {D : Addr} {Qd : Hp → Prop} (Pv : Nat → Hp → Prop) (start : Pv 0 (upd H1 D (.dK []))) (stays : ∀ i H, i ≤ xs.length → Pv i H → SqL K H a xs)
    (turn : ∀ i x H, xs[i]? = some x → Pv i H → g x (wipe σ vs) H fun σ2 H2 => wipe σ2 vs = wipe σ vs ∧ tt σ2 H2 fun b H3 =>
      if b = true then tk σ2 H3 fun y H4 => tv σ2 H4 fun z H5 => ∃ kvs k, y = kV k ∧ H5 D = some (.dK kvs) ∧ kvs.length < sizeLine ∧ Pv (i + 1) (upd H5 D (.dK (putK kvs k z))) else Pv (i + 1) H3) (after : ∀ H, Pv xs.length H → Qd H) :
    ∃ W : Nat → Nat → Hp → Prop, (∃ m, W 0 m (upd H1 D (.dK []))) ∧ ∀ i m H, W i m H →
      ((Itl K a).stop i H ∧ Qd H) ∨ ((Itl K a).go i H ∧ ∃ Nx : Hp → Prop, (∀ H', Nx H' → ∃ m', m' < m ∧ W (i + 1) m' H') ∧ ∀ x H', (Itl K a).yld i H x H' → g x (wipe σ vs) H' fun σ2 H2 => wipe σ2 vs = wipe σ vs ∧ tt σ2 H2 fun b H3 =>
        if b = true then tk σ2 H3 fun y H4 => tv σ2 H4 fun z H5 => ∃ kvs k, y = kV k ∧ H5 D = some (.dK kvs) ∧ kvs.length < sizeLine ∧ Nx (upd H5 D (.dK (putK kvs k z))) else Nx H3) := by
  refine ⟨fun i m H => m = xs.length - i ∧ i ≤ xs.length ∧ Pv i H, ⟨xs.length, by simp, Nat.zero_le _, start⟩, fun i m H ⟨em, hi, p⟩ => ?_⟩
  subst em
  have st := stays i H hi p
  rcases Nat.lt_or_ge i xs.length with lt | ge
  · refine .inr ⟨⟨xs, xs[i], st, by simp [lt]⟩, Pv (i + 1), fun H' p' => ⟨xs.length - (i + 1), by omega, rfl, lt, p'⟩, fun x H' yl => ?_⟩
    obtain ⟨e, yl⟩ := yl
    subst e
    exact turn i x _ (yl xs st) p
  · obtain rfl : i = xs.length := by omega
    exact .inl ⟨⟨xs, st, Nat.le_refl _⟩, after H p⟩
end Sv
set_option maxHeartbeats 4000000
namespace Sv
open PySem PySem.Spec PyProof.Rows L2
section
variable {Z : Cx}
theorem mk_tupF : CallR Z (.type "tuple") (fun xs H Q => ∃ p ys, xs = [.ref p] ∧ SqL Z.K H p ys ∧ ((∀ l, H l = none → Q (.ref l) (upd H l (.tup ys))) ∨ ∀ l o, H l = none → o.dict = none → Q (.ref l) (upd H l (.frz o (.tup ys))))) := by
  intro pins s σ H xs us Q I rv hq
  obtain ⟨p, ys, rfl, hs, q⟩ := hq
  obtain ⟨u, rfl, ru⟩ : ∃ u, us = [u] ∧ RelV (.ref p) u := by
    cases rv with
    | cons a b =>
      cases b
      exact ⟨_, rfl, a⟩
  cases ru
  obtain ⟨its, vv, pl, hz⟩ := I.list hs
  have hle := vv.length
  refine call_tuple_list pl.isList (fun g kp => ?_) (by simp only [List.size_toArray] <;> omega)
  have J : Inv Z pins σ H { s with heap := g } := I.kept (t' := s.toks) kp
  have old : ∀ b u, g.get? b = some u → (g.push { cls := .type "tuple", data := .seq its.toArray }).get? b = some u := fun b u e => Heap.get?_push_of_some _ e
  have fr := J.hok.fresh (Nat.le_refl g.objs.size)
  rcases q with q | q
  · exact ⟨.ref g.objs.size, _, J.laid (o := .tup ys) (t' := s.toks) old (Nat.le_refl _) ⟨hz, its, vv, IsTup.new _ _⟩, rfl, q _ fr⟩
  · exact ⟨.ref g.objs.size, _, J.laid (o := .frz { cls := .type "tuple", data := .seq its.toArray } (.tup ys)) (t' := s.toks) old (Nat.le_refl _) ⟨Heap.get?_push_size g rfl, hz, its, vv, IsTup.new _ _⟩, rfl, q _ _ fr rfl⟩
end
end Sv
set_option maxHeartbeats 4000000
namespace Sv
open PySem PySem.Spec PyProof.Rows L2
def RowV (H : Hp) (rw : List Addr) (ss : List (List V)) : Prop := Paired (fun q s => H q = some (.lst s)) rw ss
theorem rowV_imp {H H' : Hp} : ∀ {rw : List Addr} {ss : List (List V)}, (∀ q ∈ rw, ∀ o, H q = some o → H' q = some o) → RowV H rw ss → RowV H' rw ss
  | _, _, _, .nil => .nil
  | _, _, e, .cons h t => .cons (e _ (List.mem_cons_self ..) _ h) (rowV_imp (fun q hq => e q (List.mem_cons_of_mem _ hq)) t)
theorem rowV_len {H : Hp} : ∀ {rw : List Addr} {ss : List (List V)}, RowV H rw ss → rw.length = ss.length
  | _, _, .nil => rfl
  | _, _, .cons _ t => congrArg Nat.succ (rowV_len t)
theorem rowV_at {H : Hp} : ∀ {rw : List Addr} {ss : List (List V)} {i : Nat} {q : Addr}, RowV H rw ss → rw[i]? = some q → ∃ s, ss[i]? = some s ∧ H q = some (.lst s)
  | _, _, i, _, .nil, e => by simp at e
  | _, _, 0, q, .cons h t, e => by
    obtain rfl := Option.some.inj e
    exact ⟨_, rfl, h⟩
  | _, _, i + 1, q, .cons h t, e => rowV_at (i := i) t (by simpa using e)
theorem rowV_mem {H : Hp} {rw : List Addr} {ss : List (List V)} (h : RowV H rw ss) {q : Addr} (hq : q ∈ rw) : ∃ xs, H q = some (.lst xs) := by
  obtain ⟨i, hi⟩ := List.mem_iff_getElem?.mp hq
  obtain ⟨s, _, e⟩ := rowV_at h hi
  exact ⟨_, e⟩
theorem rowV_free {H : Hp} {rw : List Addr} {ss : List (List V)} (h : RowV H rw ss) {q : Addr} (hq : H q = none) : q ∉ rw := fun m => by
  obtain ⟨xs, e⟩ := rowV_mem h m
  rw [hq] at e
  cases e
theorem rowV_snoc {H : Hp} {q : Addr} {s : List V} (h : H q = some (.lst s)) : ∀ {rw : List Addr} {ss : List (List V)}, RowV H rw ss → RowV H (rw ++ [q]) (ss ++ [s])
  | _, _, .nil => .cons h .nil
  | _, _, .cons r t => .cons r (rowV_snoc h t)
theorem rowV_set {H : Hp} {s' : List V} : ∀ {rw : List Addr} {ss : List (List V)} {i : Nat} {q : Addr}, rw.Nodup → RowV H rw ss → rw[i]? = some q → RowV (upd H q (.lst s')) rw (ss.set i s')
  | _, _, i, _, _, .nil, e => by simp at e
  | r :: rw, s :: ss, 0, q, nd, .cons h t, e => by
    obtain rfl := Option.some.inj e
    refine .cons upd_same (rowV_imp (fun b hb o ho => ?_) t)
    rw [upd_ne (fun z : b = r => (List.nodup_cons.mp nd).1 (by rw [← z]; exact hb))]
    exact ho
  | r :: rw, s :: ss, i + 1, q, nd, .cons h t, e => by
    have e' : rw[i]? = some q := by simpa using e
    refine .cons ?_ (rowV_set (List.nodup_cons.mp nd).2 t e')
    rw [upd_ne (fun z : r = q => (List.nodup_cons.mp nd).1 (by rw [z]; exact List.mem_of_getElem? e'))]
    exact h
def Ox (x : Addr) (H H' : Hp) : Prop := ∀ b o, b ≠ x → H b = some o → H' b = some o
section
variable {x q : Addr} {H H1 H2 : Hp} {o : HO}
theorem Ox.refl (x : Addr) (H : Hp) : Ox x H H := fun _ _ _ e => e
theorem Ox.then (a : Ox x H H1) (b : Same H1 H2) : Ox x H H2 := fun c u n e => b _ _ (a c u n e)
theorem Ox.put (a : Ox x H H1) (o : HO) : Ox x H (upd H1 x o) := fun c u n e => by
  rw [upd_ne n]
  exact a c u n e
theorem Ox.at (a : Ox x H H1) (n : H q = none) (o : HO) : Ox x H (upd H1 q o) := fun c u m e => by
  rw [upd_ne (fun z => by rw [z, n] at e; cases e)]
  exact a c u m e
theorem Ox.free (a : Ox x H H1) (hx : H1 x = some o) (n : H1 q = none) : H q = none := by
  cases e : H q with
  | none => rfl
  | some u =>
    have : q ≠ x := fun z => by rw [z, hx] at n; cases n
    rw [a q u this e] at n
    cases n
theorem sqT_ox {K : PySem.W.Frag} {C dx : Addr} {fs : List (Str × V)} (hx : H x = some (.ins C dx fs)) (e : Ox x H H1) : ∀ a xs, SqT K H a xs → SqT K H1 a xs := fun a xs h => by
  have ne : ∀ u, H a = some u → (∀ C dx fs, u ≠ .ins C dx fs) → a ≠ x := fun u h1 h2 z => by
    rw [z, hx] at h1
    exact h2 _ _ _ (Option.some.inj h1).symm
  rcases h with (h | ⟨u, h⟩) | h
  · exact .inl (.inl (e _ _ (ne _ h fun _ _ _ z => nomatch z) h))
  · exact .inl (.inr ⟨u, e _ _ (ne _ h fun _ _ _ z => nomatch z) h⟩)
  · exact .inr h
theorem sqT_ul {K : PySem.W.Frag} {ys : List V} (hq : H q = some (.lst ys)) (o : HO) : ∀ a xs, SqT K H a xs → SqT K (upd H q o) a xs := fun a xs h => by
  have ne : ∀ u, H a = some u → (∀ zs, u ≠ .lst zs) → a ≠ q := fun u h1 h2 z => by
    rw [z, hq] at h1
    exact h2 _ (Option.some.inj h1).symm
  have st : ∀ u, H a = some u → (∀ zs, u ≠ .lst zs) → upd H q o a = some u := fun u h1 h2 => by
    rw [upd_ne (ne u h1 h2)]
    exact h1
  rcases h with (h | ⟨u, h⟩) | h
  · exact .inl (.inl (st _ h fun _ z => nomatch z))
  · exact .inl (.inr ⟨u, st _ h fun _ z => nomatch z⟩)
  · exact .inr h
end
theorem lk_same (f : Str) (v : V) (fs : List (Str × V)) : (putF f v fs).lookup f = some v := by rw [lookup_putF, if_pos rfl]
theorem lk_ne {f g : Str} (h : g ≠ f) (v : V) (fs : List (Str × V)) : (putF f v fs).lookup g = fs.lookup g := by rw [lookup_putF, if_neg h]
/-- where the parcel of place i is after up to k ticks -/
def stopV (n : Nat) (zs : List Int) (rs : List Ro) (t : Int) (k i : Nat) : List V := (List.range (k + 1)).map fun j => V.int (ap (fwd n zs rs t j) i : Nat)
def stopsV (n : Nat) (zs : List Int) (rs : List Ro) (t : Int) (k : Nat) : List (List V) := (List.range (n + sumN zs)).map (stopV n zs rs t k)
/-- on which shelf x is left by the first k of the visits -/
def lefN (ps : List (Nat × Nat)) (L : Lay Int) (x : Int) : Nat → V
  | 0 => .non
  | k + 1 => match ps[k]? with
    | some p => if x = (steps (ps.take k) L).1.getD p.1 0 then .int (p.2 : Nat) else lefN ps L x k
    | none => lefN ps L x k
def lefV (ps : List (Nat × Nat)) (L : Lay Int) (x : Int) : V := lefN ps L x ps.length
/-- in which shelves the parcel of place i is left, tick by tick -/
def leftV (n : Nat) (zs : List Int) (rs : List Ro) (t : Int) (k i : Nat) : List V := (List.range k).map fun j => lefV (vis rs (t + (j : Nat))) (iL (run rs t j (idx n zs))) (i : Nat)
def leftsV (n : Nat) (zs : List Int) (rs : List Ro) (t : Int) (k : Nat) : List (List V) := (List.range (n + sumN zs)).map (leftV n zs rs t k)
theorem stopV_succ (n : Nat) (zs : List Int) (rs : List Ro) (t : Int) (k i : Nat) : stopV n zs rs t (k + 1) i = stopV n zs rs t k i ++ [.int (ap (fwd n zs rs t (k + 1)) i : Nat)] := by
  unfold stopV
  rw [List.range_succ (n := k + 1), List.map_append]
  rfl
theorem leftV_succ (n : Nat) (zs : List Int) (rs : List Ro) (t : Int) (k i : Nat) : leftV n zs rs t (k + 1) i = leftV n zs rs t k i ++ [lefV (vis rs (t + (k : Nat))) (iL (run rs t k (idx n zs))) (i : Nat)] := by
  unfold leftV
  rw [List.range_succ (n := k), List.map_append]
  rfl
theorem stopV_len (n : Nat) (zs : List Int) (rs : List Ro) (t : Int) (k i : Nat) : (stopV n zs rs t k i).length = k + 1 := by unfold stopV; simp
theorem leftV_len (n : Nat) (zs : List Int) (rs : List Ro) (t : Int) (k i : Nat) : (leftV n zs rs t k i).length = k := by unfold leftV; simp
/-- some of the rows are longer already -/
def midV (n : Nat) (A B : Nat → List V) (om : List Nat) : List (List V) := (List.range n).map fun o => if o ∈ om then B o else A o
theorem midV_at {n : Nat} {A B : Nat → List V} {om : List Nat} {o : Nat} (h : o < n) : (midV n A B om)[o]? = some (if o ∈ om then B o else A o) := by
  unfold midV
  rw [List.getElem?_map, List.getElem?_range h]
  rfl
theorem midV_len (n : Nat) (A B : Nat → List V) (om : List Nat) : (midV n A B om).length = n := by unfold midV; simp
theorem midV_set {n : Nat} {A B : Nat → List V} {om : List Nat} {o : Nat} (h : o < n) : (midV n A B om).set o (B o) = midV n A B (om ++ [o]) := by
  refine List.ext_getElem? fun i => ?_
  rw [List.getElem?_set]
  by_cases hi : i < n
  · rw [midV_at (om := om ++ [o]) hi, midV_at hi]
    by_cases e : o = i
    · subst e
      simp [midV_len, h]
    · simp [e, Ne.symm e]
  · by_cases e : o = i
    · omega
    · rw [if_neg e, List.getElem?_eq_none (by rw [midV_len]; omega), List.getElem?_eq_none (by rw [midV_len]; omega)]
theorem midV_nil (n : Nat) (A B : Nat → List V) : midV n A B [] = (List.range n).map A := by
  unfold midV
  exact List.map_congr_left fun o _ => by simp
theorem midV_all {n : Nat} {A B : Nat → List V} {om : List Nat} (h : ∀ o, o < n → o ∈ om) : midV n A B om = (List.range n).map B := by
  unfold midV
  exact List.map_congr_left fun o ho => by rw [if_pos (h o (List.mem_range.mp ho))]
theorem eff_all {e : List Nat} (E : Eff e) {o : Nat} (h : o < e.length) : o ∈ e := by
  have h1 := ap_inv E h
  have h2 : ap (inv e) o < e.length := by
    have := ap_lt (inv_eff E) (x := o) (by rw [inv_len]; exact h)
    rw [inv_len] at this
    exact this
  have := ap_at h2
  rw [h1] at this
  exact List.mem_of_getElem? this
/-- the dict that a tick's exchanges make -/
theorem valV_lefN {ps : List (Nat × Nat)} {L : Lay Int} {k : Nat} {p : Nat × Nat} {kvs : List (Key × V)} (hp : ps[k]? = some p) (h : ∀ x : Int, (valV kvs (Sum.inl x : Key)).getD .non = lefN ps L x k) (x : Int) :
    (valV (putK kvs (Sum.inl ((steps (ps.take k) L).1.getD p.1 0) : Key) (.int (p.2 : Nat))) (Sum.inl x : Key)).getD .non = lefN ps L x (k + 1) := by
  have e1 : lefN ps L x (k + 1) = if x = (steps (ps.take k) L).1.getD p.1 0 then V.int (p.2 : Nat) else lefN ps L x k := by
    conv => lhs; unfold lefN
    rw [hp]
  rw [valV_put, e1]
  by_cases e : x = (steps (ps.take k) L).1.getD p.1 0
  · rw [if_pos (by rw [e]), if_pos e]
    rfl
  · rw [if_neg (fun z => e (Sum.inl.inj z)), if_neg e]
    exact h x
theorem exN_full (ps : List (Nat × Nat)) (L : Lay Int) : ∀ m, m ≤ ps.length → (exN ps L m).length = m
  | 0, _ => rfl
  | m + 1, h => by
    rw [exN_succ (List.getElem?_eq_getElem (by omega : m < ps.length)), List.length_append, exN_full ps L m (by omega)]
    rfl
theorem exN_at {ps : List (Nat × Nat)} {L : Lay Int} {k : Nat} {p : Nat × Nat} (hp : ps[k]? = some p) : ∀ m, m ≤ ps.length → k < m → (exN ps L m)[k]? = some (exch (steps (ps.take k) L) p)
  | 0, _, h => absurd h (by omega)
  | m + 1, hm, h => by
    have fl := exN_full ps L m (by omega)
    by_cases e : k = m
    · subst e
      rw [exN_succ hp, List.getElem?_append_right (by omega), fl, Nat.sub_self]
      rfl
    · rw [exN_succ (List.getElem?_eq_getElem (by omega : m < ps.length)), List.getElem?_append_left (by omega)]
      exact exN_at hp m (by omega) (by omega)
theorem exL_at {ps : List (Nat × Nat)} {L : Lay Int} {k : Nat} {e : List V} (h : (exL ps L)[k]? = some e) : ∃ p, ps[k]? = some p ∧ e = exch (steps (ps.take k) L) p := by
  unfold exL at h
  have hk : k < ps.length := by
    have := (List.getElem?_eq_some_iff.mp h).1
    rwa [exN_full ps L _ (Nat.le_refl _)] at this
  have hp := List.getElem?_eq_getElem hk
  rw [exN_at hp _ (Nat.le_refl _) hk] at h
  exact ⟨_, hp, (Option.some.inj h).symm⟩
def RI (H3 H' : Hp) (D : Addr) (ss : List (List V)) : Prop := Same H3 H' ∧ ∃ rw : List Addr, H' D = some (.lst (rw.map V.ref)) ∧ RowV H' rw ss ∧ rw.Nodup ∧ ∀ q ∈ rw, H3 q = none ∧ q ≠ D
theorem RI.start {H3 : Hp} {D : Addr} (hD : H3 D = none) : RI H3 (upd H3 D (.lst [])) D [] := ⟨same_upd hD, [], upd_same, .nil, List.nodup_nil, fun q hq => (List.not_mem_nil hq).elim⟩
theorem RI.turn {H3 H' : Hp} {D l : Addr} {ss : List (List V)} {s : List V} (h : RI H3 H' D ss) (hD : H3 D = none) (hl : H' l = none) (hs : ss.length ≤ 1000) :
    ∃ acc, (upd H' l (.lst s)) D = some (.lst acc) ∧ acc.length < sizeLine ∧ RI H3 (upd (upd H' l (.lst s)) D (.lst (acc ++ [.ref l]))) D (ss ++ [s]) := by
  obtain ⟨sm, rw, kD, rl, nd, hrw⟩ := h
  have n0 : H3 l = none := Same.free sm hl
  have nD : D ≠ l := ne_of_none kD hl
  have hrl := rowV_len rl
  have hl2 : l ∉ rw := rowV_free rl hl
  refine ⟨rw.map V.ref, by rw [upd_ne nD]; exact kD, ?_, same_of (same_of sm n0) hD, rw ++ [l], ?_, ?_, ?_, ?_⟩
  · rw [List.length_map, hrl]
    exact small1000 hs
  · rw [upd_same, List.map_append]
    rfl
  · refine rowV_snoc (by rw [upd_ne (Ne.symm nD), upd_same]) (rowV_imp (fun q hq o ho => ?_) rl)
    rw [upd_ne (hrw q hq).2, upd_ne (fun z : q = l => hl2 (by rw [← z]; exact hq))]
    exact ho
  · refine List.nodup_append.mpr ⟨nd, (by simp), fun x hx y hy z => ?_⟩
    rw [List.mem_singleton.mp hy] at z
    exact hl2 (by rw [← z]; exact hx)
  · intro q hq
    rcases List.mem_append.mp hq with hq | hq
    · exact hrw q hq
    · rw [List.mem_singleton.mp hq]
      exact ⟨n0, Ne.symm nD⟩
theorem plan_sq {K : PySem.W.Frag} {H H' : Hp} {p : Addr} {zs : List Int} {rs : List Ro} (x : PlanAt K H p zs rs) (e : ∀ a xs, SqT K H a xs → SqT K H' a xs) : PlanAt K H' p zs rs := by
  obtain ⟨a, b, h1, h2, h3⟩ := x.ex
  obtain ⟨qs, h4, h5⟩ := h3.ex
  exact ⟨a, b, e _ _ h1, e _ _ h2, qs, e _ _ h4, paired_imp (K := K) e h5⟩
structure LapAt (H : Hp) (C a : Addr) (zs : List Int) (rs : List Ro) (t : Int) : Prop where
  ex : ∃ (dx st le ef : Addr) (fs : List (Str × V)) (srw lrw : List Addr), H a = some (.ins C dx fs) ∧ fs.lookup ("length" : Str) = some (.int (lc rs : Nat)) ∧ fs.lookup ("stops" : Str) = some (.ref st) ∧ fs.lookup ("lefts" : Str) = some (.ref le) ∧ fs.lookup ("effect" : Str) = some (.ref ef) ∧
    H st = some (.lst (srw.map V.ref)) ∧ RowV H srw (stopsV rs.length zs rs t (lc rs)) ∧ H le = some (.lst (lrw.map V.ref)) ∧ RowV H lrw (leftsV rs.length zs rs t (lc rs)) ∧ H ef = some (.tup (vN (wh rs.length zs rs t)))
theorem LapAt.same {H H' : Hp} {C a : Addr} {zs : List Int} {rs : List Ro} {t : Int} (h : LapAt H C a zs rs t) (e : Same H H') : LapAt H' C a zs rs t := by
  obtain ⟨dx, st, le, ef, fs, srw, lrw, h1, h2, h3, h4, h5, h6, h7, h8, h9, h10⟩ := h.ex
  exact ⟨dx, st, le, ef, fs, srw, lrw, e _ _ h1, h2, h3, h4, h5, e _ _ h6, rowV_imp (fun q _ o => e q o) h7, e _ _ h8, rowV_imp (fun q _ o => e q o) h9, e _ _ h10⟩
/-- a lap that is being made -/
structure LB (H H' : Hp) (x dx C st le : Addr) (fs : List (Str × V)) (srw lrw : List Addr) (ss ls : List (List V)) : Prop where
  o : Ox x H H'
  x : H' x = some (.ins C dx fs)
  s : H' st = some (.lst (srw.map V.ref))
  l : H' le = some (.lst (lrw.map V.ref))
  sr : RowV H' srw ss
  lr : RowV H' lrw ls
/-- what is new in it, each object apart -/
structure LN (H : Hp) (st le : Addr) (srw lrw : List Addr) : Prop where
  n1 : srw.Nodup
  n2 : lrw.Nodup
  d : ∀ q ∈ srw, q ∉ lrw
  s1 : st ∉ srw
  s2 : st ∉ lrw
  l1 : le ∉ srw
  l2 : le ∉ lrw
  f1 : ∀ q ∈ srw, H q = none
  f2 : ∀ q ∈ lrw, H q = none
section
variable {H H' H2 : Hp} {x dx C st le q : Addr} {fs : List (Str × V)} {srw lrw : List Addr} {ss ls : List (List V)}
theorem LB.same (b : LB H H' x dx C st le fs srw lrw ss ls) (e : Same H' H2) : LB H H2 x dx C st le fs srw lrw ss ls :=
  ⟨b.o.then e, e _ _ b.x, e _ _ b.s, e _ _ b.l, rowV_imp (fun q _ o => e q o) b.sr, rowV_imp (fun q _ o => e q o) b.lr⟩
theorem LB.put1 (b : LB H H' x dx C st le fs srw lrw ss ls) (n : LN H st le srw lrw) {i : Nat} (hi : srw[i]? = some q) (s : List V) : LB H (upd H' q (.lst s)) x dx C st le fs srw lrw (ss.set i s) ls := by
  have m := List.mem_of_getElem? hi
  obtain ⟨xs, hq⟩ := rowV_mem b.sr m
  have qx : x ≠ q := fun z => by rw [← z, b.x] at hq; cases hq
  refine ⟨b.o.at (n.f1 q m) _, by rw [upd_ne qx]; exact b.x, by rw [upd_ne (fun z => n.s1 (by rw [z]; exact m))]; exact b.s, by rw [upd_ne (fun z => n.l1 (by rw [z]; exact m))]; exact b.l, rowV_set n.n1 b.sr hi, rowV_imp (fun r hr o ho => ?_) b.lr⟩
  rw [upd_ne (fun z => n.d q m (by rw [← z]; exact hr))]
  exact ho
theorem LB.put2 (b : LB H H' x dx C st le fs srw lrw ss ls) (n : LN H st le srw lrw) {i : Nat} (hi : lrw[i]? = some q) (s : List V) : LB H (upd H' q (.lst s)) x dx C st le fs srw lrw ss (ls.set i s) := by
  have m := List.mem_of_getElem? hi
  obtain ⟨xs, hq⟩ := rowV_mem b.lr m
  have qx : x ≠ q := fun z => by rw [← z, b.x] at hq; cases hq
  refine ⟨b.o.at (n.f2 q m) _, by rw [upd_ne qx]; exact b.x, by rw [upd_ne (fun z => n.s2 (by rw [z]; exact m))]; exact b.s, by rw [upd_ne (fun z => n.l2 (by rw [z]; exact m))]; exact b.l, rowV_imp (fun r hr o ho => ?_) b.sr, rowV_set n.n2 b.lr hi⟩
  rw [upd_ne (fun z => n.d r hr (by rw [z]; exact m))]
  exact ho
end
end Sv
set_option maxHeartbeats 8000000
namespace Sv
open PySem PySem.Spec PyProof.Rows L2
section
variable {P : Program} {w : World} {K : PySem.W.Frag} {mg : Str → Option Value} {base : Heap}
def nLi : List Str := ["self", "plan", "time", "origins", "carried", "shelves", "step", "exchanges", "lefts", "place", "origin", "_", "shelf", "left", "row"]
theorem scLapInit : FnScope nLi ["self", "plan", "time"] (defScope sLapInit) := ⟨rfl, rfl, rfl, by decide +kernel, rfl, by decide +kernel, by decide +kernel⟩
def spLapInit (K : PySem.W.Frag) (C : Addr) : Sp := fun vs H Q _ => ∃ (x dx p : Addr) (t : Int) (zs : List Int) (rs : List Ro), vs = [.ref x, .ref p, .int t] ∧ H x = some (.ins C dx []) ∧ PlanAt K H p zs rs ∧ Val zs rs ∧
  ∀ H', Ox x H H' → LapAt H' C x zs rs t → Q .non H'
noncomputable abbrev fL1 (rs : List Ro) : List (Str × V) := putF "length" (.int (lc rs : Nat)) []
noncomputable abbrev fL2 (rs : List Ro) (st : Addr) : List (Str × V) := putF "stops" (.ref st) (fL1 rs)
noncomputable abbrev fL3 (rs : List Ro) (st le : Addr) : List (Str × V) := putF "lefts" (.ref le) (fL2 rs st)
noncomputable abbrev fL4 (rs : List Ro) (st le ef : Addr) : List (Str × V) := putF "effect" (.ref ef) (fL3 rs st le)
theorem fl2 (rs : List Ro) (st : Addr) : (fL2 rs st).length ≤ 2 := Nat.le_trans (length_putF _ _ _) (Nat.succ_le_succ (length_putF _ _ _))
theorem fl3 (rs : List Ro) (st le : Addr) : (fL3 rs st le).length ≤ 3 := Nat.le_trans (length_putF _ _ _) (Nat.succ_le_succ (fl2 rs st))
theorem lk3_length (rs : List Ro) (st le : Addr) : (fL3 rs st le).lookup ("length" : Str) = some (.int (lc rs : Nat)) := by
  rw [lk_ne (by decide), lk_ne (by decide), lk_same]
theorem lk3_stops (rs : List Ro) (st le : Addr) : (fL3 rs st le).lookup ("stops" : Str) = some (.ref st) := by
  rw [lk_ne (by decide), lk_same]
theorem lk3_lefts (rs : List Ro) (st le : Addr) : (fL3 rs st le).lookup ("lefts" : Str) = some (.ref le) := lk_same _ _ _
theorem ok_lapInit (T : Bd P K mg) : FnOk P w K mg base CX0 3 T.aLap T.dLap ["self", "plan", "time"] (spLapInit K T.CLap) := by
  have GM : FnOk P w K mg base CX0 2 T.aCommon T.dCommon ["routes"] (spCommon K) := ok_common T
  have GN : FnOk P w K mg base CX0 1 T.aNumPlaces T.dNumPlaces ["plan"] (spNum K) := ok_num T
  have GS : FnOk P w K mg base CX0 1 T.aSplit T.dSplit ["plan", "contents"] (spSplit K) := ok_split T
  have GA : FnOk P w K mg base CX0 2 T.aAfterTick T.dAfterTick ["plan", "number", "carried", "shelves"] (spAfterTick K) := ok_afterTick T
  have GJ : FnOk P w K mg base CX0 1 T.aJoin T.dJoin ["carried", "shelves"] (spJoin K) := ok_join T
  refine T.lap.F.ok scLapInit (fun vs H Q E h => ?_) (fun cdv A outer s H vs Q E hr h => ?_)
  · obtain ⟨x, dx, p, t, zs, rs, rfl, _⟩ := h
    rfl
  · obtain ⟨x, dx, p, t, zs, rs, rfl, hx, hp, hv, q⟩ := h
    have hu := hu_of hr
    refine ⟨_, (pss_cons (ps_fld (pv 0) (pe_call (E := E0) GM hr (by rfl) T.Common.g T.Common.F.kp T.Common.b .nil pass0 (pa_cons (pe_ix ix_tup (pv 1) pe_int (fun _ _ => rfl)) pa_nil)) rfl)
      (pss_cons (ps_set (i := 3) scLapInit.nd rfl (Or.inl rfl) (pe_listRg rfl (by rfl) T.bt.list (prg_1 (by rfl) T.bt.range (pe_call (E := E0) GN (hr.mono (by decide)) (by rfl) T.NumPlaces.g T.NumPlaces.F.kp T.NumPlaces.b .nil pass0 (pa_cons (pv 1) pa_nil)))))
      (pss_cons (ps_fld (pv 0) (pe_lc (own := [("place", 9)]) (g := gName 9) (tt := tYes) (te := tLst (tCons (tVar 9) tNil)) rfl scLapInit.nd (pi_list (pv 3)) (blkOk_by (N := nLi) (sc := defScope sLapInit) (by decide +kernel)) (fun _ _ _ _ _ => pg_name (i := 9) scLapInit.nd rfl (Or.inl rfl)) (fun _ _ _ _ _ => pts_nil) (fun _ _ _ _ _ => pe_lst (pa_cons (pv 9) pa_nil))) rfl)
      (pss_cons (ps_fld (pv 0) (pe_lc (own := [("_", 11)]) (g := gName 11) (tt := tYes) (te := tLst tNil) rfl scLapInit.nd (pi_list (pv 3)) (blkOk_by (N := nLi) (sc := defScope sLapInit) (by decide +kernel)) (fun _ _ _ _ _ => pg_name (i := 11) scLapInit.nd rfl (Or.inl rfl)) (fun _ _ _ _ _ => pts_nil) (fun _ _ _ _ _ => pe_lst pa_nil)) rfl)
      (pss_cons (ps_asg (pe_call (E := E0) GS (hr.mono (by decide)) (by rfl) T.Split.g T.Split.F.kp T.Split.b .nil pass0 (pa_cons (pv 1) (pa_cons (pv 3) pa_nil))) (pg_tup rfl (pgs_cons (pg_name (i := 4) scLapInit.nd rfl (.inl rfl)) (pgs_cons (pg_name (i := 5) scLapInit.nd rfl (.inl rfl)) pgs_nil))))
      (pss_cons (ps_for PassesOwn.never rfl (pi_range1 (by rfl) T.bt.range (pa_cons (pe_fld (pv 0) rfl) pa_nil)) (pg_name (i := 6) scLapInit.nd rfl (Or.inl rfl))
      (pss_cons (ps_asg (pe_call (E := E0) GA hr (by rfl) T.AfterTick.g T.AfterTick.F.kp T.AfterTick.b .nil pass0 (pa_cons (pv 1) (pa_cons (pe_op op_add (pe_op op_add (pv 2) (pv 6)) pe_int) (pa_cons (pv 4) (pa_cons (pv 5) pa_nil))))) (pg_tup rfl (pgs_cons (pg_name (i := 4) scLapInit.nd rfl (.inl rfl)) (pgs_cons (pg_name (i := 5) scLapInit.nd rfl (.inl rfl)) (pgs_cons (pg_name (i := 7) scLapInit.nd rfl (.inl rfl)) pgs_nil)))))
      (pss_cons (ps_setDc (j := 8) (own := [("_", 11), ("shelf", 12), ("left", 13)]) (g := gTup K 4 (gCons (gName 11) (gCons (gName 12) (gCons (gName 13) (gCons (gName 11) gNil))))) (tt := tYes) (tk := tVar 13) (tv := tVar 12) rfl scLapInit.nd rfl rfl (swD_yes rfl rfl rfl (by decide +kernel)) (pi_list (pv 7)) (blkOk_by (N := nLi) (sc := defScope sLapInit) (by decide +kernel)) (fun _ _ _ _ _ => (pg_tup rfl (pgs_cons (pg_name (i := 11) scLapInit.nd rfl (.inl rfl)) (pgs_cons (pg_name (i := 12) scLapInit.nd rfl (.inl rfl)) (pgs_cons (pg_name (i := 13) scLapInit.nd rfl (.inl rfl)) (pgs_cons (pg_name (i := 11) scLapInit.nd rfl (.inl rfl)) pgs_nil)))))) (fun _ _ _ _ _ => pts_nil) (fun _ _ _ _ _ => pv 13) (fun _ _ _ _ _ => pv 12))
      (pss_one (ps_for PassesOwn.never rfl (pi_enum (by rfl) T.bt.enumerate (pa_cons (pe_call (E := E0) GJ (hr.mono (by decide)) (by rfl) T.Join.g T.Join.F.kp T.Join.b .nil pass0 (pa_cons (pv 4) (pa_cons (pv 5) pa_nil))) pa_nil)) (pg_tup rfl (pgs_cons (pg_name (i := 9) scLapInit.nd rfl (.inl rfl)) (pgs_cons (pg_name (i := 10) scLapInit.nd rfl (.inl rfl)) pgs_nil)))
      (pss_cons (ps_expr (pe_bm PySem.F.plainAttrs_list PySem.F.slot_list_append PySem.F.type_list_append mt_append (pe_ix ix_list (pe_fld (pv 0) rfl) (pv 10) (fun _ _ => rfl)) (pa_cons (pv 9) pa_nil)))
      (pss_one (ps_expr (pe_bm PySem.F.plainAttrs_list PySem.F.slot_list_append PySem.F.type_list_append mt_append (pe_ix ix_list (pe_fld (pv 0) rfl) (pv 10) (fun _ _ => rfl)) (pa_cons (pe_dget1 hu (pv 8) (pv 10) ⟨rfl, rfl, rfl, rfl⟩) pa_nil))))))))))
      (pss_one (ps_fld (pv 0) (pe_callTy call_tuple_of (by rfl) T.bt.tuple b_tuple (pa_cons (pe_lc (own := [("row", 14)]) (g := gName 14) (tt := tYes) (te := tOp (rIxL K) (tVar 14) (tUn (rU fun i => .int (-i)) (tC (.int 1)))) rfl scLapInit.nd (pi_list (pe_fld (pv 0) rfl)) (blkOk_by (N := nLi) (sc := defScope sLapInit) (by decide +kernel)) (fun _ _ _ _ _ => pg_name (i := 14) scLapInit.nd rfl (Or.inl rfl)) (fun _ _ _ _ _ => pts_nil) (fun _ _ _ _ _ => pe_ix ix_list (pv 14) (pe_un un_neg pe_int) (fun _ _ => rfl))) pa_nil)) rfl)))))))), ?_⟩
    have hN := hv.num
    have hz12 := hv.z1
    have hr6 := hv.r1
    have b62 : (1000 : Int) < 2 ^ 62 := by decide
    obtain ⟨l1, l60⟩ := lc_le hv.r2
    obtain ⟨a, b, hpt, ha, hb⟩ := hp.ex
    -- length
    refine ⟨.ref p, rfl, p, _, 1, .ref b, rfl, rfl, hpt, rfl, b, rs, rfl, hb, hv.r2, fun H1 sm1 => ?_⟩
    refine ⟨.ref x, rfl, x, T.CLap, dx, _, rfl, sm1 _ _ hx, T.lap.c, T.lap.n1, (by show 0 < 1000; decide), ?_⟩
    have o2 : Ox x H (upd H1 x (.ins T.CLap dx (fL1 rs))) := ((Ox.refl x H).then sm1).put _
    have x2 : (upd H1 x (.ins T.CLap dx (fL1 rs))) x = some (.ins T.CLap dx (fL1 rs)) := upd_same
    generalize upd H1 x (.ins T.CLap dx (fL1 rs)) = H2 at o2 x2 ⊢
    clear sm1
    -- origins
    refine ⟨.ref p, rfl, p, zs, rs, rfl, plan_sq hp (sqT_ox hx o2), fun z hz => (hv.z2 z hz).1, (rs.length + sumN zs : Nat), rfl, ⟨by omega, by omega, by omega, by omega, by omega⟩, fun oc hoc => ?_⟩
    rw [rgV_iN]
    have ocx : oc ≠ x := fun z => by rw [z, x2] at hoc; cases hoc
    have o3 : Ox x H (upd H2 oc (.lst ((iN (List.range (rs.length + sumN zs))).map V.int))) := o2.then (same_upd hoc)
    have x3 : (upd H2 oc (.lst ((iN (List.range (rs.length + sumN zs))).map V.int))) x = some (.ins T.CLap dx (fL1 rs)) := by rw [upd_ne (Ne.symm ocx)]; exact x2
    have k3 : (upd H2 oc (.lst ((iN (List.range (rs.length + sumN zs))).map V.int))) oc = some (.lst ((iN (List.range (rs.length + sumN zs))).map V.int)) := upd_same
    generalize upd H2 oc (.lst ((iN (List.range (rs.length + sumN zs))).map V.int)) = H3 at o3 x3 k3 ⊢
    have il : (iN (List.range (rs.length + sumN zs))).length = rs.length + sumN zs := by unfold iN; rw [List.length_map, List.length_range]
    -- stops
    refine ⟨.ref oc, rfl, oc, rfl, ⟨_, .inl (.inl k3)⟩, fun st hst => lc_list (xs := (iN (List.range (rs.length + sumN zs))).map V.int) (fun i H' => RI H3 H' st ((List.range i).map fun j => [V.int (j : Nat)])) (RI.start hst)
      (fun i H' _ h => .inl (.inl (h.1 _ _ k3))) (fun i y H' hy h => ?_) (fun H4 ⟨sm4, srw, ks, sr, nd1, hsr⟩ => ?_)⟩
    · rw [iN_V] at hy
      obtain ⟨hi, rfl⟩ := vN_lt hy
      rw [List.length_range] at hi
      rw [range_ap hi]
      refine ⟨rfl, yes_go ⟨.int (i : Nat), rfl, (by show 1 ≤ sizeLine; decide), fun l hl => ?_⟩⟩
      obtain ⟨acc, q1, q2, q3⟩ := h.turn (s := [V.int (i : Nat)]) hst hl (by rw [List.length_map, List.length_range]; omega)
      exact ⟨acc, q1, q2, by rw [List.range_succ (n := i), List.map_append]; exact q3⟩
    rw [List.length_map, il] at sr
    have x4 := sm4 _ _ x3
    have k4 := sm4 _ _ k3
    refine ⟨.ref x, rfl, x, T.CLap, dx, _, rfl, x4, T.lap.c, T.lap.n2, (Nat.lt_of_le_of_lt (length_putF _ _ _) (by show 0 + 1 < 1000; decide)), ?_⟩
    have srx : ∀ q ∈ srw, q ≠ x := fun q hq z => by
      have := (hsr q hq).1
      rw [z, x3] at this
      cases this
    have stx : st ≠ x := fun z => by rw [z, x3] at hst; cases hst
    have o5 : Ox x H (upd H4 x (.ins T.CLap dx (fL2 rs st))) := (o3.then sm4).put _
    have x5 : (upd H4 x (.ins T.CLap dx (fL2 rs st))) x = some (.ins T.CLap dx (fL2 rs st)) := upd_same
    have k5 : (upd H4 x (.ins T.CLap dx (fL2 rs st))) oc = some (.lst ((iN (List.range (rs.length + sumN zs))).map V.int)) := by rw [upd_ne ocx]; exact k4
    have s5 : (upd H4 x (.ins T.CLap dx (fL2 rs st))) st = some (.lst (srw.map V.ref)) := by rw [upd_ne stx]; exact ks
    have r5 : RowV (upd H4 x (.ins T.CLap dx (fL2 rs st))) srw ((List.range (rs.length + sumN zs)).map fun j => [V.int (j : Nat)]) := rowV_imp (fun q hq o ho => by rw [upd_ne (srx q hq)]; exact ho) sr
    generalize upd H4 x (.ins T.CLap dx (fL2 rs st)) = H5 at o5 x5 k5 s5 r5 ⊢
    have f1 : ∀ q ∈ srw, H q = none := fun q hq => o3.free x3 (hsr q hq).1
    -- lefts
    refine ⟨.ref oc, rfl, oc, rfl, ⟨_, .inl (.inl k5)⟩, fun le hle => lc_list (xs := (iN (List.range (rs.length + sumN zs))).map V.int) (fun i H' => RI H5 H' le ((List.range i).map fun _ => [])) (RI.start hle)
      (fun i H' _ h => .inl (.inl (h.1 _ _ k5))) (fun i y H' hy h => ?_) (fun H6 ⟨sm6, lrw, kl, lr, nd2, hlr⟩ => ?_)⟩
    · have hi := (List.getElem?_eq_some_iff.mp hy).1
      rw [List.length_map, il] at hi
      refine ⟨rfl, yes_go ⟨Nat.zero_le _, fun l hl => ?_⟩⟩
      obtain ⟨acc, q1, q2, q3⟩ := h.turn (s := []) hle hl (by rw [List.length_map, List.length_range]; omega)
      exact ⟨acc, q1, q2, by rw [List.range_succ (n := i), List.map_append]; exact q3⟩
    rw [List.length_map, il] at lr
    have x6 := sm6 _ _ x5
    refine ⟨.ref x, rfl, x, T.CLap, dx, _, rfl, x6, T.lap.c, T.lap.n3, Nat.lt_of_le_of_lt (fl2 rs st) (by decide), ?_⟩
    have lrx : ∀ q ∈ lrw, q ≠ x := fun q hq z => by
      have := (hlr q hq).1
      rw [z, x5] at this
      cases this
    have lex : le ≠ x := fun z => by rw [z, x5] at hle; cases hle
    have o7 : Ox x H (upd H6 x (.ins T.CLap dx (fL3 rs st le))) := (o5.then sm6).put _
    have b7 : LB H (upd H6 x (.ins T.CLap dx (fL3 rs st le))) x dx T.CLap st le (fL3 rs st le) srw lrw (stopsV rs.length zs rs t 0) (leftsV rs.length zs rs t 0) := by
      refine ⟨o7, upd_same, by rw [upd_ne stx]; exact sm6 _ _ s5, by rw [upd_ne lex]; exact kl, ?_, ?_⟩
      · have e : stopsV rs.length zs rs t 0 = (List.range (rs.length + sumN zs)).map fun j => [V.int (j : Nat)] := by
          unfold stopsV
          refine List.map_congr_left fun o ho => ?_
          show [V.int (ap (fwd rs.length zs rs t 0) o : Nat)] = _
          rw [fwd_zero, range_ap (List.mem_range.mp ho)]
        rw [e]
        exact rowV_imp (fun q hq o ho => by rw [upd_ne (srx q hq)]; exact sm6 _ _ ho) r5
      · exact rowV_imp (fun q hq o ho => by rw [upd_ne (lrx q hq)]; exact ho) lr
    have n7 : LN H st le srw lrw := by
      refine ⟨nd1, nd2, fun q hq hq2 => ?_, fun m => (hsr _ m).2 rfl, fun m => ?_, fun m => ?_, fun m => (hlr _ m).2 rfl, f1, fun q hq => o5.free x5 (hlr q hq).1⟩
      · obtain ⟨xs, e⟩ := rowV_mem r5 hq
        rw [(hlr q hq2).1] at e
        cases e
      · have := (hlr _ m).1
        rw [s5] at this
        cases this
      · obtain ⟨xs, e⟩ := rowV_mem r5 m
        rw [hle] at e
        cases e
    have k7 : (upd H6 x (.ins T.CLap dx (fL3 rs st le))) oc = some (.lst ((iN (List.range (rs.length + sumN zs))).map V.int)) := by rw [upd_ne ocx]; exact sm6 _ _ k5
    generalize upd H6 x (.ins T.CLap dx (fL3 rs st le)) = H7 at b7 k7 o7 ⊢
    -- the layout
    refine ⟨.ref p, rfl, .ref oc, rfl, p, oc, zs, rs, iN (List.range (rs.length + sumN zs)), rfl, plan_sq hp (sqT_ox hx o7), .inl (.inl k7), hv.z2, hv.z1.2, hv.r1.2, by omega, fun H8 tp ca sh sm8 ht lay => ?_⟩
    have el : spl rs.length zs (iN (List.range (rs.length + sumN zs))) = iL (run rs t 0 (idx rs.length zs)) := spl_iN _ _ _
    have lay0 : LayT K H8 ca sh (iL (run rs t 0 (idx rs.length zs))).1 (iL (run rs t 0 (idx rs.length zs))).2 := by
      rw [← el]
      exact lay.t
    refine ⟨tp, [.ref ca, .ref sh], rfl, .inl (.inl ht), rfl, _, _, rfl, _, _, rfl, rfl, ?_⟩
    have b8 := b7.same sm8
    refine ⟨.ref x, rfl, x, T.CLap, dx, _, _, rfl, b8.x, T.lap.c, T.lap.n1, lk3_length rs st le, (lc rs : Nat), rfl, by omega, by omega, ?_⟩
    rw [Int.toNat_natCast]
    refine for_range (lo := 0) (n := lc rs) (fun i σ H' => (∃ ca' sh' y6 y7 y8 y9 y10 y11 y12 y13 y14, σ = [some (.ref x), some (.ref p), some (.int t), some (.ref oc), some (.ref ca'), some (.ref sh'), y6, y7, y8, y9, y10, y11, y12, y13, y14] ∧ LayT K H' ca' sh' (iL (run rs t i (idx rs.length zs))).1 (iL (run rs t i (idx rs.length zs))).2) ∧
        LB H H' x dx T.CLap st le (fL3 rs st le) srw lrw (stopsV rs.length zs rs t i) (leftsV rs.length zs rs t i))
      ⟨⟨_, _, _, _, _, _, _, _, _, _, _, rfl, lay0⟩, b8⟩ (fun i σ H' hi ⟨⟨ca', sh', y6, y7, y8, y9, y10, y11, y12, y13, y14, es, hl⟩, bi⟩ => ?_) (fun σ H9 ⟨⟨ca', sh', y6, y7, y8, y9, y10, y11, y12, y13, y14, es, hl⟩, b9⟩ => ?_)
    · subst es
      have hfi : Fits rs.length zs (iL (run rs t i (idx rs.length zs))) := by
        rw [← run_iL]
        have e0 : iL (idx rs.length zs) = spl rs.length zs (iN (List.range (rs.length + sumN zs))) := (spl_iN _ _ _).symm
        rw [e0]
        exact run_fits _ _ _ (spl_fits il)
      refine ⟨.ref p, rfl, .int t, rfl, .int (0 + (i : Nat)), rfl, t, _, rfl, rfl, _, 1, rfl, rfl, .ref ca', rfl, .ref sh', rfl, p, ca', sh', _, zs, rs, iL (run rs t i (idx rs.length zs)), rfl, plan_sq hp (sqT_ox hx bi.o), hv, hl, hfi, fun H4 tq c' s' xe sm4 ht4 lay4 tl4 hx4 => ?_⟩
      have en : t + (0 + (i : Int)) + 1 - 1 = t + (i : Nat) := by omega
      rw [en] at lay4 tl4
      have es : tickL rs (t + (i : Nat)) (iL (run rs t i (idx rs.length zs))) = iL (run rs t (i + 1) (idx rs.length zs)) := by
        rw [← run_iL, ← run_iL]
        rfl
      rw [es] at lay4
      refine ⟨tq, _, rfl, .inl (.inl ht4), rfl, _, _, rfl, _, _, rfl, _, _, rfl, rfl, ?_⟩
      have b4 := bi.same sm4
      clear bi sm4
      -- who is left where
      obtain ⟨ps, kx, tv⟩ := tl4.ex
      have hpl := tupsV_len tv
      refine ⟨.ref xe, rfl, xe, rfl, ⟨_, .inl (.inl kx)⟩, fun D hD => dc_list (xs := ps.map V.ref) (fun k H' => Same H4 H' ∧ ∃ kvs : List (Key × V), H' D = some (.dK kvs) ∧ kvs.length ≤ k ∧ ∀ z : Int, (valV kvs (Sum.inl z : Key)).getD .non = lefN (vis rs (t + (i : Nat))) (iL (run rs t i (idx rs.length zs))) z k)
        ⟨same_upd hD, [], upd_same, Nat.le_refl _, fun z => rfl⟩ (fun k H' _ h => .inl (.inl (h.1 _ _ kx))) (fun k y H' hy ⟨sm, kvs, kd, kl, kv⟩ => ?_) (fun H5 ⟨sm5, kvs, kd, kl, kv⟩ => ?_)⟩
      · obtain ⟨U, hU, rfl⟩ := refs_lt hy
        obtain ⟨t0, ht0, hUt⟩ := tupsV_at (tupsV_same sm tv) hU
        obtain ⟨pr, hpr, rfl⟩ := exL_at ht0
        have hk := (List.getElem?_eq_some_iff.mp hpr).1
        have hvl := vis_len rs (t + (i : Nat))
        refine ⟨U, _, rfl, .inl (.inl hUt), rfl, _, _, rfl, _, _, rfl, _, _, rfl, _, _, rfl, rfl, ?_⟩
        exact ⟨rfl, yes_go ⟨_, rfl, _, rfl, kvs, Sum.inl _, rfl, kd, small1000 (by omega), same_of sm hD, _, upd_same, Nat.le_trans (length_putK _ _ _) (Nat.succ_le_succ kl), fun z => valV_lefN hpr kv z⟩⟩
      have b5 := b4.same sm5
      have lay5 := lay4.same sm5
      have kv5 : ∀ z : Int, (valV kvs (Sum.inl z : Key)).getD .non = lefV (vis rs (t + (i : Nat))) (iL (run rs t i (idx rs.length zs))) z := fun z => by
        rw [kv z, List.length_map, hpl]
        unfold lefV exL
        rw [exN_full _ _ _ (Nat.le_refl _)]
      clear b4 lay4 kv
      -- the places
      have ol := org_len rs.length zs rs t (i + 1)
      have oe := org_eff rs.length zs rs t (i + 1)
      have ej : (iL (run rs t (i + 1) (idx rs.length zs))).1 ++ (iL (run rs t (i + 1) (idx rs.length zs))).2.flatten = iN (org rs.length zs rs t (i + 1)) := join_map _ _
      refine ⟨.ref c', rfl, .ref s', rfl, c', s', _, _, rfl, lay5, ?_, fun H6 f sm6 hf6 kf6 => ?_⟩
      · rw [← List.length_append, ej]
        unfold iN
        rw [List.length_map, ol]
        omega
      rw [ej, iN_V] at kf6
      have b6 := b5.same sm6
      have lay6 := lay5.same sm6
      have kd6 := sm6 _ _ kd
      have f1' : f ∉ srw := rowV_free b5.sr hf6
      have f2' : f ∉ lrw := rowV_free b5.lr hf6
      generalize hom : org rs.length zs rs t (i + 1) = om at ol oe kf6
      have hfw : fwd rs.length zs rs t (i + 1) = inv om := by
        unfold fwd
        rw [hom]
      clear b5 lay5 kd
      refine ⟨f, vN om, rfl, .inl (.inl kf6), for_enumL (xs := vN om) (fun m σ H' => (∃ y9 y10 y11 y12 y13 y14, σ = [some (.ref x), some (.ref p), some (.int t), some (.ref oc), some (.ref c'), some (.ref s'), some (.int (0 + (i : Nat))), some (.ref xe), some (.ref D), y9, y10, y11, y12, y13, y14]) ∧
          LayT K H' c' s' (iL (run rs t (i + 1) (idx rs.length zs))).1 (iL (run rs t (i + 1) (idx rs.length zs))).2 ∧ H' f = some (.lst (vN om)) ∧ H' D = some (.dK kvs) ∧
          LB H H' x dx T.CLap st le (fL3 rs st le) srw lrw (midV (rs.length + sumN zs) (stopV rs.length zs rs t i) (stopV rs.length zs rs t (i + 1)) (om.take m)) (midV (rs.length + sumN zs) (leftV rs.length zs rs t i) (leftV rs.length zs rs t (i + 1)) (om.take m)))
        ⟨⟨_, _, _, _, _, _, rfl⟩, lay6, kf6, kd6, by rw [List.take_zero, midV_nil, midV_nil]; exact b6⟩ (fun m σ H' _ h => .inl (.inl h.2.2.1)) (fun m y σ H' U hy ⟨⟨y9, y10, y11, y12, y13, y14, es⟩, la, kf, kd, bm⟩ hU => ?_) (fun σ H' ⟨⟨y9, y10, y11, y12, y13, y14, es⟩, la, kf, kd, bm⟩ => ?_)⟩
      · subst es
        obtain ⟨hm, rfl⟩ := vN_lt hy
        have smU : Same H' (upd H' U (.tup [.int (m : Nat), .int (ap om m : Nat)])) := same_upd hU
        refine ⟨U, [.int (m : Nat), .int (ap om m : Nat)], rfl, .inl (.inl upd_same), rfl, _, _, rfl, _, _, rfl, rfl, ?_⟩
        have bu := bm.same smU
        have lu := la.same smU
        have ku := smU _ _ kf
        have du := smU _ _ kd
        generalize upd H' U (.tup [.int (m : Nat), .int (ap om m : Nat)]) = H7 at bu lu ku du ⊢
        clear bm la kf kd smU
        have hsl := rowV_len bu.sr
        have hll := rowV_len bu.lr
        rw [midV_len] at hsl hll
        have ho : ap om m < rs.length + sumN zs := by
          have := ap_lt oe hm
          omega
        have onot : ap om m ∉ om.take m := fun z => by
          obtain ⟨j, hj⟩ := List.mem_iff_getElem?.mp z
          have hjm : j < m := by
            have := (List.getElem?_eq_some_iff.mp hj).1
            rw [List.length_take] at this
            omega
          rw [List.getElem?_take, if_pos hjm, ap_at (by omega)] at hj
          have := ap_inj oe (by omega) hm (Option.some.inj hj)
          omega
        have etk : om.take (m + 1) = om.take m ++ [ap om m] := by
          rw [List.take_add_one, ap_at hm]
          rfl
        have eback : ap (fwd rs.length zs rs t (i + 1)) (ap om m) = m := by
          rw [hfw]
          exact inv_ap oe hm
        have hvl := vis_len rs (t + (i : Nat))
        generalize hoo : ap om m = o at ho onot etk eback ⊢
        -- stops
        obtain ⟨q1, hq1⟩ : ∃ q1, srw[o]? = some q1 := ⟨_, List.getElem?_eq_getElem (by omega)⟩
        obtain ⟨q2, hq2⟩ : ∃ q2, lrw[o]? = some q2 := ⟨_, List.getElem?_eq_getElem (by omega)⟩
        obtain ⟨s1, es1, kq1⟩ := rowV_at bu.sr hq1
        rw [midV_at ho, if_neg onot] at es1
        obtain rfl := Option.some.inj es1
        have hV1 : (srw.map V.ref)[o]? = some (.ref q1) := by rw [List.getElem?_map, hq1]; rfl
        have hV2 : (lrw.map V.ref)[o]? = some (.ref q2) := by rw [List.getElem?_map, hq2]; rfl
        refine ⟨.ref x, rfl, x, T.CLap, dx, _, .ref st, rfl, bu.x, T.lap.c, T.lap.n2, lk3_stops rs st le, .int (o : Nat), rfl, st, _, _, .ref q1, rfl, rfl, .inl (.inl bu.s), atI_nat hV1, .inl ⟨rfl, _, .inl (.inl kq1)⟩, .int (m : Nat), rfl, q1, _, _, rfl, rfl, kq1, small1000 (by rw [stopV_len]; omega), ?_⟩
        have e1 : stopV rs.length zs rs t i o ++ [V.int (m : Nat)] = stopV rs.length zs rs t (i + 1) o := by rw [stopV_succ, eback]
        rw [e1]
        have b8 := bu.put1 n7 hq1 (stopV rs.length zs rs t (i + 1) o)
        rw [midV_set ho, ← etk] at b8
        have l8 := lu.imp (sqT_ul kq1 (.lst (stopV rs.length zs rs t (i + 1) o)))
        have k8 : (upd H7 q1 (.lst (stopV rs.length zs rs t (i + 1) o))) f = some (.lst (vN om)) := by
          rw [upd_ne (fun z => f1' (by rw [z]; exact List.mem_of_getElem? hq1))]
          exact ku
        have d8 : (upd H7 q1 (.lst (stopV rs.length zs rs t (i + 1) o))) D = some (.dK kvs) := by
          rw [upd_ne (fun z => by rw [z, kq1] at du; cases du)]
          exact du
        generalize upd H7 q1 (.lst (stopV rs.length zs rs t (i + 1) o)) = H8 at b8 l8 k8 d8 ⊢
        -- lefts
        obtain ⟨s2, es2, kq2⟩ := rowV_at b8.lr hq2
        rw [midV_at ho, if_neg onot] at es2
        obtain rfl := Option.some.inj es2
        refine ⟨.ref x, rfl, x, T.CLap, dx, _, .ref le, rfl, b8.x, T.lap.c, T.lap.n3, lk3_lefts rs st le, .int (o : Nat), rfl, le, _, _, .ref q2, rfl, rfl, .inl (.inl b8.l), atI_nat hV2, .inl ⟨rfl, _, .inl (.inl kq2)⟩,
          .ref D, rfl, D, rfl, .inl ⟨kvs, .inl d8⟩, .int (o : Nat), rfl, _, DGet.k (k := Sum.inl (o : Int)) d8, q2, _, _, rfl, rfl, kq2, small1000 (by rw [leftV_len]; omega), ?_⟩
        have e2 : leftV rs.length zs rs t i o ++ [(valV kvs (Sum.inl (o : Int) : Key)).getD .non] = leftV rs.length zs rs t (i + 1) o := by rw [leftV_succ, kv5]
        rw [e2]
        have b9 := b8.put2 n7 hq2 (leftV rs.length zs rs t (i + 1) o)
        rw [midV_set ho, ← etk] at b9
        refine ⟨⟨_, _, _, _, _, _, rfl⟩, l8.imp (sqT_ul kq2 _), ?_, ?_, b9⟩
        · rw [upd_ne (fun z => f2' (by rw [z]; exact List.mem_of_getElem? hq2))]
          exact k8
        · rw [upd_ne (fun z => by rw [z, kq2] at d8; cases d8)]
          exact d8
      · subst es
        rw [vN_len, List.take_length, midV_all (fun o ho => eff_all oe (by omega)), midV_all (fun o ho => eff_all oe (by omega))] at bm
        exact ⟨⟨_, _, _, _, _, _, _, _, _, _, _, rfl, la⟩, bm⟩
    · subst es
      have wl := wh_len rs.length zs rs t
      obtain ⟨l', hl'⟩ : ∃ l', lc rs = l' + 1 := ⟨lc rs - 1, by omega⟩
      have hsl := rowV_len b9.sr
      have esl : (stopsV rs.length zs rs t (lc rs)).length = rs.length + sumN zs := by unfold stopsV; rw [List.length_map, List.length_range]
      rw [esl] at hsl
      refine ⟨.ref x, rfl, x, T.CLap, dx, _, .ref st, rfl, b9.x, T.lap.c, T.lap.n2, lk3_stops rs st le, st, rfl, ⟨_, .inl (.inl b9.s)⟩, fun D hD => lc_list (xs := srw.map V.ref) (fun k H' => Same H9 H' ∧ H' D = some (.lst (vN ((wh rs.length zs rs t).take k)))) ⟨same_upd hD, upd_same⟩
        (fun k H' _ h => .inl (.inl (h.1 _ _ b9.s))) (fun k y H' hy ⟨sm, kD⟩ => ?_) (fun H' ⟨sm, kD⟩ => ?_)⟩
      · obtain ⟨q1, hq1, rfl⟩ := refs_lt hy
        obtain ⟨s1, es1, kq1⟩ := rowV_at (rowV_imp (fun q _ o ho => sm _ _ ho) b9.sr) hq1
        have hk := (List.getElem?_eq_some_iff.mp hq1).1
        unfold stopsV at es1
        rw [List.getElem?_map, List.getElem?_range (by omega)] at es1
        obtain rfl := Option.some.inj es1
        have e1 : stopV rs.length zs rs t (lc rs) k = stopV rs.length zs rs t l' k ++ [.int (ap (wh rs.length zs rs t) k : Nat)] := by
          unfold wh
          rw [hl', stopV_succ]
        rw [e1] at kq1
        refine ⟨rfl, yes_go ⟨.ref q1, rfl, 1, rfl, q1, _, _, _, rfl, rfl, .inl (.inl kq1), atI_last _ _, _, kD, ?_, same_of sm hD, ?_⟩⟩
        · rw [vN_len, List.length_take]
          exact small1000 (by omega)
        · rw [upd_same, vN_snoc (by omega)]
      · rw [List.length_map, hsl, ← wl, List.take_length] at kD
        refine ⟨D, _, rfl, .inl ⟨.inl (.inl kD), fun ef hef => ?_⟩⟩
        have bA := b9.same (sm.trans (same_upd (o := .tup (vN (wh rs.length zs rs t))) hef))
        have kE : (upd H' ef (.tup (vN (wh rs.length zs rs t)))) ef = some (.tup (vN (wh rs.length zs rs t))) := upd_same
        generalize upd H' ef (.tup (vN (wh rs.length zs rs t))) = HA at bA kE ⊢
        refine ⟨.ref x, rfl, x, T.CLap, dx, _, rfl, bA.x, T.lap.c, T.lap.n4, Nat.lt_of_le_of_lt (fl3 rs st le) (by decide), ?_⟩
        have nx : ∀ q, (∃ xs, HA q = some (.lst xs)) → q ≠ x := fun q ⟨xs, h⟩ z => by
          rw [z, bA.x] at h
          cases h
        refine q _ (bA.o.put _) ⟨dx, st, le, ef, fL4 rs st le ef, srw, lrw, upd_same, ?_, ?_, ?_, lk_same _ _ _, ?_, ?_, ?_, ?_, ?_⟩
        · rw [lk_ne (by decide)]
          exact lk3_length rs st le
        · rw [lk_ne (by decide)]
          exact lk3_stops rs st le
        · rw [lk_ne (by decide)]
          exact lk3_lefts rs st le
        · rw [upd_ne (nx st ⟨_, bA.s⟩)]
          exact bA.s
        · exact rowV_imp (fun r hr o ho => by rw [upd_ne (nx r (rowV_mem bA.sr hr))]; exact ho) bA.sr
        · rw [upd_ne (nx le ⟨_, bA.l⟩)]
          exact bA.l
        · exact rowV_imp (fun r hr o ho => by rw [upd_ne (nx r (rowV_mem bA.lr hr))]; exact ho) bA.lr
        · rw [upd_ne (fun z => by rw [z, bA.x] at kE; cases kE)]
          exact kE
end
end Sv
set_option maxHeartbeats 4000000
namespace Sv
open PySem PySem.Spec PyProof.Rows L2
section
variable {P : Program} {w : World} {K : PySem.W.Frag} {mg : Str → Option Value} {base : Heap}
def nEt : List Str := ["plan", "time", "count", "lap", "laps", "rest", "place"]
theorem scEffectTicks : FnScope nEt ["plan", "time", "count"] (defScope sEffectTicks) := ⟨rfl, rfl, rfl, by decide +kernel, rfl, by decide +kernel, by decide +kernel⟩
theorem NewT.imp {H H1 : Hp} {g : List Nat} {Q : VK} (h : NewT H g Q) (e : Same H H1) : NewT H1 g Q := fun H' p sm hp hq => h H' p (e.trans sm) (Same.free e hp) hq
theorem same_make {H H' : Hp} {x dx C : Addr} {fs : List (Str × V)} (n1 : H x = none) (n2 : H dx = none) (o : Ox x (upd (upd H dx (.own x)) x (.ins C dx fs)) H') : Same H H' := fun b u e => by
  have h1 := ne_of_none e n1
  have h2 := ne_of_none e n2
  exact o b u h1 (by rw [upd_ne h1, upd_ne h2]; exact e)
/-- a new effect that is known to have no attributes of its own -/
def NewF (H : Hp) (g : List Nat) (Q : VK) : Prop := ∀ H' p o, Same H H' → H p = none → H' p = some (.frz o (.tup (vN g))) → o.dict = none → Q (.ref p) H'
theorem NewF.imp {H H1 : Hp} {g : List Nat} {Q : VK} (h : NewF H g Q) (e : Same H H1) : NewF H1 g Q := fun H' p o sm hp hq hd => h H' p o (e.trans sm) (Same.free e hp) hq hd
def spEffectTicks (K : PySem.W.Frag) : Sp := fun vs H Q _ => ∃ (p : Addr) (t c : Int) (zs : List Int) (rs : List Ro), vs = [.ref p, .int t, .int c] ∧ PlanAt K H p zs rs ∧ Val zs rs ∧ (NewT H (effT rs.length zs rs t c) Q ∨ NewF H (effT rs.length zs rs t c) Q)
theorem ok_effectTicks (T : Bd P K mg) : FnOk P w K mg base CX0 5 T.aEffectTicks T.dEffectTicks ["plan", "time", "count"] (spEffectTicks K) := by
  have GI : FnOk P w K mg base CX0 3 T.aLap T.dLap ["self", "plan", "time"] (spLapInit K T.CLap) := ok_lapInit T
  have GR : FnOk P w K mg base CX0 3 T.aRepeated T.dRepeated ["effect", "count"] (spRepeated K) := ok_repeated T
  refine T.EffectTicks.F.ok scEffectTicks (fun vs H Q E h => ?_) (fun cdv A outer s H vs Q E hr h => ?_)
  · obtain ⟨p, t, c, zs, rs, rfl, _⟩ := h
    rfl
  · obtain ⟨p, t, c, zs, rs, rfl, hp, hv, q⟩ := h
    refine ⟨_, (pss_cons (ps_set (i := 3) scEffectTicks.nd rfl (Or.inr rfl) (pe_make T.lap.m GI hr (by rfl) T.lap.g T.lap.b .nil pass0 (pa_cons (pv 0) (pa_cons (pv 1) pa_nil))))
      (pss_cons (ps_asg (pe_callB call_divmod (by rfl) T.bt.divmod (by decide +kernel) (pa_cons (pv 2) (pa_cons (pe_fld (pv 3) rfl) pa_nil))) (pg_tup rfl (pgs_cons (pg_name (i := 4) scEffectTicks.nd rfl (.inl rfl)) (pgs_cons (pg_name (i := 5) scEffectTicks.nd rfl (.inr rfl)) pgs_nil))))
      (pss_one (ps_ret (pe_callTy mk_tupF (by rfl) T.bt.tuple b_tuple (pa_cons (pe_lc (own := [("place", 6)]) (g := gName 6) (tt := tYes) (te := tOp (rIxL K) (tOp (rIxL K) (tFld K (tVar 3) "stops") (tVar 6)) (tVar 5)) rfl scEffectTicks.nd (pi_tup (pe_call (E := E0) GR (hr.mono (by decide)) (by rfl) T.Repeated.g T.Repeated.F.kp T.Repeated.b .nil pass0 (pa_cons (pe_fld (pv 3) rfl) (pa_cons (pv 4) pa_nil)))) (blkOk_by (N := nEt) (sc := defScope sEffectTicks) (by decide +kernel)) (fun _ _ _ _ _ => pg_name (i := 6) scEffectTicks.nd rfl (Or.inl rfl)) (fun _ _ _ _ _ => pts_nil) (fun _ _ _ _ _ => pe_ix ix_list (pe_ix ix_list (pe_fld (pv 3) rfl) (pv 6) (fun _ _ => rfl)) (pv 5) (fun _ _ => rfl))) pa_nil)))))), ?_⟩
    have hN := hv.num
    obtain ⟨l1, l60⟩ := lc_le hv.r2
    refine ⟨.ref p, rfl, .int t, rfl, fun la dl n1 n2 ne => ⟨la, dl, p, t, zs, rs, rfl, upd_same, hp.same (same_of (same_upd n2) n1), hv, fun H1 o lap => ⟨rfl, ?_⟩⟩⟩
    have sm1 := same_make n1 n2 o
    obtain ⟨dx, st, le, ef, fs, srw, lrw, h1, h2, h3, h4, h5, h6, h7, h8, h9, h10⟩ := lap.ex
    refine ⟨.int c, rfl, .ref la, rfl, la, T.CLap, dx, fs, _, rfl, h1, T.lap.c, T.lap.n1, h2, c, (lc rs : Nat), rfl, ⟨by omega, by omega⟩, fun tp htp => ?_⟩
    have sm2 : Same H1 (upd H1 tp (.tup [.int (c / (lc rs : Nat)), .int (c % (lc rs : Nat))])) := same_upd htp
    have k3 : (upd H1 tp (.tup [.int (c / (lc rs : Nat)), .int (c % (lc rs : Nat))])) tp = some (.tup [.int (c / (lc rs : Nat)), .int (c % (lc rs : Nat))]) := upd_same
    generalize upd H1 tp (.tup [.int (c / (lc rs : Nat)), .int (c % (lc rs : Nat))]) = H3 at sm2 k3 ⊢
    refine ⟨tp, _, rfl, .inl (.inl k3), rfl, _, _, rfl, _, _, rfl, rfl, ?_⟩
    have wl := wh_len rs.length zs rs t
    have m0 := Int.emod_nonneg c (show ((lc rs : Nat) : Int) ≠ 0 by omega)
    have m1 := Int.emod_lt_of_pos c (show (0 : Int) < ((lc rs : Nat) : Int) by omega)
    obtain ⟨r, hr1⟩ : ∃ r : Nat, c % ((lc rs : Nat) : Int) = (r : Int) := ⟨_, (Int.toNat_of_nonneg m0).symm⟩
    refine ⟨.ref la, rfl, la, T.CLap, dx, fs, _, rfl, sm2 _ _ h1, T.lap.c, T.lap.n4, h5, .int (c / (lc rs : Nat)), rfl, ef, wh rs.length zs rs t, c / (lc rs : Nat), rfl, .inl (.inl (sm2 _ _ h10)), wh_eff .., by omega, fun H4 w1 sm4 nw1 kw1 => ?_⟩
    have smA := sm2.trans sm4
    have ee : effT rs.length zs rs t c = comp (rep (wh rs.length zs rs t) (c / (lc rs : Nat))) (fwd rs.length zs rs t r) := by
      unfold effT
      rw [hr1, Int.toNat_natCast]
    have rl := rep_len (wh rs.length zs rs t) (c / (lc rs : Nat))
    have re := rep_eff (wh_eff rs.length zs rs t) (c / (lc rs : Nat))
    have hsl := rowV_len h7
    have esl : (stopsV rs.length zs rs t (lc rs)).length = rs.length + sumN zs := by unfold stopsV; rw [List.length_map, List.length_range]
    have eln := effT_len rs.length zs rs t c
    rw [hr1]
    refine ⟨w1, rfl, ⟨_, .inl (.inl kw1)⟩, fun D hD => lc_tup (xs := vN (rep (wh rs.length zs rs t) (c / (lc rs : Nat)))) (fun k H' => Same H4 H' ∧ H' D = some (.lst (vN ((effT rs.length zs rs t c).take k)))) ⟨same_upd hD, upd_same⟩
      (fun k H' _ h => .inl (.inl (h.1 _ _ kw1))) (fun k y H' hy ⟨sm, kD⟩ => ?_) (fun H' ⟨sm, kD⟩ => ?_)⟩
    · obtain ⟨hk, rfl⟩ := vN_lt hy
      have ho := ap_lt re hk
      have smB := smA.trans sm
      generalize hoo : ap (rep (wh rs.length zs rs t) (c / (lc rs : Nat))) k = o at ho ⊢
      obtain ⟨q1, hq1⟩ : ∃ q1, srw[o]? = some q1 := ⟨_, List.getElem?_eq_getElem (by omega)⟩
      obtain ⟨s1, es1, kq1⟩ := rowV_at (rowV_imp (fun q _ o ho => smB _ _ ho) h7) hq1
      unfold stopsV at es1
      rw [List.getElem?_map, List.getElem?_range (by omega)] at es1
      obtain rfl := Option.some.inj es1
      have hV : (srw.map V.ref)[o]? = some (.ref q1) := by rw [List.getElem?_map, hq1]; rfl
      have hS : (stopV rs.length zs rs t (lc rs) o)[r]? = some (.int (ap (fwd rs.length zs rs t r) o : Nat)) := by
        unfold stopV
        rw [List.getElem?_map, List.getElem?_range (by omega)]
        rfl
      refine ⟨rfl, yes_go ⟨.ref la, rfl, la, T.CLap, dx, fs, _, rfl, smB _ _ h1, T.lap.c, T.lap.n2, h3, .int (o : Nat), rfl, st, _, _, .ref q1, rfl, rfl, .inl (.inl (smB _ _ h6)), atI_nat hV, .int (r : Nat), rfl, q1, _, _, _, rfl, rfl, .inl (.inl kq1), atI_nat hS, _, kD, ?_, same_of sm hD, ?_⟩⟩
      · rw [vN_len, List.length_take]
        exact small1000 (by omega)
      · have e1 : ap (effT rs.length zs rs t c) k = ap (fwd rs.length zs rs t r) o := by
          rw [ee, comp_ap hk, hoo]
        rw [upd_same, vN_snoc (by omega), e1]
    · rw [vN_len, rl, wl, ← eln, List.take_length] at kD
      refine ⟨D, _, rfl, .inl (.inl kD), ?_⟩
      have smZ := (sm1.trans smA).trans sm
      rcases q with q | q
      · exact .inl fun l hl => q _ l (smZ.trans (same_upd hl)) (Same.free smZ hl) upd_same
      · exact .inr fun l o hl hd => q _ l o (smZ.trans (same_upd hl)) (Same.free smZ hl) upd_same hd
end
end Sv
set_option maxHeartbeats 4000000
namespace Sv
open PySem PySem.Spec PyProof.Rows L2
section
abbrev zmA (h : Heap) (a : Addr) : Heap := h.push { cls := .type "list_iterator", data := .fields #[.ref a, .int 0 0] }
abbrev zmB (h : Heap) (a b : Addr) : Heap := (zmA h a).push { cls := .type "tuple_iterator", data := .fields #[.ref b, .int 0 0] }
abbrev zmC (h : Heap) (a b : Addr) : Heap := (zmB h a b).push { cls := .type "tuple", data := .seq #[.ref h.objs.size, .ref (zmA h a).objs.size] }
abbrev zmD (h : Heap) (a b : Addr) : Heap := (zmC h a b).push { cls := .type "tuple", data := .seq #[.none, .none] }
abbrev zmE (h : Heap) (a b : Addr) : Heap := (zmD h a b).push { cls := .type "zip", data := .fields #[.none, .bool false, .bool false, .ref (zmB h a b).objs.size, .ref (zmC h a b).objs.size] }
theorem zm_meets (a b : Addr) (xs ys : Array Value) :
    Meets (Builtin.«zip.__new__» ⟨[.type "zip", .ref a, .ref b], []⟩) (fun _ R s => s.heap.IsList a xs ∧ s.heap.IsTuple b ys ∧ R (.ok (.ret (.ref (zmD s.heap a b).objs.size))) { s with heap := zmE s.heap a b }) :=
  .of_wp fun prog w A R s h => by
    obtain ⟨hp, g, d, tk, os⟩ := s
    obtain ⟨ha, hb, h⟩ := h
    have z1 := sub_zip
    have la : Heap.IsList (Shared.heap ⟨hp, g, d, tk, os⟩) a xs := ha
    have lb : Heap.IsTuple (Shared.heap ⟨zmA hp a, g, d, tk, os⟩) b ys := Heap.IsTuple.push hb _
    wp_walk using wpAny_pyIter_list la, wpAny_pyIter_tuple lb
    exact ⟨_, rfl, h⟩
end
section
variable {prog : Program} {w : World} {A : Around} {E : Value → Shared → Prop} {s : Shared}
theorem call_zipM {a b : Addr} {xs ys : Array Value} {Q : Value → Shared → Prop} (ha : s.heap.IsList a xs) (hb : s.heap.IsTuple b ys)
    (q : ∀ h', IsZip h' (s.heap.objs.size + 4) (s.heap.objs.size + 2) (s.heap.objs.size + 3) .none → IsTupOf2 h' (s.heap.objs.size + 2) (.ref s.heap.objs.size) (.ref (s.heap.objs.size + 1)) → IsTupOf2 h' (s.heap.objs.size + 3) .none .none →
      h'.IsListIter s.heap.objs.size a 0 → h'.IsTupleIter (s.heap.objs.size + 1) b 0 → h'.objs.size = s.heap.objs.size + 5 → (∀ c o, s.heap.get? c = some o → h'.get? c = some o) → Q (.ref (s.heap.objs.size + 4)) { s with heap := h' }) :
    wpAny (model prog w) A (call (.type "zip") [.ref a, .ref b]) Q E s := by
  refine callType_new F.called_zip (by decide) (F.typeCall_zip_2 _ _) (F.newCall_zip_2 _ _) (fun obj => F.args_object_init_3 obj _ _) F.entry_zip_new (zm_meets a b xs ys) ⟨ha, hb, ?_⟩
  have n1 : (zmA s.heap a).objs.size = s.heap.objs.size + 1 := Heap.size_push ..
  have n2 : (zmB s.heap a b).objs.size = s.heap.objs.size + 2 := by rw [Heap.size_push, n1]
  have n3 : (zmC s.heap a b).objs.size = s.heap.objs.size + 3 := by rw [Heap.size_push, n2]
  have n4 : (zmD s.heap a b).objs.size = s.heap.objs.size + 4 := by rw [Heap.size_push, n3]
  have n5 : (zmE s.heap a b).objs.size = s.heap.objs.size + 5 := by rw [Heap.size_push, n4]
  have up : ∀ {h : Heap} {c : Addr} {o : Obj} (o2 : Obj), h.get? c = some o → (h.push o2).get? c = some o := fun o2 e => Heap.get?_push_of_some _ e
  have t5 : (zmE s.heap a b).get? (zmD s.heap a b).objs.size = some _ := Heap.get?_push_size _ rfl
  have t4 : (zmE s.heap a b).get? (zmC s.heap a b).objs.size = some _ := up _ (Heap.get?_push_size _ rfl)
  have t3 : (zmE s.heap a b).get? (zmB s.heap a b).objs.size = some _ := up _ (up _ (Heap.get?_push_size _ rfl))
  have t2 : (zmE s.heap a b).get? (zmA s.heap a).objs.size = some _ := up _ (up _ (up _ (Heap.get?_push_size _ rfl)))
  have t1 : (zmE s.heap a b).get? s.heap.objs.size = some _ := up _ (up _ (up _ (up _ (Heap.get?_push_size _ rfl))))
  show _ ∧ _
  rw [n2, n3, n4] at t5
  rw [n1, n2] at t3
  rw [n3] at t4
  rw [n1] at t2
  rw [n4]
  exact ⟨⟨_, t5, rfl⟩, q _ t5 t3 t4 ⟨_, t1, rfl, rfl⟩ ⟨_, t2, rfl, rfl⟩ n5 fun c o e => up _ (up _ (up _ (up _ (up _ e))))⟩
end
/-- the list at a and the tuple at b as they stand at each turn -/
def ItzM (K : PySem.W.Frag) (a b : Addr) : It :=
  ⟨fun i H => ∃ (xs ys : List V) (x y : V), SqL K H a xs ∧ SqT K H b ys ∧ xs[i]? = some x ∧ ys[i]? = some y,
    fun i H v H' => ∃ T x y, v = .ref T ∧ H T = none ∧ H' = upd H T (.tup [x, y]) ∧ (∀ l, SqL K H a l → l[i]? = some x) ∧ ∀ l, SqT K H b l → l[i]? = some y,
    fun i H => ∃ xs ys : List V, SqL K H a xs ∧ SqT K H b ys ∧ i = xs.length ∧ i = ys.length⟩
theorem zm_sep {n a b : Nat} (ha : a < n) (hb : b < n) : ZipSep2 (n + 4) (n + 2) (n + 3) n (n + 1) [n, a] [n + 1, b] := by
  have ne : ∀ {x y : Nat}, x < y ∨ y < x → x ≠ y := fun h e => by omega
  constructor <;> first | (apply ne; omega) | (intro m; simp at m; exact ne (by omega) m) | simp
theorem turn_zipM {P : Program} {w : World} {K : PySem.W.Frag} {elts : List Expr} {kk : Nat} {tpos : Pos} {a b n : Nat} (ha : a < n) (hb : b < n) :
    Turn P w K (.Tuple elts kk tpos) (ItzM K a b) [n + 4, n + 2, n + 3, n, n + 1] (n + 4) (fun i h => IsZip h (n + 4) (n + 2) (n + 3) .none ∧ IsTupOf2 h (n + 2) (.ref n) (.ref (n + 1)) ∧ (∃ x y, IsTupOf2 h (n + 3) x y) ∧ h.IsListIter n a i ∧ h.IsTupleIter (n + 1) b i) where
  mem := by simp
  obj := fun i h st c hc => by
    obtain ⟨u1, u2, ⟨x, y, u3⟩, ⟨o1, u4, _, d1⟩, ⟨o2, u5, _, d2⟩⟩ := st
    have cs : c = n + 4 ∨ c = n + 2 ∨ c = n + 3 ∨ c = n ∨ c = n + 1 := by simpa using hc
    rcases cs with q | q | q | q | q <;> subst q
    · exact ⟨_, u1, fun v q => nomatch q⟩
    · exact ⟨_, u2, fun v q => nomatch q⟩
    · exact ⟨_, u3, fun v q => nomatch q⟩
    · exact ⟨o1, u4, fun v q => by rw [d1] at q; cases q⟩
    · exact ⟨o2, u5, fun v q => by rw [d2] at q; cases q⟩
  keep := fun i h h' st k => by
    obtain ⟨u1, u2, ⟨x, y, u3⟩, u4, u5⟩ := st
    exact ⟨k _ (by simp) _ u1, k _ (by simp) _ u2, ⟨x, y, k _ (by simp) _ u3⟩, u4.at fun o q => k _ (by simp) o q, u5.at fun o q => k _ (by simp) o q⟩
  item := by
    intro X hP hw hK hc i pins s σ H E I hf st hg
    subst hP hw hK
    obtain ⟨u1, u2, ⟨x0, y0, u3⟩, u4, u5⟩ := st
    obtain ⟨xs, ys, x, y, qx, qy, hx, hy⟩ := hg
    obtain ⟨ia, ra, pa, _⟩ := I.list qx
    obtain ⟨ib, rb, pb, _⟩ := I.tuple qy
    obtain ⟨ux, hux, rx⟩ := ra.get hx
    obtain ⟨uy, huy, ry⟩ := rb.get hy
    have la : i < ia.toArray.size := by simpa using (List.getElem?_eq_some_iff.mp hux).1
    have lb : i < ib.toArray.size := by simpa using (List.getElem?_eq_some_iff.mp huy).1
    have hh : X.A.in1.handled = none := by simpa using I.ok.hd hc
    have zl := Heap.lt_size u1
    refine wpAny_pyNext_zipD2_item (zm_sep ha hb) (Draws.list hh n a (Nat.ne_of_lt ha) ia.toArray) (Draws.tuple hh (n + 1) b (Nat.ne_of_lt (Nat.lt_succ_of_lt hb)) ib.toArray) u1 u2 u3 ⟨u4, pa.isList⟩ ⟨u5, pb⟩ la lb fun v1 v2 h' tk e1 e2 b1 b2 d1 d2 hT hsz hk => ?_
    obtain rfl : v1 = ux := by
      have z : ia.toArray[i]? = some v1 := e1
      rw [show ia.toArray[i]? = some ux by simpa using hux] at z
      exact (Option.some.inj z).symm
    obtain rfl : v2 = uy := by
      have z : ib.toArray[i]? = some v2 := e2
      rw [show ib.toArray[i]? = some uy by simpa using huy] at z
      exact (Option.some.inj z).symm
    refine ⟨_, rfl, wpAny_letOwnedTupleGo_zip (s := { s with heap := h', toks := tk }) b1 fun h'' z'' sb => ?_⟩
    have nz : ∀ c, c ≠ n + 4 → h''.get? c = h'.get? c := fun c hc => sb.2 c hc
    have T2 : h''.get? s.heap.objs.size = some { cls := .type "tuple", data := .seq #[v1, v2] } := (nz _ (Nat.ne_of_gt zl)).trans hT
    have new : ObjOk X.prog X.w (upd H s.heap.objs.size (.tup [x, y])) h'' s.heap.objs.size (.tup [x, y]) :=
      ⟨by show 2 ≤ sizeLine; decide, [v1, v2], .cons rx (.cons ry .nil), ⟨_, T2, rfl, _, rfl⟩⟩
    have I1 : Inv X pins σ (upd H s.heap.objs.size (.tup [x, y])) { s with heap := h'', toks := tk } :=
      I.turnedNew (ch := [n + 4, n + 2, n + 3, n, n + 1]) (fun c o hb q => by
        have m1 : c ≠ n + 4 := fun z => hb (by simp [z])
        exact (nz c m1).trans (hk c o m1 (fun z => hb (by simp [z])) (fun z => hb (by simp [z])) (fun z => hb (by simp [z])) q)) hf (Nat.le_refl _) new
    have neq : ∀ {x y : Nat}, x < y ∨ y < x → x ≠ y := fun h e => by omega
    refine ⟨.ref s.heap.objs.size, _, I1, rfl, ⟨_, x, y, rfl, I.hok.fresh (Nat.le_refl _), rfl, fun l hl => by rw [I.list_inj hl qx]; exact hx, fun l hl => by rw [I.tuple_inj hl qy]; exact hy⟩, ⟨z'', ?_, ⟨v1, v2, ?_⟩, ?_, ?_⟩, fun c hcm => ?_⟩
    · exact (nz _ (neq (by omega))).trans (hk _ _ (neq (by omega)) (neq (by omega)) (neq (by omega)) (neq (by omega)) u2)
    · exact (nz _ (neq (by omega))).trans b2
    · exact d1.1.at fun o q => (nz _ (neq (by omega))).trans q
    · exact d2.1.at fun o q => (nz _ (neq (by omega))).trans q
    · have lt : c < s.heap.objs.size := by
        have cs : c = n + 4 ∨ c = n + 2 ∨ c = n + 3 ∨ c = n ∨ c = n + 1 := by simpa using hcm
        have le4 : ∀ k, k ≤ 4 → n + k < s.heap.objs.size := fun k hk => Nat.lt_of_le_of_lt (Nat.add_le_add_left hk n) zl
        rcases cs with q | q | q | q | q <;> subst q
        · exact le4 4 (by decide)
        · exact le4 2 (by decide)
        · exact le4 3 (by decide)
        · exact le4 0 (by decide)
        · exact le4 1 (by decide)
      rw [upd_ne (Nat.ne_of_lt lt)]
      exact (hf c hcm).1
  done := by
    intro X hP hw hK hc i pins s σ H E I hf st hg
    subst hP hw hK
    obtain ⟨u1, u2, ⟨x0, y0, u3⟩, u4, u5⟩ := st
    obtain ⟨xs, ys, qx, qy, e1, e2⟩ := hg
    obtain ⟨ia, ra, pa, _⟩ := I.list qx
    obtain ⟨ib, rb, pb, _⟩ := I.tuple qy
    have l1 := ra.length
    have l2 := rb.length
    have hh : X.A.in1.handled = none := by simpa using I.ok.hd hc
    have s1 : i = ia.toArray.size := by simp; omega
    have s2 : i = ib.toArray.size := by simp; omega
    exact wpAny_pyNext_zipD2_end (zm_sep ha hb) (Draws.list hh n a (Nat.ne_of_lt ha) ia.toArray) (Draws.tuple hh (n + 1) b (Nat.ne_of_lt (Nat.lt_succ_of_lt hb)) ib.toArray) u1 u2 u3 ⟨u4, pa.isList⟩ ⟨u5, pb⟩ (Nat.le_of_eq s1) (Nat.le_of_eq s2) (.inl s1) fun h' tk hk =>
      ⟨rfl, I.turnedL (t' := tk) (ch := [n + 4, n + 2, n + 3, n, n + 1]) (fun c o hb q => hk c o (fun z => hb (by simp [z])) (fun z => hb (by simp [z])) (fun z => hb (by simp [z])) (fun z => hb (by simp [z])) q) hf⟩
  self := fun A i s Q E st h => wpAny_pyIter_zip st.1 h
def iZipM (K : PySem.W.Frag) (ta : TA) : TI := fun σ H R => ta σ H fun vs H1 => ∃ a b xs ys, vs = [.ref a, .ref b] ∧ SqL K H1 a xs ∧ SqT K H1 b ys ∧ R (ItzM K a b) H1
theorem pi_zipM {X : Cx} {e e2 : Expr} {ta : TA} {p pos tpos : Pos} {elts : List Expr} {kk : Nat} (hg : Gl X "zip") (hm : X.mg "zip" = none) (ha : PA X [e, e2] ta)
    (h1 : starEach [e, e2] X.env = (false, eval e X.env) :: starEach [e2] X.env := by rfl) (h2 : (backTo pos (starEach [e2] X.env)).any (·.1) = false := by rfl) : PI X (.Tuple elts kk tpos) (.Call (.Name "zip" p) [e, e2] [] pos) (iZipM X.K ta) := by
  refine ⟨fun pins s σ H R I h => Call_ (ld_blt I hg hm PyProof.Rows.boot_zip (PyProof.Rows.callWith_type1 (thn (ha.run pos pins s σ H _ I h) fun us s1 ⟨vs, H1, I1, r1, a, b, xs, ys, ex, qx, qy, q⟩ => ?_) h1 h2))⟩
  subst ex
  cases r1 with
  | cons r rr =>
  cases rr with
  | cons r' rr =>
  cases rr
  cases r
  cases r'
  obtain ⟨ia, ra, pa, _⟩ := I1.list qx
  obtain ⟨ib, rb, pb, _⟩ := I1.tuple qy
  have lb : b < s1.heap.objs.size := (let ⟨_, z, _⟩ := pb; Heap.lt_size z)
  refine call_zipM pa.isList pb fun h' z1 z2 z3 z4 z5 zs hk => wpAny_pyIter_zip z1 ?_
  have I2 : Inv X pins σ H1 { s1 with heap := h' } := I1.kept (t' := s1.toks) hk
  refine ⟨s1.heap.objs.size + 4, [s1.heap.objs.size + 4, s1.heap.objs.size + 2, s1.heap.objs.size + 3, s1.heap.objs.size, s1.heap.objs.size + 1], _, _, H1, rfl, I2, turn_zipM pa.lt lb, ⟨z1, z2, ⟨_, _, z3⟩, z4, z5⟩, fun c hcm => ?_, q⟩
  have le : s1.heap.objs.size ≤ c := by
    have cs : c = s1.heap.objs.size + 4 ∨ c = s1.heap.objs.size + 2 ∨ c = s1.heap.objs.size + 3 ∨ c = s1.heap.objs.size ∨ c = s1.heap.objs.size + 1 := by simpa using hcm
    rcases cs with z | z | z | z | z <;> rw [z] <;> first | exact Nat.le_refl _ | exact Nat.le_add_right _ _
  exact I1.fpOk le (I1.hok.fresh le)
/-- a loop over zip of a list and a tuple of one length -/
theorem for_zipM {K : PySem.W.Frag} {a b : Addr} {xs ys : List V} {g : TG} {tb : TS} {D : Ends} {σ : L2.St} {H : Hp} (hl : xs.length = ys.length) (Pv : Nat → L2.St → Hp → Prop) (h0 : Pv 0 σ H) (hq : ∀ i σ H, Pv i σ H → SqL K H a xs ∧ SqT K H b ys)
    (turn : ∀ (i : Nat) (x y : V) (T : Addr) (σ : L2.St) (H : Hp), xs[i]? = some x → ys[i]? = some y → Pv i σ H → H T = none → g (.ref T) σ (upd H T (.tup [x, y])) fun σ2 H2 => tb { D with nx := Pv (i + 1), ct := Pv (i + 1), bk := D.nx } σ2 H2) (after : ∀ σ H, Pv xs.length σ H → D.nx σ H) :
    ∃ W : Nat → Nat → L2.St → Hp → Prop, (∃ m, W 0 m σ H) ∧ ∀ i m σ H, W i m σ H →
      ((ItzM K a b).stop i H ∧ D.nx σ H) ∨ ((ItzM K a b).go i H ∧ ∃ N : L2.St → Hp → Prop, (∀ σ' H', N σ' H' → ∃ m', m' < m ∧ W (i + 1) m' σ' H') ∧ ∀ v H', (ItzM K a b).yld i H v H' → g v σ H' fun σ2 H2 => tb { D with nx := N, ct := N, bk := D.nx } σ2 H2) := by
  refine ⟨fun i m σ H => i + m = xs.length ∧ Pv i σ H, ⟨xs.length, Nat.zero_add _, h0⟩, fun i m σ H ⟨em, hP⟩ => ?_⟩
  obtain ⟨qx, qy⟩ := hq i σ H hP
  by_cases hi : i < xs.length
  · have gx : xs[i]? = some xs[i] := List.getElem?_eq_getElem hi
    have gy : ys[i]? = some (ys[i]'(by omega)) := List.getElem?_eq_getElem (by omega)
    refine .inr ⟨⟨xs, ys, _, _, qx, qy, gx, gy⟩, Pv (i + 1), fun σ' H' z => ⟨m - 1, by omega, by omega, z⟩, fun v H' hy => ?_⟩
    obtain ⟨T, x', y', rfl, nT, rfl, f1, f2⟩ := hy
    exact turn i x' y' T σ H (f1 xs qx) (f2 ys qy) hP nT
  · have e : i = xs.length := by omega
    subst e
    exact .inl ⟨⟨xs, ys, qx, qy, rfl, hl⟩, after σ H hP⟩
end Sv
set_option maxHeartbeats 4000000
namespace Sv
open PySem PySem.Spec PyProof.Rows L2
theorem range_getD (ns : List Int) : (List.range ns.length).map (fun i => ns.getD i 0) = ns := by
  refine List.ext_getElem? fun i => ?_
  by_cases h : i < ns.length
  · rw [List.getElem?_map, List.getElem?_range h, Option.map_some, List.getD_eq_getElem?_getD, List.getElem?_eq_getElem h]
    rfl
  · rw [List.getElem?_eq_none (by simp; omega), List.getElem?_eq_none (by omega)]
theorem any_mem (ns : List Int) (k : Int) : (ns.any (· == k)) = decide (k ∈ ns) := by
  rw [Bool.eq_iff_iff, List.any_eq_true, decide_eq_true_iff]
  exact ⟨fun ⟨x, hx, e⟩ => by rw [← beq_iff_eq.mp e]; exact hx, fun h => ⟨k, h, beq_self_eq_true k⟩⟩
theorem fm_nodup (val : Nat → Int) : ∀ i, (PyProof.Rows.firstMet val i).Nodup
  | 0 => by rw [PyProof.Rows.firstMet_zero]; exact List.nodup_nil
  | i + 1 => by
    rw [PyProof.Rows.firstMet_succ]
    have ih := fm_nodup val i
    unfold PyProof.Rows.step_dedup
    split
    · exact ih
    · rename_i h
      refine List.nodup_append.mpr ⟨ih, by simp, fun x hx y hy z => h ?_⟩
      rw [List.mem_singleton.mp hy] at z
      exact List.any_eq_true.mpr ⟨x, hx, beq_iff_eq.mpr z⟩
def tLenSetL (K : PySem.W.Frag) (ta : TE) : TE := fun σ H Q => ta σ H fun x H1 => ∃ (l : Addr) (ns : List Int), x = .ref l ∧ SqL K H1 l (ns.map V.int) ∧ ns.length ≤ 4000 ∧ ∀ c : Nat, c ≤ ns.length → (c = ns.length ↔ ns.Nodup) → Q (.int c) H1
theorem pe_lenSetL {X : Cx} {a : Expr} {ta : TE} {p p2 q pos : Pos} (hg : Gl X "len") (hm : X.mg "len" = none) (hg2 : Gl X "set") (hm2 : X.mg "set" = none) (ha : PE X a ta) (hc : X.calm = true := by rfl)
    (na : starEach [a] X.env = (false, eval a X.env) :: starEach [] X.env := by rfl) : PE X (.Call (.Name "len" p) [.Call (.Name "set" p2) [a] [] q] [] pos) (tLenSetL X.K ta) := by
  refine ⟨fun pins s σ H Q I h => Call_ (ld_blt I hg hm boot_len (PyProof.Rows.callWith_builtin1 (PyProof.Rows.args_cons (Call_ (ld_blt I hg2 hm2 boot_set ?_)) rfl) rfl rfl))⟩
  refine PyProof.Rows.callWith_type1 (PyProof.Rows.args_cons (thn (ha.run pins s σ H _ I h) fun v s1 ⟨x, H1, I1, r1, l, ns, ex, hq, hl, q1⟩ => PyProof.Rows.args_nil ?_) na) na rfl
  subst ex
  cases r1
  obtain ⟨its, r, pl, hz⟩ := I1.list hq
  have hlen : its.toArray.size = ns.length := by rw [List.size_toArray, ← r.length, List.length_map]
  refine call_set_list (I1.ok.hd hc) pl.isList (by simpa using RZ.intsAre_vals r) (by rw [hlen]; unfold scanBound; omega) fun h' tk hS hk => PyProof.Rows.args_nil ?_
  have fl := PyProof.Rows.firstMet_length_le (fun i => ns.getD i 0) its.toArray.size
  have fm : ∀ k, k ∈ PyProof.Rows.firstMet (fun i => ns.getD i 0) its.toArray.size ↔ k ∈ ns := fun k => by
    have z := PyProof.Rows.firstMet_any (fun i => ns.getD i 0) its.toArray.size k
    rw [hlen, range_getD, any_mem, any_mem] at z
    rw [hlen]
    simpa using z
  have fn := fm_nodup (fun i => ns.getD i 0) its.toArray.size
  generalize (PyProof.Rows.firstMet (fun i => ns.getD i 0) its.toArray.size) = m at hS fl fm fn
  obtain ⟨o, es, ep, t, ho, hex, hd, _, _, _, hf, hn⟩ := hS
  have I2 : Inv X pins σ H1 { s1 with heap := h', toks := tk } := I1.kept fun b o e => hk b o (Heap.lt_size e) e
  refine call_len_set ho hex hd hf (by rw [hn]; have : (4000 : Nat) < 2 ^ 63 := by decide
                                       omega) ⟨.int m.length, H1, I2.tok _, ⟨_, by rw [hn]⟩, q1 m.length (by omega) ⟨fun e => ?_, fun e => ?_⟩⟩
  · exact nodup_of_len fn (fun x hx => (fm x).mp hx) (by rw [e]; exact Nat.le_refl _)
  · have z := nodup_sub_len e fun x hx => (fm x).mpr hx
    omega
end Sv
set_option maxHeartbeats 4000000
namespace Sv
open PySem PySem.Spec PyProof.Rows L2
abbrev TimeOk (t : Int) : Prop := -1000000000000000000000000000000 ≤ t ∧ t ≤ 1000000000000000000000000000000
def OkP (ns : List Int) : Prop := (∀ x ∈ ns, 1 ≤ x ∧ x ≤ 999) ∧ ns.Nodup
instance (ns : List Int) : Decidable (OkP ns) := by unfold OkP; infer_instance
instance (n : Nat) (zs : List Int) (L : Lay Int) : Decidable (Fits n zs L) := by unfold Fits; infer_instance
structure StOk (zs : List Int) (rs : List Ro) (t : Int) (L : Lay Int) : Prop where
  t : TimeOk t
  f : Fits rs.length zs L
  p : OkP (join L)
instance (zs : List Int) (rs : List Ro) (t : Int) (L : Lay Int) : Decidable (StOk zs rs t L) :=
  if h : TimeOk t ∧ Fits rs.length zs L ∧ OkP (join L) then isTrue ⟨h.1, h.2.1, h.2.2⟩ else isFalse fun z => h ⟨z.t, z.f, z.p⟩
/-- a state in its place -/
structure StateAt (K : PySem.W.Frag) (H : Hp) (s : Addr) (t : Int) (L : Lay Int) : Prop where
  ex : ∃ ca sh : Addr, SqT K H s [.int t, .ref ca, .ref sh] ∧ LayT K H ca sh L.1 L.2
theorem StateAt.imp {K : PySem.W.Frag} {H H' : Hp} {s : Addr} {t : Int} {L : Lay Int} (x : StateAt K H s t L) (e : ∀ a xs, SqT K H a xs → SqT K H' a xs) : StateAt K H' s t L := by
  obtain ⟨ca, sh, h1, h2⟩ := x.ex
  exact ⟨ca, sh, e _ _ h1, h2.imp e⟩
theorem StateAt.same {K : PySem.W.Frag} {H H' : Hp} {s : Addr} {t : Int} {L : Lay Int} (x : StateAt K H s t L) (e : Same H H') : StateAt K H' s t L := x.imp fun _ _ => sqT_same e
/-- not too long to be looked at -/
def LSm (L : Lay Int) : Prop := L.1.length ≤ 1000 ∧ L.2.length ≤ 1000 ∧ ∀ s ∈ L.2, s.length ≤ 1000
section
variable {P : Program} {w : World} {K : PySem.W.Frag} {mg : Str → Option Value} {base : Heap}
theorem scTupOf : FnScope ["row", "length"] ["row", "length"] (defScope sTupOf) := ⟨rfl, rfl, rfl, by decide +kernel, rfl, by decide +kernel, by decide +kernel⟩
def spTupOf (K : PySem.W.Frag) : Sp := fun vs H Q _ => ∃ (a : Addr) (n : Int) (xs : List V), vs = [.ref a, .int n] ∧ SqT K H a xs ∧ Q (.bl (decide ((xs.length : Int) = n))) H
theorem int_eqV (a b : Int) : decide (V.int a = V.int b) = decide (a = b) := by
  by_cases h : a = b
  · rw [decide_eq_true h, decide_eq_true (by rw [h])]
  · rw [decide_eq_false h, decide_eq_false fun z => h (V.int.inj z)]
theorem ok_tupOf (T : Bd P K mg) : FnOk P w K mg base CX0 1 T.aTupOf T.dTupOf ["row", "length"] (spTupOf K) := by
  refine T.TupOf.F.ok scTupOf (fun vs H Q E h => ?_) (fun cdv A outer s H vs Q E hr h => ?_)
  · obtain ⟨a, n, xs, rfl, _⟩ := h
    rfl
  · obtain ⟨a, n, xs, rfl, hA, q⟩ := h
    refine ⟨_, pss_one (ps_ret (pe_and (pe_callB call_isi (by rfl) T.bt.isinstance b_isinstance (pa_cons (pv 0) (pa_cons (pe_ty (by rfl) T.bt.tuple b_tuple) pa_nil)))
      (pe_one (pe_cmpR op_eq (pe_callB call_len_seq (by rfl) T.bt.len b_len (pa_cons (pv 0) pa_nil)) (pv 1) (nomark _))))), ?_⟩
    refine ⟨.ref a, rfl, .ref a, .ty "tuple", _, _, true, rfl, .ty "tuple", tyx_tup hA, kit_ty (by decide +kernel), true, rfl, ?_⟩
    rw [if_pos rfl]
    refine ⟨.ref a, rfl, a, _, rfl, .inr hA, .int n, rfl, rfl, ?_⟩
    show Q (.bl (decide (V.int (xs.length : Nat) = V.int n))) H
    rw [int_eqV]
    exact q
theorem scParcels : FnScope ["parcels", "parcel"] ["parcels"] (defScope sParcels) := ⟨rfl, rfl, rfl, by decide +kernel, rfl, by decide +kernel, by decide +kernel⟩
def spParcels (K : PySem.W.Frag) : Sp := fun vs H Q _ => ∃ (l : Addr) (ns : List Int), vs = [.ref l] ∧ SqL K H l (ns.map V.int) ∧ ns.length ≤ 2000 ∧ Q (.bl (decide (OkP ns))) H
theorem ok_parcels (T : Bd P K mg) : FnOk P w K mg base CX0 2 T.aParcels T.dParcels ["parcels"] (spParcels K) := by
  have GW : FnOk P w K mg base CX0 1 T.aWithin T.dWithin ["number", "low", "high"] spWithin := ok_within T.Within.F T.bt.isinstance T.bt.bool T.bt.int
  obtain ⟨tl, hlast⟩ := T.lastP
  refine T.Parcels.F.ok scParcels (fun vs H Q E h => ?_) (fun cdv A outer s H vs Q E hr h => ?_)
  · obtain ⟨l, ns, rfl, _⟩ := h
    rfl
  · obtain ⟨l, ns, rfl, hL, hl, q⟩ := h
    refine ⟨_, pss_cons (ps_for PassesOwn.never rfl (pi_list (pv 0)) (pg_name (i := 1) scParcels.nd rfl (Or.inl rfl))
        (pss_one (ps_if (pt_not (pt_val (pe_call GW hr (by rfl) T.Within.g T.Within.F.kp T.Within.b .nil pass0 (pa_cons (pv 1) (pa_cons pe_int (pa_cons (pe_glob (v := .int 999) (by rfl) hlast ⟨_, rfl⟩) pa_nil)))))) (pss_one (ps_ret pe_bl)) pss_nil)))
      (pss_one (ps_ret (pe_cmpR op_eq (pe_lenSetL (by rfl) T.bt.len (by rfl) T.bt.set (pv 0)) (pe_callB call_len_seq (by rfl) T.bt.len b_len (pa_cons (pv 0) pa_nil)) (nomark _)))), ?_⟩
    have hlen : (ns.map V.int).length = ns.length := by rw [List.length_map]
    refine ⟨.ref l, rfl, l, rfl, ⟨_, hL⟩, for_list (xs := ns.map V.int) (fun i σ H' => (∃ y, σ = [some (.ref l), y]) ∧ H' = H ∧ ∀ j x, j < i → ns[j]? = some x → 1 ≤ x ∧ x ≤ 999) ⟨⟨none, rfl⟩, rfl, fun j x hj => by omega⟩ (fun i σ H' _ h => by rw [h.2.1]; exact hL)
      (fun i x σ H' hx ⟨⟨y, es⟩, eH, hok⟩ => ?_) (fun σ H' ⟨⟨y, es⟩, eH, hok⟩ => ?_)⟩
    · subst es
      subst eH
      obtain ⟨n, hn, rfl⟩ := iV_lt hx
      refine ⟨.int n, rfl, n, 1, 999, rfl, _, rfl, ?_⟩
      by_cases h : 1 ≤ n ∧ n ≤ 999
      · rw [decide_eq_true h]
        refine iteF ⟨⟨_, rfl⟩, rfl, fun j x hj e => ?_⟩
        by_cases hji : j = i
        · rw [hji, hn] at e
          rw [← Option.some.inj e]
          exact h
        · exact hok j x (by omega) e
      · rw [decide_eq_false h]
        have e : decide (OkP ns) = false := decide_eq_false fun z => h (z.1 n (List.mem_of_getElem? hn))
        rw [e] at q
        exact iteT q
    · subst es
      subst eH
      rw [hlen] at hok
      refine ⟨.ref l, rfl, l, ns, rfl, hL, by omega, fun c hc hiff => ?_⟩
      refine ⟨.ref l, rfl, l, _, rfl, .inl hL, rfl, ?_⟩
      rw [hlen]
      show Q (.bl (decide (V.int (c : Int) = V.int (ns.length : Nat)))) H'
      rw [int_eqV]
      have h1 : ∀ x ∈ ns, 1 ≤ x ∧ x ≤ 999 := fun x hx => by
        obtain ⟨j, hj⟩ := List.mem_iff_getElem?.mp hx
        exact hok j x (List.getElem?_eq_some_iff.mp hj).1 hj
      have e : decide ((c : Int) = (ns.length : Nat)) = decide (OkP ns) := by
        by_cases h : c = ns.length
        · rw [decide_eq_true (by rw [h]), decide_eq_true ⟨h1, hiff.mp h⟩]
        · rw [decide_eq_false (by omega), decide_eq_false fun z => h (hiff.mpr z.2)]
      rw [e]
      exact q
def nFi : List Str := ["plan", "carried", "shelves", "sizes", "routes", "size", "shelf"]
theorem scFits : FnScope nFi ["plan", "carried", "shelves"] (defScope sFits) := ⟨rfl, rfl, rfl, by decide +kernel, rfl, by decide +kernel, by decide +kernel⟩
def spFits (K : PySem.W.Frag) : Sp := fun vs H Q _ => ∃ (p ca sh : Addr) (zs : List Int) (rs : List Ro) (L : Lay Int), vs = [.ref p, .ref ca, .ref sh] ∧ PlanAt K H p zs rs ∧ (∀ z ∈ zs, 0 ≤ z) ∧ LayT K H ca sh L.1 L.2 ∧ ∀ H', Same H H' → Q (.bl (decide (Fits rs.length zs L))) H'
theorem fits_no {n : Nat} {zs : List Int} {L : Lay Int} {i : Nat} {z : Int} {s : List Int} (hz : zs[i]? = some z) (h0 : 0 ≤ z) (hs : L.2[i]? = some s) (h : ¬ (s.length : Int) = z) : ¬ Fits n zs L := fun f => by
  have h1 : (L.2.map List.length)[i]? = some s.length := by rw [List.getElem?_map, hs]; rfl
  rw [f.2, List.getElem?_map, hz] at h1
  have := Option.some.inj h1
  omega
theorem ok_fits (T : Bd P K mg) : FnOk P w K mg base CX0 2 T.aFits T.dFits ["plan", "carried", "shelves"] (spFits K) := by
  have GT : FnOk P w K mg base CX0 1 T.aTupOf T.dTupOf ["row", "length"] (spTupOf K) := ok_tupOf T
  refine T.Fits.F.ok scFits (fun vs H Q E h => ?_) (fun cdv A outer s H vs Q E hr h => ?_)
  · obtain ⟨p, ca, sh, zs, rs, L, rfl, _⟩ := h
    rfl
  · obtain ⟨p, ca, sh, zs, rs, L, rfl, hp, hz, hL, q⟩ := h
    obtain ⟨a, b, hp1, ha, hb⟩ := hp.ex
    obtain ⟨rqs, hA, hP⟩ := hb.ex
    have hrl := paired_len hP
    obtain ⟨qs, hs1, hs2⟩ := hL.s
    have hql := segT_len hs2
    refine ⟨_, pss_cons (ps_asg (pv 0) (pg_tup rfl (pgs_cons (pg_name (i := 3) scFits.nd rfl (.inl rfl)) (pgs_cons (pg_name (i := 4) scFits.nd rfl (.inl rfl)) pgs_nil))))
      (pss_cons (ps_if (pw_or (pt_not (pt_val (pe_call (E := E0) GT hr (by rfl) T.TupOf.g T.TupOf.F.kp T.TupOf.b .nil pass0 (pa_cons (pv 1) (pa_cons (pe_callB call_len_seq (by rfl) T.bt.len b_len (pa_cons (pv 4) pa_nil)) pa_nil)))))
          (pw_or1 (pt_not (pt_val (pe_call (E := E0) GT hr (by rfl) T.TupOf.g T.TupOf.F.kp T.TupOf.b .nil pass0 (pa_cons (pv 2) (pa_cons (pe_callB call_len_seq (by rfl) T.bt.len b_len (pa_cons (pv 3) pa_nil)) pa_nil))))))).pt (pss_one (ps_ret pe_bl)) pss_nil)
      (pss_cons (ps_for PassesOwn.never rfl (RZ.pi_zipA (by rfl) T.bt.zip (pa_cons (pv 3) (pa_cons (pv 2) pa_nil))) (pg_tup rfl (pgs_cons (pg_name (i := 5) scFits.nd rfl (.inl rfl)) (pgs_cons (pg_name (i := 6) scFits.nd rfl (.inl rfl)) pgs_nil)))
        (pss_one (ps_if (pt_not (pt_val (pe_call (E := E0) GT hr (by rfl) T.TupOf.g T.TupOf.F.kp T.TupOf.b .nil pass0 (pa_cons (pv 6) (pa_cons (pv 5) pa_nil))))) (pss_one (ps_ret pe_bl)) pss_nil)))
      (pss_one (ps_ret pe_bl)))), ?_⟩
    refine ⟨.ref p, rfl, p, _, rfl, hp1, rfl, _, _, rfl, _, _, rfl, rfl, ?_⟩
    refine ⟨.ref ca, rfl, .ref b, rfl, b, _, rfl, .inr hA, ca, _, _, rfl, hL.c, _, rfl, ?_⟩
    rw [List.length_map, List.length_map, hrl]
    have no : ¬ Fits rs.length zs L → Q (.bl false) H := fun h => by
      have := q H (Same.refl H)
      rwa [decide_eq_false h] at this
    by_cases h1 : ((L.1.length : Nat) : Int) = (rs.length : Nat)
    · rw [decide_eq_true h1]
      refine iteF ⟨.ref sh, rfl, .ref a, rfl, a, _, rfl, .inr ha, sh, _, _, rfl, hs1, _, rfl, ?_⟩
      rw [List.length_map, List.length_map, hql]
      by_cases h2 : ((L.2.length : Nat) : Int) = (zs.length : Nat)
      · rw [decide_eq_true h2]
        refine iteF ⟨.ref a, rfl, .ref sh, rfl, a, sh, zs.map V.int, qs.map V.ref, rfl, .inr ⟨ha, hs1, RZ.for_zipT (by rw [List.length_map, List.length_map]; omega) (fun i σ H' => (∃ y5 y6, σ = [some (.ref p), some (.ref ca), some (.ref sh), some (.ref a), some (.ref b), y5, y6]) ∧ Same H H' ∧ ∀ j z s, j < i → zs[j]? = some z → L.2[j]? = some s → (s.length : Int) = z)
          ⟨⟨_, _, rfl⟩, Same.refl H, fun j z s hj => by omega⟩ (fun i σ H' h => ⟨sqT_same h.2.1 ha, sqT_same h.2.1 hs1⟩) (fun i x y U σ H' hx hy ⟨⟨y5, y6, es⟩, sm, hok⟩ hU => ?_) (fun σ H' ⟨⟨y5, y6, es⟩, sm, hok⟩ => ?_)⟩⟩
        · subst es
          obtain ⟨z, hz1, rfl⟩ := iV_lt hx
          obtain ⟨q1, hq1, rfl⟩ := refs_lt hy
          obtain ⟨s1, hs3, hq2⟩ := segT_at hs2 hq1
          have smU : Same H (upd H' U (.tup [.int z, .ref q1])) := same_of sm (Same.free sm hU)
          refine ⟨U, _, rfl, .inl (.inl upd_same), rfl, _, _, rfl, _, _, rfl, rfl, ?_⟩
          refine ⟨.ref q1, rfl, .int z, rfl, q1, z, _, rfl, sqT_same smU hq2, _, rfl, ?_⟩
          rw [List.length_map]
          by_cases h3 : (s1.length : Int) = z
          · rw [decide_eq_true h3]
            refine iteF ⟨⟨_, _, rfl⟩, smU, fun j z' s' hj e1 e2 => ?_⟩
            by_cases hji : j = i
            · subst hji
              rw [hz1] at e1
              rw [hs3] at e2
              rw [← Option.some.inj e1, ← Option.some.inj e2]
              exact h3
            · exact hok j z' s' (by omega) e1 e2
          · rw [decide_eq_false h3]
            have e : decide (Fits rs.length zs L) = false := decide_eq_false (fits_no hz1 (hz z (List.mem_of_getElem? hz1)) hs3 h3)
            have := q _ smU
            rw [e] at this
            exact iteT this
        · subst es
          rw [List.length_map] at hok
          have f : Fits rs.length zs L := by
            refine ⟨by omega, List.ext_getElem? fun i => ?_⟩
            by_cases hi : i < zs.length
            · have g1 : zs[i]? = some zs[i] := List.getElem?_eq_getElem hi
              have hi2 : i < L.2.length := by omega
              have g2 : L.2[i]? = some L.2[i] := List.getElem?_eq_getElem hi2
              have := hok i _ _ hi g1 g2
              rw [List.getElem?_map, List.getElem?_map, g1, g2]
              show some (L.2[i].length) = some (zs[i].toNat)
              congr 1
              omega
            · rw [List.getElem?_eq_none (by rw [List.length_map]; omega), List.getElem?_eq_none (by rw [List.length_map]; omega)]
          have := q _ sm
          rwa [decide_eq_true f] at this
      · rw [decide_eq_false h2]
        refine iteT (no fun f => h2 ?_)
        have := congrArg List.length f.2
        rw [List.length_map, List.length_map] at this
        omega
    · rw [decide_eq_false h1]
      exact iteT (no fun f => h1 (by rw [f.1]))
end
end Sv
set_option maxHeartbeats 4000000
namespace Sv
open PySem PySem.Spec PyProof.Rows L2
/-- the first k things moved by an effect -/
def mvN (e : List Nat) (cs : List Int) : Nat → List Int
  | 0 => cs
  | k + 1 => (mvN e cs k).set (ap e k) (cs.getD k 0)
theorem mvN_len (e : List Nat) (cs : List Int) : ∀ k, (mvN e cs k).length = cs.length
  | 0 => rfl
  | k + 1 => by
    show ((mvN e cs k).set _ _).length = _
    rw [List.length_set, mvN_len e cs k]
theorem mvN_at {e : List Nat} (E : Eff e) {cs : List Int} (hl : cs.length = e.length) : ∀ k, k ≤ e.length → ∀ i, i < k → (mvN e cs k)[ap e i]? = some (cs.getD i 0)
  | 0, _, i, hi => by omega
  | k + 1, hk, i, hi => by
    show ((mvN e cs k).set (ap e k) (cs.getD k 0))[ap e i]? = _
    by_cases h : i = k
    · subst h
      rw [List.getElem?_set_self (by rw [mvN_len, hl]; exact ap_lt E (by omega))]
    · rw [List.getElem?_set_ne fun q => h (ap_inj E (by omega) (by omega) q).symm]
      exact mvN_at E hl k (by omega) i (by omega)
/-- all things moved -/
def move (e : List Nat) (cs : List Int) : List Int := (inv e).map fun i => cs.getD i 0
theorem move_len (e : List Nat) (cs : List Int) : (move e cs).length = e.length := by unfold move; rw [List.length_map, inv_len]
theorem mvN_move {e : List Nat} (E : Eff e) {cs : List Int} (hl : cs.length = e.length) : mvN e cs e.length = move e cs := by
  refine List.ext_getElem? fun q => ?_
  by_cases hq : q < e.length
  · have h1 : ap (inv e) q < e.length := by
      have := ap_lt (inv_eff E) (x := q) (by rw [inv_len]; exact hq)
      rwa [inv_len] at this
    have h2 := mvN_at E hl e.length (Nat.le_refl _) (ap (inv e) q) h1
    rw [ap_inv E hq] at h2
    rw [h2]
    unfold move
    rw [List.getElem?_map, ap_at (by rw [inv_len]; exact hq)]
    rfl
  · rw [List.getElem?_eq_none (by rw [mvN_len]; omega), List.getElem?_eq_none (by rw [move_len]; omega)]
section
variable {P : Program} {w : World} {K : PySem.W.Frag} {mg : Str → Option Value} {base : Heap}
def nCs : List Str := ["plan", "state", "time", "carried", "shelves"]
theorem scCheckState : FnScope nCs ["plan", "state"] (defScope sCheckState) := ⟨rfl, rfl, rfl, by decide +kernel, rfl, by decide +kernel, by decide +kernel⟩
def spCheckState (K : PySem.W.Frag) (CS : Addr) : Sp := fun vs H Q E => ∃ (p s : Addr) (zs : List Int) (rs : List Ro) (t : Int) (L : Lay Int), vs = [.ref p, .ref s] ∧ PlanAt K H p zs rs ∧ Val zs rs ∧ StateAt K H s t L ∧
  (StOk zs rs t L → ∀ H', Same H H' → Q .non H') ∧ (¬ StOk zs rs t L → ∀ H', Same H H' → E (.ref CS) none H')
theorem ok_checkState (T : Bd P K mg) : FnOk P w K mg base (L2.CX P w) 3 T.aCheckState T.dCheckState ["plan", "state"] (spCheckState K T.CS) := by
  have GW : FnOk P w K mg base CX0 1 T.aWithin T.dWithin ["number", "low", "high"] spWithin := ok_within T.Within.F T.bt.isinstance T.bt.bool T.bt.int
  have GF : FnOk P w K mg base CX0 2 T.aFits T.dFits ["plan", "carried", "shelves"] (spFits K) := ok_fits T
  have GJ : FnOk P w K mg base CX0 1 T.aJoin T.dJoin ["carried", "shelves"] (spJoin K) := ok_join T
  have GP : FnOk P w K mg base CX0 2 T.aParcels T.dParcels ["parcels"] (spParcels K) := ok_parcels T
  obtain ⟨tl, hlim⟩ := T.tlim
  refine T.CheckState.F.okX scCheckState (fun vs H Q E h => ?_) (fun cdv A outer s H vs Q E hr h => ?_)
  · obtain ⟨p, s, zs, rs, t, L, rfl, _⟩ := h
    rfl
  · obtain ⟨p, s, zs, rs, t, L, rfl, hp, hv, hs, q1, q2⟩ := h
    obtain ⟨ca, sh, hs1, hL⟩ := hs.ex
    refine ⟨_, pss_cons (ps_if (pw_or (pt_not (pt_val (pe_callB call_isi (by rfl) T.bt.isinstance b_isinstance (pa_cons (pv 1) (pa_cons (pe_ty (by rfl) T.bt.tuple b_tuple) pa_nil)))))
          (pw_or1 (pt_cmpR op_ne (pe_callB call_len_seq (by rfl) T.bt.len b_len (pa_cons (pv 1) pa_nil)) pe_int (nomark _)))).pt
        (pss_one (ps_raise rfl (takes_of rfl rfl rfl rfl) (pmk_own PySem.F.excBase_ValueError T.cs.x T.cs.g T.cs.k (raises_own T.cs.b T.cs.t) rfl))) pss_nil)
      (pss_cons (ps_asg (pv 1) (pg_tup rfl (pgs_cons (pg_name (i := 2) scCheckState.nd rfl (.inl rfl)) (pgs_cons (pg_name (i := 3) scCheckState.nd rfl (.inl rfl)) (pgs_cons (pg_name (i := 4) scCheckState.nd rfl (.inl rfl)) pgs_nil)))))
      (pss_cons (ps_if (pt_not (pt_val (pe_call (E := E0) GW (hr.mono (by decide)) (by rfl) T.Within.g T.Within.F.kp T.Within.b .nil pass0 (pa_cons (pv 2) (pa_cons (pe_un un_neg (pe_glob (v := .int 1000000000000000000000000000000) (by rfl) hlim ⟨_, rfl⟩)) (pa_cons (pe_glob (v := .int 1000000000000000000000000000000) (by rfl) hlim ⟨_, rfl⟩) pa_nil))))))
        (pss_one (ps_raise rfl (takes_of rfl rfl rfl rfl) (pmk_own PySem.F.excBase_ValueError T.cs.x T.cs.g T.cs.k (raises_own T.cs.b T.cs.t) rfl))) pss_nil)
      (pss_cons (ps_if (pt_not (pt_val (pe_call (E := E0) GF hr (by rfl) T.Fits.g T.Fits.F.kp T.Fits.b .nil pass0 (pa_cons (pv 0) (pa_cons (pv 3) (pa_cons (pv 4) pa_nil))))))
        (pss_one (ps_raise rfl (takes_of rfl rfl rfl rfl) (pmk_own PySem.F.excBase_ValueError T.cs.x T.cs.g T.cs.k (raises_own T.cs.b T.cs.t) rfl))) pss_nil)
      (pss_one (ps_if (pt_not (pt_val (pe_call (E := E0) GP hr (by rfl) T.Parcels.g T.Parcels.F.kp T.Parcels.b .nil pass0 (pa_cons (pe_call (E := E0) GJ (hr.mono (by decide)) (by rfl) T.Join.g T.Join.F.kp T.Join.b .nil pass0 (pa_cons (pv 3) (pa_cons (pv 4) pa_nil))) pa_nil))))
        (pss_one (ps_raise rfl (takes_of rfl rfl rfl rfl) (pmk_own PySem.F.excBase_ValueError T.cs.x T.cs.g T.cs.k (raises_own T.cs.b T.cs.t) rfl))) pss_nil))))), ?_⟩
    refine ⟨.ref s, rfl, .ref s, .ty "tuple", _, _, true, rfl, .ty "tuple", tyx_tup hs1, kit_ty (by decide +kernel), true, rfl, iteF ?_⟩
    refine ⟨.ref s, rfl, s, _, rfl, .inr hs1, rfl, _, rfl, iteF ?_⟩
    refine ⟨.ref s, rfl, s, _, rfl, hs1, rfl, _, _, rfl, _, _, rfl, _, _, rfl, rfl, ?_⟩
    refine ⟨.int t, rfl, _, rfl, t, -1000000000000000000000000000000, 1000000000000000000000000000000, rfl, _, rfl, ?_⟩
    by_cases h1 : TimeOk t
    · rw [decide_eq_true h1]
      refine iteF ⟨.ref p, rfl, .ref ca, rfl, .ref sh, rfl, p, ca, sh, zs, rs, L, rfl, hp, fun z hz => (hv.z2 z hz).1, hL, fun H1 sm1 => ⟨_, rfl, ?_⟩⟩
      by_cases h2 : Fits rs.length zs L
      · rw [decide_eq_true h2]
        have jl := join_len h2
        have hn := hv.num
        have jl2 : L.1.length + L.2.flatten.length = rs.length + sumN zs := by
          rw [← jl]
          unfold join
          rw [List.length_append]
        refine iteF ⟨.ref ca, rfl, .ref sh, rfl, ca, sh, L.1, L.2, rfl, hL.same sm1, by omega, fun H2 f sm2 nf kf => ⟨f, L.1 ++ L.2.flatten, rfl, .inl (.inl kf), by rw [List.length_append]; omega, _, rfl, ?_⟩⟩
        by_cases h3 : OkP (L.1 ++ L.2.flatten)
        · rw [decide_eq_true h3]
          exact iteF (q1 ⟨h1, h2, h3⟩ _ (sm1.trans sm2))
        · rw [decide_eq_false h3]
          exact iteT (q2 (fun z => h3 z.p) _ (sm1.trans sm2))
      · rw [decide_eq_false h2]
        exact iteT (q2 (fun z => h2 z.f) _ sm1)
    · rw [decide_eq_false h1]
      exact iteT (q2 (fun z => h1 z.t) _ (Same.refl H))
end
end Sv
set_option maxHeartbeats 4000000
namespace Sv
open PySem PySem.Spec PyProof.Rows L2
section
variable {P : Program} {w : World} {K : PySem.W.Frag} {mg : Str → Option Value} {base : Heap}
theorem scParcelsIn : FnScope ["state", "_", "carried", "shelves"] ["state"] (defScope sParcelsIn) := ⟨rfl, rfl, rfl, by decide +kernel, rfl, by decide +kernel, by decide +kernel⟩
def spParcelsIn (K : PySem.W.Frag) : Sp := fun vs H Q _ => ∃ (s : Addr) (t : Int) (L : Lay Int), vs = [.ref s] ∧ StateAt K H s t L ∧ (join L).length ≤ 1000 ∧ NewL H (join L) Q
theorem NewL.imp {H H1 : Hp} {l : List Int} {Q : VK} (h : NewL H l Q) (e : Same H H1) : NewL H1 l Q := fun H' f sm hf => h H' f (e.trans sm) (Same.free e hf)
theorem ok_parcelsIn (T : Bd P K mg) : FnOk P w K mg base CX0 2 T.aParcelsIn T.dParcelsIn ["state"] (spParcelsIn K) := by
  have GJ : FnOk P w K mg base CX0 1 T.aJoin T.dJoin ["carried", "shelves"] (spJoin K) := ok_join T
  refine T.ParcelsIn.F.ok scParcelsIn (fun vs H Q E h => ?_) (fun cdv A outer s H vs Q E hr h => ?_)
  · obtain ⟨s, t, L, rfl, _⟩ := h
    rfl
  · obtain ⟨s, t, L, rfl, hst, hl, q⟩ := h
    obtain ⟨ca, sh, hs1, hL⟩ := hst.ex
    exact ⟨_, (pss_cons (ps_asg (pv 0) (pg_tup rfl (pgs_cons (pg_name (i := 1) scParcelsIn.nd rfl (.inl rfl)) (pgs_cons (pg_name (i := 2) scParcelsIn.nd rfl (.inl rfl)) (pgs_cons (pg_name (i := 3) scParcelsIn.nd rfl (.inl rfl)) pgs_nil)))))
      (pss_one (ps_ret (pe_call (E := E0) GJ hr (by rfl) T.Join.g T.Join.F.kp T.Join.b .nil pass0 (pa_cons (pv 2) (pa_cons (pv 3) pa_nil)))))), .ref s, rfl, s, _, rfl, hs1, rfl, _, _, rfl, _, _, rfl, _, _, rfl, rfl, .ref ca, rfl, .ref sh, rfl, ca, sh, L.1, L.2, rfl, hL, by rw [← List.length_append]; exact hl, q⟩
/-- a new state -/
def NewSt (K : PySem.W.Frag) (H : Hp) (t : Int) (L : Lay Int) (Q : VK) : Prop := ∀ H' s, Same H H' → H s = none → StateAt K H' s t L → Q (.ref s) H'
theorem NewSt.imp {K : PySem.W.Frag} {H H1 : Hp} {t : Int} {L : Lay Int} {Q : VK} (h : NewSt K H t L Q) (e : Same H H1) : NewSt K H1 t L Q := fun H' s sm hs => h H' s (e.trans sm) (Same.free e hs)
/-- a state with the same time, its parcels moved -/
def mvL (n : Nat) (zs : List Int) (e : List Nat) (L : Lay Int) : Lay Int := spl n zs (move e (join L))
theorem scStateOf : FnScope ["plan", "time", "parcels", "carried", "shelves"] ["plan", "time", "parcels"] (defScope sStateOf) := ⟨rfl, rfl, rfl, by decide +kernel, rfl, by decide +kernel, by decide +kernel⟩
def spStateOf (K : PySem.W.Frag) : Sp := fun vs H Q _ => ∃ (p l : Addr) (zs : List Int) (rs : List Ro) (t : Int) (cs : List Int), vs = [.ref p, .int t, .ref l] ∧ PlanAt K H p zs rs ∧ Val zs rs ∧ SqL K H l (cs.map V.int) ∧ cs.length ≤ 1000 ∧ NewSt K H t (spl rs.length zs cs) Q
theorem ok_stateOf (T : Bd P K mg) : FnOk P w K mg base CX0 2 T.aStateOf T.dStateOf ["plan", "time", "parcels"] (spStateOf K) := by
  have GL : FnOk P w K mg base CX0 1 T.aSplit T.dSplit ["plan", "contents"] (spSplit K) := ok_split T
  refine T.StateOf.F.ok scStateOf (fun vs H Q E h => ?_) (fun cdv A outer s H vs Q E hr h => ?_)
  · obtain ⟨p, l, zs, rs, t, cs, rfl, _⟩ := h
    rfl
  · obtain ⟨p, l, zs, rs, t, cs, rfl, hp, hv, hl, hc, q⟩ := h
    refine ⟨_, (pss_cons (ps_asg (pe_call (E := E0) GL (hr.mono (by decide)) (by rfl) T.Split.g T.Split.F.kp T.Split.b .nil pass0 (pa_cons (pv 0) (pa_cons (pv 2) pa_nil))) (pg_tup rfl (pgs_cons (pg_name (i := 3) scStateOf.nd rfl (.inl rfl)) (pgs_cons (pg_name (i := 4) scStateOf.nd rfl (.inl rfl)) pgs_nil))))
      (pss_one (ps_ret (pe_tup (pa_cons (pv 1) (pa_cons (pv 3) (pa_cons (pv 4) pa_nil))))))), ?_⟩
    refine ⟨.ref p, rfl, .ref l, rfl, p, l, zs, rs, cs, rfl, hp, hl, hv.z2, hv.z1.2, hv.r1.2, hc, fun H5 tp c2 s2 sm5 ht lay => ?_⟩
    refine ⟨tp, _, rfl, .inl (.inl ht), rfl, _, _, rfl, _, _, rfl, rfl, ?_⟩
    refine ⟨.int t, rfl, .ref c2, rfl, .ref s2, rfl, (by show 3 ≤ sizeLine; decide), fun t2 ht2 => ?_⟩
    have sm6 := same_upd (o := .tup [.int t, .ref c2, .ref s2]) ht2
    exact q _ t2 (sm5.trans sm6) (Same.free sm5 ht2) ⟨c2, s2, .inl (.inl upd_same), (lay.same sm6).t⟩
def nMv : List Str := ["plan", "state", "effect", "before", "after", "parcel", "target"]
theorem scMoved : FnScope nMv ["plan", "state", "effect"] (defScope sMoved) := ⟨rfl, rfl, rfl, by decide +kernel, rfl, by decide +kernel, by decide +kernel⟩
def spMoved (K : PySem.W.Frag) : Sp := fun vs H Q _ => ∃ (p s a : Addr) (zs : List Int) (rs : List Ro) (t : Int) (L : Lay Int) (e : List Nat), vs = [.ref p, .ref s, .ref a] ∧ PlanAt K H p zs rs ∧ Val zs rs ∧ StateAt K H s t L ∧ Fits rs.length zs L ∧ SqT K H a (vN e) ∧ Eff e ∧ e.length = rs.length + sumN zs ∧ NewSt K H t (mvL rs.length zs e L) Q
theorem ok_moved (T : Bd P K mg) : FnOk P w K mg base CX0 3 T.aMoved T.dMoved ["plan", "state", "effect"] (spMoved K) := by
  have GJ : FnOk P w K mg base CX0 2 T.aParcelsIn T.dParcelsIn ["state"] (spParcelsIn K) := ok_parcelsIn T
  have GL : FnOk P w K mg base CX0 2 T.aStateOf T.dStateOf ["plan", "time", "parcels"] (spStateOf K) := ok_stateOf T
  refine T.Moved.F.ok scMoved (fun vs H Q E h => ?_) (fun cdv A outer s H vs Q E hr h => ?_)
  · obtain ⟨p, s, a, zs, rs, t, L, e, rfl, _⟩ := h
    rfl
  · obtain ⟨p, s, a, zs, rs, t, L, e, rfl, hp, hv, hst, hf, hA, hE, hlen, q⟩ := h
    refine ⟨_, (pss_cons (ps_set (i := 3) scMoved.nd rfl (Or.inl rfl) (pe_call (E := E0) GJ (hr.mono (by decide)) (by rfl) T.ParcelsIn.g T.ParcelsIn.F.kp T.ParcelsIn.b .nil pass0 (pa_cons (pv 1) pa_nil)))
      (pss_cons (ps_set (i := 4) scMoved.nd rfl (Or.inl rfl) (pe_callTy call_list_of (by rfl) T.bt.list b_list (pa_cons (pv 3) pa_nil)))
      (pss_cons (ps_for PassesOwn.never rfl (pi_zipM (by rfl) T.bt.zip (pa_cons (pv 3) (pa_cons (pv 2) pa_nil))) (pg_tup rfl (pgs_cons (pg_name (i := 5) scMoved.nd rfl (.inl rfl)) (pgs_cons (pg_name (i := 6) scMoved.nd rfl (.inl rfl)) pgs_nil))) (pss_one (ps_asg (pv 5) (pg_sub (pv 4) (pv 6) set_list))))
      (pss_one (ps_ret (pe_call (E := E0) GL (hr.mono (by decide)) (by rfl) T.StateOf.g T.StateOf.F.kp T.StateOf.b .nil pass0 (pa_cons (pv 0) (pa_cons (pe_ix ix_tup (pv 1) pe_int (fun _ _ => rfl)) (pa_cons (pv 4) pa_nil))))))))), ?_⟩
    have hn := hv.num
    have jl := join_len hf
    refine ⟨.ref s, rfl, s, t, L, rfl, hst, by omega, fun H3 f smB nf kf => ?_⟩
    refine ⟨.ref f, rfl, f, _, rfl, .inl (.inl (.inl kf)), fun g hg => ?_⟩
    have fg : f ≠ g := ne_of_none kf hg
    have kf2 : (upd H3 g (.lst ((join L).map V.int))) f = some (.lst ((join L).map V.int)) := by rw [upd_ne fg]; exact kf
    have smC : Same H (upd H3 g (.lst ((join L).map V.int))) := smB.trans (same_upd hg)
    have kg : (upd H3 g (.lst ((join L).map V.int))) g = some (.lst ((mvN e (join L) 0).map V.int)) := upd_same
    have ng : H g = none := Same.free smB hg
    generalize upd H3 g (.lst ((join L).map V.int)) = H4 at kf2 smC kg ⊢
    have hA4 := sqT_same smC hA
    refine ⟨.ref f, rfl, .ref a, rfl, f, a, (join L).map V.int, vN e, rfl, .inl (.inl kf2), hA4, for_zipM (by rw [List.length_map, vN_len]; omega) (fun i σ H' => (∃ y5 y6, σ = [some (.ref p), some (.ref s), some (.ref a), some (.ref f), some (.ref g), y5, y6]) ∧ Same H H' ∧ H' f = some (.lst ((join L).map V.int)) ∧ H' g = some (.lst ((mvN e (join L) i).map V.int)))
      ⟨⟨_, _, rfl⟩, smC, kf2, kg⟩ (fun i σ H' h => ⟨.inl (.inl h.2.2.1), sqT_same h.2.1 hA⟩) (fun i x y U σ H' hx hy ⟨⟨y5, y6, es⟩, sm, k1, k2⟩ hU => ?_) (fun σ H' ⟨⟨y5, y6, es⟩, sm, k1, k2⟩ => ?_)⟩
    · subst es
      obtain ⟨z, hz1, rfl⟩ := iV_lt hx
      obtain ⟨hi, rfl⟩ := vN_lt hy
      have smU : Same H (upd H' U (.tup [.int z, .int (ap e i : Nat)])) := same_of sm (Same.free sm hU)
      have gU : g ≠ U := ne_of_none k2 hU
      have fU : f ≠ U := ne_of_none k1 hU
      refine ⟨U, _, rfl, .inl (.inl upd_same), rfl, _, _, rfl, _, _, rfl, rfl, ?_⟩
      refine ⟨.int z, rfl, .ref g, rfl, .int (ap e i : Nat), rfl, g, _, _, ap e i, rfl, rfl, by rw [upd_ne gU]; exact k2, ?_, ⟨_, _, rfl⟩, same_of smU ng, ?_, ?_⟩
      · rw [List.length_map, mvN_len, jl, ← hlen]
        exact ixN_nat (ap_lt hE hi)
      · rw [upd_ne fg, upd_ne fU]
        exact k1
      · rw [upd_same, ← List.map_set]
        have ez : (join L).getD i 0 = z := by rw [List.getD_eq_getElem?_getD, hz1]; rfl
        show some (HO.lst (((mvN e (join L) i).set (ap e i) z).map V.int)) = some (HO.lst (((mvN e (join L) i).set (ap e i) ((join L).getD i 0)).map V.int))
        rw [ez]
    · subst es
      rw [List.length_map, jl, ← hlen, mvN_move hE (by omega)] at k2
      have ml := move_len e (join L)
      obtain ⟨ca, sh, hs1, hL⟩ := (hst.same sm).ex
      refine ⟨.ref p, rfl, .ref s, rfl, s, _, 0, .int t, rfl, rfl, hs1, rfl, .ref g, rfl, p, g, zs, rs, t, move e (join L), rfl, hp.same sm, hv, .inl (.inl k2), by omega, q.imp sm⟩
end
end Sv
set_option maxHeartbeats 4000000
namespace Sv
open PySem PySem.Spec PyProof.Rows L2
section
variable {P : Program} {w : World} {K : PySem.W.Frag} {mg : Str → Option Value} {base : Heap}
def spPlanG (K : PySem.W.Frag) : Sp := fun vs H Q _ => ∃ (h l : Addr) (ns nc : Int), vs = [.ref h, .int ns, .int nc] ∧ LawH H h l ∧ (1 ≤ ns ∧ ns ≤ 12) ∧ (1 ≤ nc ∧ nc ≤ 6) ∧ ∀ H' p zs rs, St h l H H' → PlanAt K H' p zs rs → Val zs rs → (zs.length : Int) ≤ ns → (rs.length : Int) ≤ nc → Q (.ref p) H'
theorem ok_planG (T : Bd P K mg) : FnOk P w K mg base CX0 2 T.aLPlan T.dLPlan ["_law_h", "_law_shelves", "_law_carriers"] (spPlanG K) := by
  have GN : FnOk P w K mg base CX0 1 T.aLNext T.dLNext ["_law_h", "_law_limit"] qNext := by unfold qNext; exact ok_next T.LNext.F T.bt
  refine T.LPlan.F.ok scPlan (fun vs H Q E h => ?_) (fun cdv A outer s H vs Q E hr h => ?_)
  · obtain ⟨h, l, ns, nc, rfl, _⟩ := h
    rfl
  · obtain ⟨h, l, ns, nc, rfl, LH, hns, hnc, q⟩ := h
    have p64 : (1000 : Int) < 2 ^ 64 := by decide
    have p62 : (1000 : Int) < 2 ^ 62 := by decide
    refine ⟨_, pss_cons (ps_set (i := 3) scPlan.nd rfl (Or.inl rfl) (pe_lst pa_nil))
      (pss_cons (ps_for PassesOwn.never rfl (pi_range1 (by rfl) T.bt.range (pa_cons (pe_op op_add pe_int (pe_call (E := E0) GN hr (by rfl) T.LNext.g T.LNext.F.kp T.LNext.b .nil pass0 (pa_cons (pv 0) (pa_cons (pv 1) pa_nil)))) pa_nil)) (pg_name (i := 4) scPlan.nd rfl (Or.inl rfl))
        (pss_one (ps_expr (pe_bm PySem.F.plainAttrs_list PySem.F.slot_list_append PySem.F.type_list_append mt_append (pv 3) (pa_cons (pe_ix ix_list (pe_lst (pa_cons (pe_call (E := E0) GN hr (by rfl) T.LNext.g T.LNext.F.kp T.LNext.b .nil pass0 (pa_cons (pv 0) (pa_cons pe_int pa_nil))) (pa_cons (pe_call (E := E0) GN hr (by rfl) T.LNext.g T.LNext.F.kp T.LNext.b .nil pass0 (pa_cons (pv 0) (pa_cons pe_int pa_nil))) pa_nil)))
          (pe_op op_fdiv (pe_call (E := E0) GN hr (by rfl) T.LNext.g T.LNext.F.kp T.LNext.b .nil pass0 (pa_cons (pv 0) (pa_cons pe_int pa_nil))) pe_int) (fun _ _ => rfl)) pa_nil)))))
      (pss_cons (ps_set (i := 5) scPlan.nd rfl (Or.inl rfl) (pe_lst pa_nil))
      (pss_cons (ps_for PassesOwn.never rfl (pi_range1 (by rfl) T.bt.range (pa_cons (pe_op op_add pe_int (pe_call (E := E0) GN hr (by rfl) T.LNext.g T.LNext.F.kp T.LNext.b .nil pass0 (pa_cons (pv 0) (pa_cons (pv 2) pa_nil)))) pa_nil)) (pg_name (i := 6) scPlan.nd rfl (Or.inl rfl))
        (pss_cons (ps_set (i := 7) scPlan.nd rfl (Or.inl rfl) (pe_lst pa_nil))
        (pss_cons (ps_for PassesOwn.never rfl (pi_range1 (by rfl) T.bt.range (pa_cons (pe_op op_add pe_int (pe_call (E := E0) GN hr (by rfl) T.LNext.g T.LNext.F.kp T.LNext.b .nil pass0 (pa_cons (pv 0) (pa_cons (pe_ix ix_list (pe_lst (pa_cons pe_int (pa_cons pe_int pa_nil))) (pe_call (E := E0) GN hr (by rfl) T.LNext.g T.LNext.F.kp T.LNext.b .nil pass0 (pa_cons (pv 0) (pa_cons pe_int pa_nil))) (fun _ _ => rfl)) pa_nil)))) pa_nil)) (pg_name (i := 8) scPlan.nd rfl (Or.inl rfl))
          (pss_one (ps_expr (pe_bm PySem.F.plainAttrs_list PySem.F.slot_list_append PySem.F.type_list_append mt_append (pv 7) (pa_cons (pe_ifExp (pt_cmpR op_eq (pe_call (E := E0) GN hr (by rfl) T.LNext.g T.LNext.F.kp T.LNext.b .nil pass0 (pa_cons (pv 0) (pa_cons pe_int pa_nil))) pe_int (nomark _)) pe_non
            (pe_call (E := E0) GN hr (by rfl) T.LNext.g T.LNext.F.kp T.LNext.b .nil pass0 (pa_cons (pv 0) (pa_cons (pe_callB call_len_seq (by rfl) T.bt.len b_len (pa_cons (pv 3) pa_nil)) pa_nil)))) pa_nil)))))
        (pss_one (ps_expr (pe_bm PySem.F.plainAttrs_list PySem.F.slot_list_append PySem.F.type_list_append mt_append (pv 5) (pa_cons (pe_callTy call_tuple_of (by rfl) T.bt.tuple b_tuple (pa_cons (pv 7) pa_nil)) pa_nil)))))))
      (pss_one (ps_ret (pe_tup (pa_cons (pe_callTy call_tuple_of (by rfl) T.bt.tuple b_tuple (pa_cons (pv 3) pa_nil)) (pa_cons (pe_callTy call_tuple_of (by rfl) T.bt.tuple b_tuple (pa_cons (pv 5) pa_nil)) pa_nil)))))))), ?_⟩
    refine ⟨Nat.zero_le _, fun fs hfs => ?_⟩
    obtain ⟨fh, fl⟩ := LH.nh hfs
    have S1 := (St.refl LH).upd (o := .lst []) hfs fh fl
    have k1 : (upd H fs (.lst [])) fs = some (.lst []) := upd_same
    generalize upd H fs (.lst []) = H1 at S1 k1 ⊢
    -- the sizes
    refine ⟨.ref h, rfl, .int ns, rfl, ?_⟩
    show qNext _ _ _ _
    refine go_next S1.law (by omega) (by omega) fun n1 H2 hn1 L2 x2 => ⟨1, n1, rfl, rfl, _, rfl, by omega, by omega, ?_⟩
    refine for_range (lo := 0) (n := ((1 : Int) + (n1 : Nat)).toNat) (fun i σ H' => (∃ y4, σ = [some (.ref h), some (.int ns), some (.int nc), some (.ref fs), y4, none, none, none, none]) ∧ St h l H H' ∧ ∃ zs : List Int, zs.length = i ∧ (∀ z ∈ zs, 0 ≤ z ∧ z ≤ 9) ∧ H' fs = some (.lst (zs.map V.int)))
      ⟨⟨none, rfl⟩, S1.next L2 x2, [], rfl, fun z hz => (List.not_mem_nil hz).elim, x2 _ _ fh fl k1⟩ (fun i σ H' hi ⟨⟨y4, es⟩, S, zs, zl, hz, kf⟩ => ?_) (fun σ H' ⟨⟨y4, es⟩, S, zs, zl, hz, kf⟩ => ?_)
    · subst es
      have hi12 : i < 12 := by omega
      refine ⟨.ref fs, rfl, .inl ⟨rfl, _, .inl (.inl kf)⟩, .ref h, rfl, ?_⟩
      show qNext _ _ _ _
      refine go_next S.law (by decide) (by decide) fun a H3 ha L3 x3 => ⟨.ref h, rfl, ?_⟩
      have S3 := S.next L3 x3
      show qNext _ _ _ _
      refine go_next S3.law (by decide) (by decide) fun b H4 hb L4 x4 => ⟨(by show 2 ≤ sizeLine; decide), fun D hD => ⟨.ref h, rfl, ?_⟩⟩
      have S4 := S3.next L4 x4
      obtain ⟨Dh, Dl⟩ := L4.nh hD
      have S5 := S4.same (same_upd (o := .lst [.int (a : Nat), .int (b : Nat)]) hD)
      have kD : (upd H4 D (.lst [.int (a : Nat), .int (b : Nat)])) D = some (.lst [.int (a : Nat), .int (b : Nat)]) := upd_same
      have kf5 := (same_upd (o := .lst [.int (a : Nat), .int (b : Nat)]) hD) _ _ (x4 _ _ fh fl (x3 _ _ fh fl kf))
      generalize upd H4 D (.lst [.int (a : Nat), .int (b : Nat)]) = H5 at S5 kD kf5 ⊢
      show qNext _ _ _ _
      refine go_next S5.law (by decide) (by decide) fun c H6 hc L6 x6 => ⟨c, 4, rfl, rfl, ⟨by decide, by decide⟩, ?_⟩
      have S6 := S5.next L6 x6
      have kD6 := x6 _ _ Dh Dl kD
      have kf6 := x6 _ _ fh fl kf5
      obtain ⟨z, hz0, hat⟩ : ∃ z : Int, (0 ≤ z ∧ z ≤ 9) ∧ atI [V.int (a : Nat), V.int (b : Nat)] ((c : Int) / 4) = some (.int z) := by
        have : c = 0 ∨ c = 1 ∨ c = 2 ∨ c = 3 ∨ c = 4 := by omega
        rcases this with rfl | rfl | rfl | rfl | rfl
        · exact ⟨a, ⟨by omega, by omega⟩, rfl⟩
        · exact ⟨a, ⟨by omega, by omega⟩, rfl⟩
        · exact ⟨a, ⟨by omega, by omega⟩, rfl⟩
        · exact ⟨a, ⟨by omega, by omega⟩, rfl⟩
        · exact ⟨b, ⟨by omega, by omega⟩, rfl⟩
      refine ⟨D, _, _, _, rfl, rfl, .inl (.inl kD6), hat, fs, _, _, rfl, rfl, kf6, ?_, ⟨_, rfl⟩, S6.upd hfs fh fl, zs ++ [z], by rw [List.length_append, zl]; rfl, fun y hy => ?_, ?_⟩
      · rw [List.length_map]
        exact small1000 (by omega)
      · rcases List.mem_append.mp hy with hy | hy
        · exact hz y hy
        · rw [List.mem_singleton.mp hy]
          exact hz0
      · rw [upd_same, List.map_append]
        rfl
    subst es
    have zl12 : 1 ≤ zs.length ∧ zs.length ≤ 12 := by rw [zl]; omega
    -- the routes
    refine ⟨Nat.zero_le _, fun fr hfr => ?_⟩
    obtain ⟨rh, rl⟩ := S.law.nh hfr
    have nfr := S.none hfr
    have S7 := S.same (same_upd (o := .lst []) hfr)
    have kr : (upd H' fr (.lst [])) fr = some (.lst []) := upd_same
    have kf7 := (same_upd (o := .lst []) hfr) _ _ kf
    generalize upd H' fr (.lst []) = H7 at S7 kr kf7 ⊢
    refine ⟨.ref h, rfl, .int nc, rfl, ?_⟩
    show qNext _ _ _ _
    refine go_next S7.law (by omega) (by omega) fun n2 H8 hn2 L8 x8 => ⟨1, n2, rfl, rfl, _, rfl, by omega, by omega, ?_⟩
    refine for_range (lo := 0) (n := ((1 : Int) + (n2 : Nat)).toNat) (fun i σ H' => (∃ y4 y6 y7 y8, σ = [some (.ref h), some (.int ns), some (.int nc), some (.ref fs), y4, some (.ref fr), y6, y7, y8]) ∧ St h l H H' ∧ H' fs = some (.lst (zs.map V.int)) ∧
        ∃ (qs : List Addr) (rs : List Ro), rs.length = i ∧ H' fr = some (.lst (qs.map V.ref)) ∧ Paired (fun q r => SqT K H' q (rV r)) qs rs ∧ ∀ r ∈ rs, (1 ≤ r.length ∧ r.length ≤ 6) ∧ ∀ e ∈ r, okE zs.length e = true)
      ⟨⟨_, _, _, _, rfl⟩, S7.next L8 x8, x8 _ _ fh fl kf7, [], [], rfl, x8 _ _ rh rl kr, .nil, fun r hr => (List.not_mem_nil hr).elim⟩ (fun i σ H9 hi ⟨⟨y4, y6, y7, y8, es⟩, S9, kf9, qs, rs, rl9, kr9, hP, hR⟩ => ?_) (fun σ H9 ⟨⟨y4, y6, y7, y8, es⟩, S9, kf9, qs, rs, rl9, kr9, hP, hR⟩ => ?_)
    · subst es
      have hi6 : i < 6 := by omega
      refine ⟨Nat.zero_le _, fun fe hfe => ?_⟩
      obtain ⟨eh, el⟩ := S9.law.nh hfe
      have ef : fe ≠ fs := (ne_of_none kf9 hfe).symm
      have er : fe ≠ fr := (ne_of_none kr9 hfe).symm
      have T10 := (St.refl S9.law).upd (o := .lst []) hfe eh el
      have ke : (upd H9 fe (.lst [])) fe = some (.lst []) := upd_same
      generalize upd H9 fe (.lst []) = H10 at T10 ke ⊢
      refine ⟨.ref h, rfl, (by show 2 ≤ sizeLine; decide), fun D hD => ⟨.ref h, rfl, ?_⟩⟩
      obtain ⟨Dh, Dl⟩ := T10.law.nh hD
      have T11 := T10.same (same_upd (o := .lst [.int 3, .int 6]) hD)
      have kD : (upd H10 D (.lst [.int 3, .int 6])) D = some (.lst [.int 3, .int 6]) := upd_same
      have ke11 := (same_upd (o := .lst [.int 3, .int 6]) hD) _ _ ke
      generalize upd H10 D (.lst [.int 3, .int 6]) = H11 at T11 kD ke11 ⊢
      show qNext _ _ _ _
      refine go_next T11.law (by decide) (by decide) fun u H12 hu L12 x12 => ?_
      have T12 := T11.next L12 x12
      obtain ⟨lim, l1, l2, hat⟩ : ∃ lim : Int, 0 < lim ∧ lim ≤ 6 ∧ atI [V.int 3, V.int 6] (u : Nat) = some (.int lim) := by
        have : u = 0 ∨ u = 1 := by omega
        rcases this with rfl | rfl
        · exact ⟨3, by decide, by decide, rfl⟩
        · exact ⟨6, by decide, by decide, rfl⟩
      refine ⟨D, _, _, _, rfl, rfl, .inl (.inl (x12 _ _ Dh Dl kD)), hat, ?_⟩
      show qNext _ _ _ _
      have p64 : (1000 : Int) < 2 ^ 64 := by decide
      refine go_next T12.law l1 (by omega) fun n3 H13 hn3 L13 x13 => ⟨1, n3, rfl, rfl, _, rfl, by omega, by omega, ?_⟩
      have T13 := T12.next L13 x13
      have ke13 := x13 _ _ eh el (x12 _ _ eh el ke11)
      refine for_range (lo := 0) (n := ((1 : Int) + (n3 : Nat)).toNat) (fun j σ H' => (∃ y8, σ = [some (.ref h), some (.int ns), some (.int nc), some (.ref fs), y4, some (.ref fr), some (.int (0 + (i : Nat))), some (.ref fe), y8]) ∧ St h l H9 H' ∧ ∃ r : Ro, r.length = j ∧ H' fe = some (.lst (rV r)) ∧ ∀ e ∈ r, okE zs.length e = true)
        ⟨⟨_, rfl⟩, T13, [], rfl, ke13, fun e he => (List.not_mem_nil he).elim⟩ (fun j σ H14 hj ⟨⟨y8, es⟩, T14, r, rlen, ke14, hre⟩ => ?_) (fun σ H14 ⟨⟨y8, es⟩, T14, r, rlen, ke14, hre⟩ => ?_)
      · subst es
        have hj6 : j < 6 := by omega
        refine ⟨.ref fe, rfl, .inl ⟨rfl, _, .inl (.inl ke14)⟩, .ref h, rfl, ?_⟩
        show qNext _ _ _ _
        refine go_next T14.law (by decide) (by decide) fun v H15 hv L15 x15 => ⟨rfl, _, rfl, ?_⟩
        have T15 := T14.next L15 x15
        have ke15 := x15 _ _ eh el ke14
        by_cases hv0 : v = 0
        · rw [decide_eq_true (by rw [hv0]; rfl)]
          refine iteT ⟨fe, _, _, rfl, rfl, ke15, ?_, ⟨_, rfl⟩, T15.upd hfe eh el, r ++ [none], by rw [List.length_append, rlen]; rfl, ?_, fun x hx => ?_⟩
          · rw [rV_len]
            exact small1000 (by omega)
          · rw [upd_same]
            unfold rV
            rw [List.map_append]
            rfl
          · rcases List.mem_append.mp hx with hx | hx
            · exact hre x hx
            · rw [List.mem_singleton.mp hx]
              rfl
        · rw [decide_eq_false fun z => hv0 (by have := V.int.inj z; omega)]
          have kf15 := T15.k _ _ fh fl kf9
          refine iteF ⟨.ref h, rfl, .ref fs, rfl, fs, _, rfl, .inl (.inl (.inl kf15)), ?_⟩
          rw [List.length_map]
          show qNext _ _ _ _
          refine go_next T15.law (by omega) (by omega) fun e H16 he L16 x16 => ?_
          have T16 := T15.next L16 x16
          refine ⟨fe, _, _, rfl, rfl, x16 _ _ eh el ke15, ?_, ⟨_, rfl⟩, T16.upd hfe eh el, r ++ [some (e : Int)], by rw [List.length_append, rlen]; rfl, ?_, fun x hx => ?_⟩
          · rw [rV_len]
            exact small1000 (by omega)
          · rw [upd_same]
            unfold rV
            rw [List.map_append]
            rfl
          · rcases List.mem_append.mp hx with hx | hx
            · exact hre x hx
            · rw [List.mem_singleton.mp hx]
              exact decide_eq_true ⟨by omega, by omega⟩
      · subst es
        have kr14 := T14.k _ _ rh rl kr9
        refine ⟨.ref fr, rfl, .inl ⟨rfl, _, .inl (.inl kr14)⟩, .ref fe, rfl, fe, _, rfl, .inl ⟨.inl (.inl ke14), fun t ht => ?_⟩⟩
        have U15 := T14.same (same_upd (o := .tup (rV r)) ht)
        have kt : (upd H14 t (.tup (rV r))) t = some (.tup (rV r)) := upd_same
        generalize upd H14 t (.tup (rV r)) = H15 at U15 kt ⊢
        have kr15 := U15.k _ _ rh rl kr9
        have kf15 := U15.k _ _ fh fl kf9
        have hql : qs.length = i := by rw [paired_len hP, rl9]
        refine ⟨fr, _, _, rfl, rfl, kr15, ?_, ⟨_, _, _, _, rfl⟩, (S9.trans U15).upd nfr rh rl, ?_, qs ++ [t], rs ++ [r], by rw [List.length_append, rl9]; rfl, ?_, ?_, fun x hx => ?_⟩
        · rw [List.length_map]
          exact small1000 (by omega)
        · rw [upd_ne (ne_of_none kf hfr)]
          exact kf15
        · rw [upd_same, List.map_append]
          rfl
        · exact paired_snoc (sqT_lst kr15 (.inl (.inl kt))) (paired_imp (fun a xs s => sqT_lst kr15 (sqT_x S9.law U15.k s)) hP)
        · rcases List.mem_append.mp hx with hx | hx
          · exact hR x hx
          · rw [List.mem_singleton.mp hx]
            exact ⟨by rw [rlen]; omega, hre⟩
    subst es
    refine ⟨.ref fs, rfl, fs, _, rfl, .inl ⟨.inl (.inl kf9), fun a ha => ?_⟩⟩
    have ma : Same H9 (upd H9 a (.tup (zs.map V.int))) := same_upd ha
    have ka : (upd H9 a (.tup (zs.map V.int))) a = some (.tup (zs.map V.int)) := upd_same
    generalize upd H9 a (.tup (zs.map V.int)) = Ha at ma ka ⊢
    refine ⟨.ref fr, rfl, fr, _, rfl, .inl ⟨.inl (.inl (ma _ _ kr9)), fun b hb => ?_⟩⟩
    have mb : Same Ha (upd Ha b (.tup (qs.map V.ref))) := same_upd hb
    have kb : (upd Ha b (.tup (qs.map V.ref))) b = some (.tup (qs.map V.ref)) := upd_same
    generalize upd Ha b (.tup (qs.map V.ref)) = Hb at mb kb ⊢
    refine ⟨(by show 2 ≤ sizeLine; decide), fun p hp => ?_⟩
    have mp : Same Hb (upd Hb p (.tup [.ref a, .ref b])) := same_upd hp
    refine q _ p zs rs (((S9.same ma).same mb).same mp) ⟨a, b, .inl (.inl upd_same), .inl (.inl (mp _ _ (mb _ _ ka))), qs, .inl (.inl (mp _ _ kb)), paired_same ((ma.trans mb).trans mp) hP⟩ ⟨⟨zl12, hz, ?_, fun r hr => (hR r hr).1⟩, fun r hr => (hR r hr).2⟩ ?_ ?_
    · rw [rl9]
      omega
    · rw [zl]
      omega
    · rw [rl9]
      omega
end
end Sv
set_option maxHeartbeats 4000000
namespace Sv
open PySem PySem.Spec PyProof.Rows L2
theorem cop997 : ∀ s : Fin 997, s = 0 ∨ Nat.gcd 997 s = 1 := by decide +kernel
theorem far997 {s d : Nat} (h1 : 1 ≤ s) (h2 : s ≤ 996) (d1 : 1 ≤ d) (d2 : d < 997) : (s * d) % 997 ≠ 0 := fun z => by
  have c : Nat.Coprime 997 s := by
    rcases cop997 ⟨s, by omega⟩ with q | q
    · have := congrArg Fin.val q
      simp at this
      omega
    · exact q
  have := Nat.le_of_dvd d1 (c.dvd_of_dvd_mul_left (Nat.dvd_of_mod_eq_zero z))
  omega
/-- the parcel with the number k -/
def prcl (a s : Nat) (k : Nat) : Int := 1 + (((a + s * k) % 997 : Nat) : Int)
def prcls (a s n : Nat) : List Int := (List.range n).map (prcl a s)
theorem prcls_len (a s n : Nat) : (prcls a s n).length = n := by unfold prcls; simp
theorem prcls_succ (a s n : Nat) : prcls a s (n + 1) = prcls a s n ++ [prcl a s n] := by
  unfold prcls
  rw [List.range_succ, List.map_append]
  rfl
theorem prcl_ne {a s i j : Nat} (h1 : 1 ≤ s) (h2 : s ≤ 996) (hij : i < j) (hj : j < 997) : prcl a s i ≠ prcl a s j := fun e => by
  unfold prcl at e
  have e2 : (a + s * i) % 997 = (a + s * j) % 997 := by omega
  have e3 : s * j = s * i + s * (j - i) := by rw [← Nat.mul_add]; congr 1; omega
  rw [e3] at e2
  exact far997 (s := s) (d := j - i) h1 h2 (by omega) (by omega) (by omega)
theorem prcls_le {a s n : Nat} : ∀ x ∈ prcls a s n, x ≤ 997 := fun x hx => by
  obtain ⟨k, _, rfl⟩ := List.mem_map.mp hx
  unfold prcl
  have := Nat.mod_lt (a + s * k) (show 997 > 0 by decide)
  omega
theorem prcls_ok {a s n : Nat} (h1 : 1 ≤ s) (h2 : s ≤ 996) (hn : n ≤ 997) : OkP (prcls a s n) := by
  refine ⟨fun x hx => ?_, ?_⟩
  · obtain ⟨k, _, rfl⟩ := List.mem_map.mp hx
    unfold prcl
    have := Nat.mod_lt (a + s * k) (by decide : 0 < 997)
    omega
  · refine List.pairwise_iff_getElem.mpr fun i j hi hj hij => ?_
    simp only [prcls, List.getElem_map, List.getElem_range]
    rw [prcls_len] at hj
    exact prcl_ne h1 h2 hij (by omega)
section
variable {P : Program} {w : World} {K : PySem.W.Frag} {mg : Str → Option Value} {base : Heap}
def nLs : List Str := ["_law_h", "_law_plan_here", "_law_start", "_law_step_here", "_law_parcels", "_law_time", "_law_carried", "_law_shelves", "_law_spot", "_law_size", "_law_k"]
theorem scState : FnScope nLs ["_law_h", "_law_plan_here"] (defScope sState) := ⟨rfl, rfl, rfl, by decide +kernel, rfl, by decide +kernel, by decide +kernel⟩
def spState (K : PySem.W.Frag) : Sp := fun vs H Q _ => ∃ (h l p : Addr) (zs : List Int) (rs : List Ro), vs = [.ref h, .ref p] ∧ LawH H h l ∧ PlanAt K H p zs rs ∧ Val zs rs ∧
  ∀ H' s t L, St h l H H' → StateAt K H' s t L → StOk zs rs t L → (-50 ≤ t ∧ t ≤ 1000000000000000) → (∀ x ∈ join L, x ≤ 997) → Q (.ref s) H'
theorem ok_state (T : Bd P K mg) : FnOk P w K mg base CX0 2 T.aLState T.dLState ["_law_h", "_law_plan_here"] (spState K) := by
  have GN : FnOk P w K mg base CX0 1 T.aLNext T.dLNext ["_law_h", "_law_limit"] qNext := by unfold qNext; exact ok_next T.LNext.F T.bt
  refine T.LState.F.ok scState (fun vs H Q E h => ?_) (fun cdv A outer s H vs Q E hr h => ?_)
  · obtain ⟨h, l, p, zs, rs, rfl, _⟩ := h
    rfl
  · obtain ⟨h, l, p, zs, rs, rfl, LH, hp, hv, q⟩ := h
    obtain ⟨a, b, hp1, ha, hb⟩ := hp.ex
    obtain ⟨qs, hA, hP⟩ := hb.ex
    have hql := paired_len hP
    refine ⟨_, pss_cons (ps_asg (pe_tup (pa_cons (pe_call (E := E0) GN hr (by rfl) T.LNext.g T.LNext.F.kp T.LNext.b .nil pass0 (pa_cons (pv 0) (pa_cons pe_int pa_nil))) (pa_cons (pe_op op_add pe_int (pe_call (E := E0) GN hr (by rfl) T.LNext.g T.LNext.F.kp T.LNext.b .nil pass0 (pa_cons (pv 0) (pa_cons pe_int pa_nil)))) pa_nil)))
        (pg_tup rfl (pgs_cons (pg_name (i := 2) scState.nd rfl (.inr rfl)) (pgs_cons (pg_name (i := 3) scState.nd rfl (.inr rfl)) pgs_nil))))
      (pss_cons (ps_setLc (i := 4) (own := [("_law_k", 10)]) (g := gName 10) rfl scState.nd rfl rfl (sw_true rfl rfl rfl (by decide +kernel)) (pi_range1 (by rfl) T.bt.range (pa_cons (pe_op op_add (pe_callB call_len_seq (by rfl) T.bt.len b_len (pa_cons (pe_ix ix_tup (pv 1) pe_int (fun _ _ => rfl)) pa_nil)) (pe_callB (cr_sumT rfl) (by rfl) T.bt.sum b_sum (pa_cons (pe_ix ix_tup (pv 1) pe_int (fun _ _ => rfl)) pa_nil))) pa_nil))
        (blkOk_by (N := nLs) (sc := defScope sState) (by decide +kernel))
        (fun _ _ _ _ _ => pg_name (i := 10) scState.nd rfl (Or.inl rfl)) (fun _ _ _ _ _ => pts_nil) (fun _ _ _ _ _ => pe_op op_add pe_int (pe_op op_mod (pe_callTy call_int1 (by rfl) T.bt.int b_int (pa_cons (pe_op op_add (pv 2) (pe_op op_mul (pv 3) (pv 10))) pa_nil)) pe_int)))
      (pss_cons (ps_set (i := 5) scState.nd rfl (Or.inl rfl) (pe_ix ix_list (pe_lst (pa_cons pe_int (pa_cons (pe_call (E := E0) GN hr (by rfl) T.LNext.g T.LNext.F.kp T.LNext.b .nil pass0 (pa_cons (pv 0) (pa_cons pe_int pa_nil)))
          (pa_cons (pe_op op_sub pe_int (pe_call (E := E0) GN hr (by rfl) T.LNext.g T.LNext.F.kp T.LNext.b .nil pass0 (pa_cons (pv 0) (pa_cons pe_int pa_nil))))
          (pa_cons (pe_op op_sub (pe_op op_pow pe_int pe_int) (pe_call (E := E0) GN hr (by rfl) T.LNext.g T.LNext.F.kp T.LNext.b .nil pass0 (pa_cons (pv 0) (pa_cons (pe_op op_pow pe_int pe_int) pa_nil)))) pa_nil)))))
          (pe_call (E := E0) GN hr (by rfl) T.LNext.g T.LNext.F.kp T.LNext.b .nil pass0 (pa_cons (pv 0) (pa_cons pe_int pa_nil))) (fun _ _ => rfl)))
      (pss_cons (ps_par3 (i := 6) (j := 7) (l := 8) rfl scState.nd rfl rfl rfl (by decide) (by decide) (by decide) rfl rfl rfl (pa_cons (pe_callTy call_tuple_of (by rfl) T.bt.tuple b_tuple (pa_cons (pe_slice sl_list (pv 4) po_none (po_some (pe_callB call_len_seq (by rfl) T.bt.len b_len (pa_cons (pe_ix ix_tup (pv 1) pe_int (fun _ _ => rfl)) pa_nil)))) pa_nil))
          (pa_cons (pe_lst pa_nil) (pa_cons (pe_callB call_len_seq (by rfl) T.bt.len b_len (pa_cons (pe_ix ix_tup (pv 1) pe_int (fun _ _ => rfl)) pa_nil)) pa_nil))) (by rfl))
      (pss_cons (ps_for PassesOwn.never rfl (pi_tup (pe_ix ix_tup (pv 1) pe_int (fun _ _ => rfl))) (pg_name (i := 9) scState.nd rfl (Or.inl rfl))
        (pss_cons (ps_expr (pe_bm PySem.F.plainAttrs_list PySem.F.slot_list_append PySem.F.type_list_append mt_append (pv 7) (pa_cons (pe_callTy call_tuple_of (by rfl) T.bt.tuple b_tuple (pa_cons (pe_slice sl_list (pv 4) (po_some (pv 8)) (po_some (pe_op op_add (pv 8) (pv 9)))) pa_nil)) pa_nil)))
        (pss_one (ps_set (i := 8) scState.nd rfl (Or.inl rfl) (pe_op op_add (pv 8) (pv 9))))))
      (pss_one (ps_ret (pe_tup (pa_cons (pv 5) (pa_cons (pv 6) (pa_cons (pe_callTy call_tuple_of (by rfl) T.bt.tuple b_tuple (pa_cons (pv 7) pa_nil)) pa_nil)))))))))), ?_⟩
    have hn := hv.num
    have p62 : (1000 : Int) < 2 ^ 62 := by decide
    have hr6 := hv.r1
    have hz12 := hv.z1
    -- two numbers
    refine ⟨.ref h, rfl, ?_⟩
    show qNext _ _ _ _
    refine go_next LH (by decide) (by decide) fun a0 H1 ha0 L1 x1 => ⟨.ref h, rfl, ?_⟩
    have S1 := (St.refl LH).next L1 x1
    show qNext _ _ _ _
    refine go_next S1.law (by decide) (by decide) fun s0 H2 hs0 L2 x2 => ⟨1, s0, rfl, rfl, (by show 2 ≤ sizeLine; decide), fun tp htp => ?_⟩
    have S2 := S1.next L2 x2
    have S3 := S2.same (same_upd (o := .tup [.int (a0 : Nat), .int (1 + (s0 : Nat))]) htp)
    have k3 : (upd H2 tp (.tup [.int (a0 : Nat), .int (1 + (s0 : Nat))])) tp = some (.tup [.int (a0 : Nat), .int (1 + (s0 : Nat))]) := upd_same
    generalize upd H2 tp (.tup [.int (a0 : Nat), .int (1 + (s0 : Nat))]) = H3 at S3 k3 ⊢
    refine ⟨tp, _, rfl, .inl (.inl k3), rfl, _, _, rfl, _, _, rfl, rfl, ?_⟩
    -- the parcels
    have hp3 := sqT_x LH S3.k hp1
    have ha3 := sqT_x LH S3.k ha
    have hA3 := sqT_x LH S3.k hA
    refine ⟨.ref p, rfl, p, _, 1, .ref b, rfl, rfl, hp3, rfl, b, _, rfl, .inr hA3, .ref p, rfl, p, _, 0, .ref a, rfl, rfl, hp3, rfl, a, zs, rfl, ha3, _, _, rfl, rfl, ?_⟩
    rw [List.length_map, hql, sum_int fun z hz => (hv.z2 z hz).1]
    refine ⟨_, rfl, by omega, by omega, fun c hc => ?_⟩
    obtain ⟨ch, cl⟩ := S3.law.nh hc
    have en : (((rs.length : Nat) : Int) + ((sumN zs : Nat) : Int)).toNat = rs.length + sumN zs := by omega
    rw [en]
    refine lc_range (lo := 0) (n := rs.length + sumN zs) (fun i H' => Same H3 H' ∧ H' c = some (.lst ((prcls a0 (1 + s0) i).map V.int))) ⟨same_upd hc, upd_same⟩ (fun i H' hi ⟨sm, kc⟩ => ?_) (fun H4 ⟨sm, kc⟩ => ?_)
    · refine ⟨rfl, yes_go ⟨.int (a0 : Nat), rfl, .int (1 + (s0 : Nat)), rfl, .int (0 + (i : Nat)), rfl, _, _, rfl, rfl, .inl ⟨by omega, by omega⟩, _, _, rfl, rfl, .inl ⟨_, rfl, _, _, rfl, rfl, (by show (0 : Int) < 997; decide), 1, _, rfl, rfl, _, kc, ?_, same_of sm hc, ?_⟩⟩⟩
      · rw [List.length_map, prcls_len]
        exact small1000 (by omega)
      · have ev : (1 : Int) + ((a0 : Nat) + (1 + (s0 : Nat)) * (0 + (i : Nat))) % 997 = prcl a0 (1 + s0) i := by
          unfold prcl
          rw [Int.natCast_emod, Int.natCast_add, Int.natCast_mul, Int.natCast_add, Int.zero_add]
          rfl
        rw [upd_same, prcls_succ, List.map_append]
        show some (HO.lst (_ ++ [V.int ((1 : Int) + ((a0 : Nat) + (1 + (s0 : Nat)) * (0 + (i : Nat))) % 997)])) = _
        rw [ev]
        rfl
    have S4 := S3.same sm
    have po : OkP (prcls a0 (1 + s0) (rs.length + sumN zs)) := prcls_ok (by omega) (by omega) (by omega)
    have pl := prcls_len a0 (1 + s0) (rs.length + sumN zs)
    have p97 : ∀ x ∈ prcls a0 (1 + s0) (rs.length + sumN zs), x ≤ 997 := prcls_le
    generalize prcls a0 (1 + s0) (rs.length + sumN zs) = cs at kc po pl p97
    -- the time
    refine ⟨.ref h, rfl, ?_⟩
    show qNext _ _ _ _
    refine go_next S4.law (by decide) (by decide) fun u1 H5 hu1 L5 x5 => ⟨.ref h, rfl, ?_⟩
    have S5 := S4.next L5 x5
    show qNext _ _ _ _
    refine go_next S5.law (by decide) (by decide) fun u2 H6 hu2 L6 x6 => ⟨0, u2, rfl, rfl, 10, 15, rfl, rfl, ⟨by decide, by decide, by decide⟩, .ref h, rfl, 10, 15, rfl, rfl, ⟨by decide, by decide, by decide⟩, ?_⟩
    have S6 := S5.next L6 x6
    show qNext _ _ _ _
    refine go_next S6.law (by decide) (by decide) fun u3 H7 hu3 L7 x7 => ⟨_, u3, rfl, rfl, (by show 4 ≤ sizeLine; decide), fun D hD => ⟨.ref h, rfl, ?_⟩⟩
    have S7 := S6.next L7 x7
    obtain ⟨Dh, Dl⟩ := L7.nh hD
    have e15 : (10 : Int) ^ (15 : Int).toNat = 1000000000000000 := by decide
    have hu3' : (u3 : Int) < 1000000000000000 := by rw [← e15]; exact hu3
    rw [e15]
    have S8 := S7.same (same_upd (o := .lst [.int 0, .int (u1 : Nat), .int (0 - (u2 : Nat)), .int (1000000000000000 - (u3 : Nat))]) hD)
    have kD : (upd H7 D (.lst [.int 0, .int (u1 : Nat), .int (0 - (u2 : Nat)), .int (1000000000000000 - (u3 : Nat))])) D = some (.lst [.int 0, .int (u1 : Nat), .int (0 - (u2 : Nat)), .int (1000000000000000 - (u3 : Nat))]) := upd_same
    have kc7 := x7 _ _ ch cl (x6 _ _ ch cl (x5 _ _ ch cl kc))
    have kc8 := (same_upd (o := .lst [.int 0, .int (u1 : Nat), .int (0 - (u2 : Nat)), .int (1000000000000000 - (u3 : Nat))]) hD) _ _ kc7
    generalize upd H7 D (.lst [.int 0, .int (u1 : Nat), .int (0 - (u2 : Nat)), .int (1000000000000000 - (u3 : Nat))]) = H8 at S8 kD kc8 ⊢
    show qNext _ _ _ _
    refine go_next S8.law (by decide) (by decide) fun u4 H9 hu4 L9 x9 => ?_
    have S9 := S8.next L9 x9
    have kD9 := x9 _ _ Dh Dl kD
    have kc9 := x9 _ _ ch cl kc8
    obtain ⟨t, ht, hat⟩ : ∃ t : Int, (-50 ≤ t ∧ t ≤ 1000000000000000) ∧ atI [V.int 0, V.int (u1 : Nat), V.int (0 - (u2 : Nat)), V.int (1000000000000000 - (u3 : Nat))] (u4 : Nat) = some (.int t) := by
      have : u4 = 0 ∨ u4 = 1 ∨ u4 = 2 ∨ u4 = 3 := by omega
      rcases this with rfl | rfl | rfl | rfl
      · exact ⟨0, ⟨by decide, by decide⟩, rfl⟩
      · exact ⟨u1, ⟨by omega, by omega⟩, rfl⟩
      · exact ⟨0 - (u2 : Nat), ⟨by omega, by omega⟩, rfl⟩
      · exact ⟨1000000000000000 - (u3 : Nat), ⟨by omega, by omega⟩, rfl⟩
    refine ⟨D, _, _, _, rfl, rfl, .inl (.inl kD9), hat, ?_⟩
    -- the carried ones
    have hp9 := sqT_x LH S9.k hp1
    have ha9 := sqT_x LH S9.k ha
    have hA9 := sqT_x LH S9.k hA
    refine ⟨.ref c, rfl, .ref p, rfl, p, _, 1, .ref b, rfl, rfl, hp9, rfl, b, _, rfl, .inr hA9, ?_⟩
    rw [List.length_map, hql]
    refine ⟨(rs.length : Nat), rfl, c, _, rfl, .inl (.inl kc9), fun p1 hp1' => ?_⟩
    rw [cut_to, ← List.map_take]
    have m1 : Same H9 (upd H9 p1 (.lst ((cs.take rs.length).map V.int))) := same_upd hp1'
    refine ⟨p1, _, rfl, .inl ⟨.inl (.inl upd_same), fun ca hca => ?_⟩⟩
    have m2 := m1.trans (same_upd (o := .tup ((cs.take rs.length).map V.int)) hca)
    have kca : (upd (upd H9 p1 (.lst ((cs.take rs.length).map V.int))) ca (.tup ((cs.take rs.length).map V.int))) ca = some (.tup ((cs.take rs.length).map V.int)) := upd_same
    generalize upd (upd H9 p1 (.lst ((cs.take rs.length).map V.int))) ca (.tup ((cs.take rs.length).map V.int)) = H10 at m2 kca ⊢
    refine ⟨Nat.zero_le _, fun f hf => ?_⟩
    have nf : H9 f = none := Same.free m2 hf
    have m3 : Same H9 (upd H10 f (.lst [])) := m2.trans (same_upd hf)
    have kca3 : (upd H10 f (.lst [])) ca = some (.tup ((cs.take rs.length).map V.int)) := by rw [upd_ne (ne_of_none kca hf)]; exact kca
    have kf3 : (upd H10 f (.lst [])) f = some (.lst []) := upd_same
    generalize upd H10 f (.lst []) = H11 at m3 kca3 kf3 ⊢
    refine ⟨.ref p, rfl, p, _, 1, .ref b, rfl, rfl, sqT_same m3 hp9, rfl, b, _, rfl, .inr (sqT_same m3 hA9), _, _, _, rfl, ?_⟩
    rw [List.length_map, hql]
    have cf : c ≠ f := ne_of_none kc9 nf
    refine ⟨.ref p, rfl, p, _, 0, .ref a, rfl, rfl, sqT_same m3 hp9, rfl, a, rfl, ⟨_, sqT_same m3 ha9⟩, for_tup (xs := zs.map V.int) (fun i σ H' => (∃ y9, σ = [some (.ref h), some (.ref p), some (.int (a0 : Nat)), some (.int (1 + (s0 : Nat))), some (.ref c), some (.int t), some (.ref ca), some (.ref f), some (.int (rs.length + sumN (zs.take i) : Nat)), y9, none]) ∧ Same H9 H' ∧ H' ca = some (.tup ((cs.take rs.length).map V.int)) ∧
        ∃ qs : List Addr, H' f = some (.lst (qs.map V.ref)) ∧ SegV H' qs (segs cs rs.length (zs.take i))) ⟨⟨none, rfl⟩, m3, kca3, [], kf3, .nil⟩ (fun i σ H' _ h => sqT_same h.2.1 ha9) (fun i x σ H' hx ⟨⟨y9, es⟩, sm, kc1, qs2, kf, sv⟩ => ?_) (fun σ H' ⟨⟨y9, es⟩, sm, kc1, qs2, kf, sv⟩ => ?_)⟩
    · subst es
      obtain ⟨z, hz1, rfl⟩ := iV_lt hx
      have hzz := hv.z2 z (List.mem_of_getElem? hz1)
      have il : i < zs.length := (List.getElem?_eq_some_iff.mp hz1).1
      have kc2 := sm _ _ kc9
      refine ⟨.ref f, rfl, .inl ⟨rfl, _, .inl (.inl kf)⟩, .ref c, rfl, .int (rs.length + sumN (zs.take i) : Nat), rfl, (rs.length + sumN (zs.take i) : Nat), rfl, .int (rs.length + sumN (zs.take i) : Nat), rfl, .int z, rfl, (rs.length + sumN (zs.take i) : Nat), z, rfl, rfl, _, rfl, c, _, rfl, .inl (.inl kc2), fun p4 hp4 => ?_⟩
      have ecut : cutV (cs.map V.int) (some ((rs.length + sumN (zs.take i) : Nat) : Int)) (some (((rs.length + sumN (zs.take i) : Nat) : Int) + z)) = ((cs.drop (rs.length + sumN (zs.take i))).take z.toNat).map V.int := by
        rw [show (((rs.length + sumN (zs.take i) : Nat) : Int) + z) = ((rs.length + sumN (zs.take i) : Nat) : Int) + (z.toNat : Nat) by omega, cut_seg, ← List.map_drop, ← List.map_take]
      rw [ecut]
      have m4 : Same H' (upd H' p4 (.lst (((cs.drop (rs.length + sumN (zs.take i))).take z.toNat).map V.int))) := same_upd hp4
      refine ⟨p4, _, rfl, .inl ⟨.inl (.inl upd_same), fun p5 hp5 => ?_⟩⟩
      have m5 := m4.trans (same_upd (o := .tup (((cs.drop (rs.length + sumN (zs.take i))).take z.toNat).map V.int)) hp5)
      have k5 : (upd (upd H' p4 (.lst (((cs.drop (rs.length + sumN (zs.take i))).take z.toNat).map V.int))) p5 (.tup (((cs.drop (rs.length + sumN (zs.take i))).take z.toNat).map V.int))) p5 = some (.tup (((cs.drop (rs.length + sumN (zs.take i))).take z.toNat).map V.int)) := upd_same
      generalize upd (upd H' p4 (.lst (((cs.drop (rs.length + sumN (zs.take i))).take z.toNat).map V.int))) p5 (.tup (((cs.drop (rs.length + sumN (zs.take i))).take z.toNat).map V.int)) = H12 at m5 k5 ⊢
      have kf5 := m5 _ _ kf
      have hql2 : qs2.length = i := by
        rw [segV_len sv, segs_len, List.length_take]
        omega
      have ek : zs.take (i + 1) = zs.take i ++ [z] := by rw [List.take_add_one, hz1]; rfl
      refine ⟨f, _, _, rfl, rfl, kf5, ?_, .int (rs.length + sumN (zs.take i) : Nat), rfl, .int z, rfl, (rs.length + sumN (zs.take i) : Nat), z, rfl, rfl, ⟨some (.int z), ?_⟩, same_of (sm.trans m5) nf, ?_, qs2 ++ [p5], ?_, ?_⟩
      · rw [List.length_map]
        exact small1000 (by omega)
      · rw [ek, sumN_snoc]
        have : (((rs.length + sumN (zs.take i) : Nat) : Int) + z) = ((rs.length + (sumN (zs.take i) + z.toNat) : Nat) : Int) := by omega
        show [_, _, _, _, _, _, _, _, some (V.int (((rs.length + sumN (zs.take i) : Nat) : Int) + z)), _, _] = _
        rw [this]
      · rw [upd_ne (fun e => by rw [e, kf] at kc1; cases kc1)]
        exact m5 _ _ kc1
      · rw [upd_same, List.map_append]
        rfl
      · rw [ek, segs_snoc]
        refine segV_imp (fun b xs hb => ?_) (segV_snoc k5 (segV_imp (fun b xs hb => m5 _ _ hb) sv))
        rw [upd_ne (fun e => by rw [e, kf5] at hb; cases hb)]
        exact hb
    · subst es
      rw [List.length_map, List.take_length] at sv
      refine ⟨.int t, rfl, .ref ca, rfl, .ref f, rfl, f, _, rfl, .inl ⟨.inl (.inl kf), fun sh hsh => ⟨(by show 3 ≤ sizeLine; decide), fun t2 ht2 => ?_⟩⟩⟩
      have ksh : (upd H' sh (.tup (qs2.map V.ref))) sh = some (.tup (qs2.map V.ref)) := upd_same
      have m6 : Same H' (upd (upd H' sh (.tup (qs2.map V.ref))) t2 (.tup [.int t, .ref ca, .ref sh])) := (same_upd hsh).trans (same_upd ht2)
      have lay : LayAt (upd (upd H' sh (.tup (qs2.map V.ref))) t2 (.tup [.int t, .ref ca, .ref sh])) ca sh (cs.take rs.length) (segs cs rs.length zs) :=
        ⟨m6 _ _ kc1, qs2, by rw [upd_ne (ne_of_none ksh ht2)]; exact ksh, segV_imp (fun b xs hb => m6 _ _ hb) sv⟩
      have hcl : cs.length = rs.length + sumN zs := pl
      refine q _ t2 t (spl rs.length zs cs) (S9.same (sm.trans m6)) ⟨ca, sh, .inl (.inl upd_same), lay.t⟩ ⟨⟨by omega, by omega⟩, spl_fits hcl, by rw [join_spl hcl]; exact po⟩ ht (by rw [join_spl hcl]; exact p97)
end
end Sv
set_option maxHeartbeats 4000000
namespace Sv
open PySem PySem.Spec PyProof.Rows L2
def spKV (ks : List Int) (ps : List Addr) : List (Key × V) := (ks.zip ps).map fun x => (Sum.inl x.1, V.ref x.2)
theorem spKV_snoc {ks : List Int} {ps : List Addr} (h : ks.length = ps.length) (k : Int) (p : Addr) : spKV (ks ++ [k]) (ps ++ [p]) = spKV ks ps ++ [(Sum.inl k, V.ref p)] := by
  unfold spKV
  rw [List.zip_append h, List.map_append]
  rfl
theorem spKV_new {ks : List Int} {ps : List Addr} {k : Int} {v : V} (h : k ∉ ks) : putK (spKV ks ps) (Sum.inl k) v = spKV ks ps ++ [(Sum.inl k, v)] := by
  unfold putK
  rw [if_neg]
  intro z
  obtain ⟨kv, hkv, e⟩ := List.any_eq_true.mp z
  unfold spKV at hkv
  obtain ⟨⟨a, b⟩, hab, rfl⟩ := List.mem_map.mp hkv
  have e1 : (Sum.inl a : Key) = Sum.inl k := of_decide_eq_true e
  have e2 : a = k := Sum.inl.inj e1
  exact h (by rw [← e2]; exact (List.of_mem_zip hab).1)
/-- at d the places ts by the parcels ks -/
structure SpotsAt (H : Hp) (d : Addr) (ks : List Int) (ts : List (List V)) : Prop where
  ex : ∃ ps : List Addr, H d = some (.dK (spKV ks ps)) ∧ TupsV H ps ts ∧ ks.length = ps.length
theorem SpotsAt.same {H H' : Hp} {d : Addr} {ks : List Int} {ts : List (List V)} (x : SpotsAt H d ks ts) (e : Same H H') : SpotsAt H' d ks ts := by
  obtain ⟨ps, h1, h2, h3⟩ := x.ex
  exact ⟨ps, e _ _ h1, tupsV_same e h2, h3⟩
theorem SpotsAt.push {H : Hp} {d p : Addr} {ks : List Int} {ts : List (List V)} {k : Int} {t : List V} {kvs : List (Key × V)} (x : SpotsAt H d ks ts) (hd : H d = some (.dK kvs)) (hp : H p = some (.tup t)) (hk : k ∉ ks) :
    SpotsAt (upd H d (.dK (putK kvs (Sum.inl k) (.ref p)))) d (ks ++ [k]) (ts ++ [t]) := by
  obtain ⟨ps, h1, h2, h3⟩ := x.ex
  rw [hd] at h1
  obtain rfl : kvs = spKV ks ps := by injection Option.some.inj h1
  refine ⟨ps ++ [p], by rw [upd_same, spKV_new hk, spKV_snoc h3], tupsV_imp (fun b xs q => ?_) (tupsV_snoc h2 hp), by rw [List.length_append, List.length_append, h3]; rfl⟩
  rw [upd_ne (fun z => by rw [z, hd] at q; cases q)]
  exact q
end Sv
set_option maxHeartbeats 4000000
namespace Sv
open PySem PySem.Spec PyProof.Rows L2
def wKV (t : Int) (hc hs : Addr) : List (Key × V) := [(Sum.inr "time", .int t), (Sum.inr "carried", .ref hc), (Sum.inr "shelves", .ref hs)]
/-- at w time, carried and shelves as they are now -/
structure W3 (H : Hp) (wa hc hs : Addr) (rw : List Addr) (t : Int) (L : Lay Int) : Prop where
  w : H wa = some (.dK (wKV t hc hs))
  c : H hc = some (.lst (L.1.map V.int))
  s : H hs = some (.lst (rw.map V.ref))
  r : RowL H rw L.2
  nd : rw.Nodup
  hcr : hc ∉ rw
  hsr : hs ∉ rw
  hcs : hc ≠ hs
theorem W3.same {H H' : Hp} {wa hc hs : Addr} {rw : List Addr} {t : Int} {L : Lay Int} (x : W3 H wa hc hs rw t L) (e : Same H H') : W3 H' wa hc hs rw t L :=
  ⟨e _ _ x.w, e _ _ x.c, e _ _ x.s, rowL_imp (fun q _ o ho => e _ _ ho) x.r, x.nd, x.hcr, x.hsr, x.hcs⟩
/-- all but F stays -/
def Off (F : List Addr) (H H' : Hp) : Prop := ∀ b o, b ∉ F → H b = some o → H' b = some o
theorem Off.refl (F : List Addr) (H : Hp) : Off F H H := fun _ _ _ h => h
theorem Off.trans {F : List Addr} {H H1 H2 : Hp} (a : Off F H H1) (b : Off F H1 H2) : Off F H H2 := fun c o n h => b c o n (a c o n h)
theorem Off.upd {F : List Addr} {H : Hp} {p : Addr} {o : HO} (h : p ∈ F) : Off F H (L2.upd H p o) := fun b u n e => by
  rw [upd_ne (fun z : b = p => n (by rw [z]; exact h))]
  exact e
abbrev foot (wa hc : Addr) (rw : List Addr) : List Addr := wa :: hc :: rw
end Sv
set_option maxHeartbeats 4000000
set_option maxHeartbeats 4000000
namespace Sv
open PySem PySem.Spec PyProof.Rows L2
def dTi (l : List Int) : PyData := .tuple (l.map PyData.int)
def dSt (t : Int) (L : Lay Int) : PyData := .tuple [.int t, dTi L.1, .tuple (L.2.map dTi)]
theorem dpAll_int {K : PySem.W.Frag} {H : Hp} : ∀ l : List Int, DpAll K H (l.map V.int) (l.map PyData.int)
  | [] => .nil
  | i :: l => .cons (.int i) (dpAll_int l)
theorem dp_ti {K : PySem.W.Frag} {H : Hp} {a : Addr} {l : List Int} (h : SqT K H a (l.map V.int)) : Dp K H (.ref a) (dTi l) := .tup h (dpAll_int l)
theorem dpAll_ti {K : PySem.W.Frag} {H : Hp} : ∀ {qs : List Addr} {ss : List (List Int)}, Paired (fun q s => SqT K H q (s.map V.int)) qs ss → DpAll K H (qs.map V.ref) (ss.map dTi)
  | _, _, .nil => .nil
  | _, _, .cons h t => .cons (dp_ti h) (dpAll_ti t)
theorem dp_state {K : PySem.W.Frag} {H : Hp} {s : Addr} {t : Int} {L : Lay Int} (x : StateAt K H s t L) : Dp K H (.ref s) (dSt t L) := by
  obtain ⟨ca, sh, h1, h2⟩ := x.ex
  obtain ⟨qs, h3, h4⟩ := h2.s
  exact .tup h1 (.cons (.int t) (.cons (dp_ti h2.c) (.cons (.tup h3 (dpAll_ti h4)) .nil)))
theorem okD_i (n : Nat) (i : Int) : okD n (.int i) = true := by cases n <;> rfl
theorem okDs_int (n : Nat) : ∀ l : List Int, okDs n (l.map PyData.int) = true
  | [] => by unfold okDs; rfl
  | i :: l => by
    rw [List.map_cons]
    unfold okDs
    rw [okDs_int n l, Bool.and_true]
    exact okD_i n i
theorem okD_ti {n : Nat} {l : List Int} (h : l.length ≤ 1000) : okD (n + 1) (dTi l) = true := by
  unfold dTi okD
  rw [okDs_int, List.length_map, decide_eq_true h]
  rfl
theorem okDs_ti {n : Nat} : ∀ {ss : List (List Int)}, (∀ s ∈ ss, s.length ≤ 1000) → okDs (n + 1) (ss.map dTi) = true
  | [], _ => by unfold okDs; rfl
  | s :: ss, h => by
    rw [List.map_cons]
    unfold okDs
    rw [okD_ti (h s (List.mem_cons_self ..)), okDs_ti fun x hx => h x (List.mem_cons_of_mem _ hx)]
    rfl
theorem okD_st {n : Nat} {t : Int} {L : Lay Int} (h1 : L.1.length ≤ 1000) (h2 : L.2.length ≤ 1000) (h3 : ∀ s ∈ L.2, s.length ≤ 1000) : okD (n + 3) (dSt t L) = true := by
  have e1 : okD (n + 2) (PyData.int t) = true := okD_i _ t
  have e2 : okD (n + 2) (dTi L.1) = true := okD_ti h1
  have e3 : okD (n + 2) (.tuple (L.2.map dTi)) = true := by
    unfold okD
    rw [okDs_ti h3, List.length_map, decide_eq_true h2]
    rfl
  unfold dSt okD
  have : okDs (n + 2) [PyData.int t, dTi L.1, .tuple (L.2.map dTi)] = true := by
    simp only [okDs, e1, e2, e3]
    rfl
  rw [this]
  rfl
end Sv
set_option maxHeartbeats 4000000
set_option maxHeartbeats 1000000
namespace Sv
/-- all things moved -/
def moveA {α : Type} (d : α) (e : List Nat) (cs : List α) : List α := (inv e).map fun i => cs.getD i d
theorem moveA_len {α : Type} (d : α) (e : List Nat) (cs : List α) : (moveA d e cs).length = e.length := by unfold moveA; rw [List.length_map, inv_len]
theorem moveA_at {α : Type} (d : α) {e : List Nat} (E : Eff e) {cs : List α} (hl : cs.length = e.length) {i : Nat} (hi : i < e.length) : (moveA d e cs)[ap e i]? = cs[i]? := by
  unfold moveA
  rw [List.getElem?_map, ap_at (by rw [inv_len]; exact ap_lt E hi), inv_ap E hi, Option.map_some, List.getD_eq_getElem?_getD, List.getElem?_eq_getElem (by omega)]
  rfl
theorem moveA_range {α : Type} (d : α) (cs : List α) : moveA d (List.range cs.length) cs = cs := by
  unfold moveA
  rw [inv_range, map_getD]
section
variable {α : Type} (d : α) (zs : List Int) (rs : List Ro)
/-- a layout of the time t after c ticks -/
noncomputable def advA (t c : Int) (L : Lay α) : Lay α := spl rs.length zs (moveA d (effT rs.length zs rs t c) (join L))
theorem advA_fits (t c : Int) (L : Lay α) : Fits rs.length zs (advA d zs rs t c L) := spl_fits (by rw [moveA_len, effT_len])
theorem join_advA (t c : Int) (L : Lay α) : join (advA d zs rs t c L) = moveA d (effT rs.length zs rs t c) (join L) := join_spl (by rw [moveA_len, effT_len])
variable {rs}
variable (h : ∀ r ∈ rs, r ≠ []) (hp : 1 ≤ lc rs)
include h hp
theorem advA_nat (t : Int) (k : Nat) {L : Lay α} (hf : Fits rs.length zs L) : advA d zs rs t (k : Nat) L = run rs t k L := by
  unfold advA
  rw [effT_nat rs.length zs h hp]
  unfold fwd moveA
  rw [inv_inv (org_eff ..), ← run_org d hf, spl_join (run_fits rs t k hf)]
end
end Sv
set_option maxHeartbeats 4000000
namespace Sv
open PySem PySem.Spec PyProof.Rows L2
/-- a valid plan, one of its states -/
structure PS0 (K : PySem.W.Frag) (H : Hp) (p s : Addr) (zs : List Int) (rs : List Ro) (t : Int) (L : Lay Int) : Prop where
  p : PlanAt K H p zs rs
  v : Val zs rs
  s : StateAt K H s t L
  o : StOk zs rs t L
theorem PS0.imp {K : PySem.W.Frag} {H H' : Hp} {p s : Addr} {zs : List Int} {rs : List Ro} {t : Int} {L : Lay Int} (x : PS0 K H p s zs rs t L) (e : ∀ a xs, SqT K H a xs → SqT K H' a xs) : PS0 K H' p s zs rs t L := by
  obtain ⟨a, b, h1, h2, h3⟩ := x.p.ex
  obtain ⟨qs, h4, h5⟩ := h3.ex
  exact ⟨⟨a, b, e _ _ h1, e _ _ h2, qs, e _ _ h4, paired_imp (K := K) e h5⟩, x.v, x.s.imp e, x.o⟩
theorem plan_imp {K : PySem.W.Frag} {H H' : Hp} {p : Addr} {zs : List Int} {rs : List Ro} (x : PlanAt K H p zs rs) (e : ∀ a xs, SqT K H a xs → SqT K H' a xs) : PlanAt K H' p zs rs := by
  obtain ⟨a, b, h1, h2, h3⟩ := x.ex
  obtain ⟨qs, h4, h5⟩ := h3.ex
  exact ⟨a, b, e _ _ h1, e _ _ h2, qs, e _ _ h4, paired_imp (K := K) e h5⟩
def vAdvance (K : PySem.W.Frag) : Sp := fun vs H Q _ => ∃ (p s : Addr) (zs : List Int) (rs : List Ro) (t c : Int) (L : Lay Int), vs = [.ref p, .ref s, .int c] ∧ PS0 K H p s zs rs t L ∧ CtOk c ∧
  ∀ H' s', Same H H' → StateAt K H' s' (t + c) (advA 0 zs rs t c L) → Q (.ref s') H'
@[irreducible] def qPlanG (K : PySem.W.Frag) : Sp := spPlanG K
@[irreducible] def qState (K : PySem.W.Frag) : Sp := spState K
@[irreducible] def qAdvance (K : PySem.W.Frag) : Sp := vAdvance K
section
variable {K : PySem.W.Frag} {H : Hp} {Q : VK} {E : XK}
theorem go_planG {h l : Addr} {ns nc : Int} (L : LawH H h l) (h1 : 1 ≤ ns ∧ ns ≤ 12) (h2 : 1 ≤ nc ∧ nc ≤ 6) (q : ∀ H' p zs rs, St h l H H' → PlanAt K H' p zs rs → Val zs rs → (zs.length : Int) ≤ ns → (rs.length : Int) ≤ nc → Q (.ref p) H') : qPlanG K [.ref h, .int ns, .int nc] H Q E := by
  unfold qPlanG
  exact ⟨h, l, ns, nc, rfl, L, h1, h2, q⟩
theorem go_state97 {h l p : Addr} {zs : List Int} {rs : List Ro} (L : LawH H h l) (hp : PlanAt K H p zs rs) (hv : Val zs rs) (q : ∀ H' s t L, St h l H H' → StateAt K H' s t L → StOk zs rs t L → (-50 ≤ t ∧ t ≤ 1000000000000000) → (∀ x ∈ join L, x ≤ 997) → Q (.ref s) H') : qState K [.ref h, .ref p] H Q E := by
  unfold qState
  exact ⟨h, l, p, zs, rs, rfl, L, hp, hv, q⟩
theorem go_advance {p s : Addr} {zs : List Int} {rs : List Ro} {t c : Int} {L : Lay Int} (x : PS0 K H p s zs rs t L) (hc : CtOk c) (q : ∀ H' s', Same H H' → StateAt K H' s' (t + c) (advA 0 zs rs t c L) → Q (.ref s') H') : qAdvance K [.ref p, .ref s, .int c] H Q E := by
  unfold qAdvance
  exact ⟨p, s, zs, rs, t, c, L, rfl, x, hc, q⟩
end
theorem sqT_st {K : PySem.W.Frag} {h l : Addr} {H H' : Hp} (L : LawH H h l) (S : St h l H H') : ∀ a xs, SqT K H a xs → SqT K H' a xs := fun a xs s => sqT_x L S.k s
/-- states behind ticks are valid, too -/
theorem moveA_mem {d : Int} {e : List Nat} (E : Eff e) {cs : List Int} (hl : cs.length = e.length) : (moveA d e cs).Perm cs := by
  have p1 : (inv e).Perm (List.range cs.length) := by
    have I := inv_eff E
    have il := inv_len e
    refine (List.perm_ext_iff_of_nodup I.2 List.nodup_range).mpr fun x => ⟨fun hx => ?_, fun hx => ?_⟩
    · have := I.1 x hx
      exact List.mem_range.mpr (by omega)
    · have hx' := List.mem_range.mp hx
      have h1 := ap_at (e := inv e) (x := ap e x) (by rw [il]; exact ap_lt E (by omega))
      rw [inv_ap E (by omega)] at h1
      exact List.mem_of_getElem? h1
  have := p1.map fun i => cs.getD i d
  rw [map_getD d cs] at this
  exact this
theorem okP_perm {a b : List Int} (p : a.Perm b) (h : OkP b) : OkP a := ⟨fun x hx => h.1 x (p.mem_iff.mp hx), p.nodup_iff.mpr h.2⟩
theorem advA_perm {zs : List Int} {rs : List Ro} (t c : Int) {L : Lay Int} (hf : Fits rs.length zs L) : (join (advA 0 zs rs t c L)).Perm (join L) := by
  rw [join_advA]
  exact moveA_mem (effT_eff ..) (by rw [join_len hf, effT_len])
theorem advA_ok {zs : List Int} {rs : List Ro} {t c : Int} {L : Lay Int} (o : StOk zs rs t L) (h : TimeOk (t + c)) : StOk zs rs (t + c) (advA 0 zs rs t c L) :=
  ⟨h, advA_fits .., okP_perm (advA_perm t c o.f) o.p⟩
theorem Val.rne {zs : List Int} {rs : List Ro} (v : Val zs rs) : ∀ r ∈ rs, r ≠ [] := fun r hr => (v.ne r hr).1
theorem Val.lc1 {zs : List Int} {rs : List Ro} (v : Val zs rs) : 1 ≤ lc rs := (lc_le v.r2).1
theorem placesV_len (zs : List Int) (n : Nat) (h : ∀ z ∈ zs, 0 ≤ z) : (placesV zs n).length = n + sumN zs := by
  unfold placesV
  rw [List.length_append, carV_len]
  congr 1
  have : ∀ k, k ≤ zs.length → (shN zs k).length = sumN (zs.take k) := by
    intro k
    induction k with
    | zero => intro _; rfl
    | succ k ih =>
      intro hk
      unfold shN
      rw [List.length_append, ih (by omega), posV_len]
      have g : zs[k]? = some zs[k] := List.getElem?_eq_getElem (by omega)
      rw [List.take_add_one, g, List.getD_eq_getElem?_getD, g]
      show sumN (zs.take k) + zs[k].toNat = sumN (zs.take k ++ [zs[k]])
      rw [sumN_snoc]
  have := this zs.length (Nat.le_refl _)
  rw [List.take_length] at this
  exact this
end Sv
set_option maxHeartbeats 4000000
namespace Sv
open PySem PySem.Spec PyProof.Rows L2
/-- another list of ours is changed -/
theorem W3.upd {H : Hp} {wa hc hs f : Addr} {rw : List Addr} {t : Int} {L : Lay Int} {o : HO} (x : W3 H wa hc hs rw t L) (h1 : f ∉ foot wa hc rw) (h2 : f ≠ hs) : W3 (L2.upd H f o) wa hc hs rw t L := by
  have n1 : wa ≠ f := fun z => h1 (by rw [← z]; exact List.mem_cons_self ..)
  have n2 : hc ≠ f := fun z => h1 (by rw [← z]; exact List.mem_cons_of_mem _ (List.mem_cons_self ..))
  have n3 : ∀ q ∈ rw, q ≠ f := fun q hq z => h1 (by rw [← z]; exact List.mem_cons_of_mem _ (List.mem_cons_of_mem _ hq))
  exact ⟨by rw [upd_ne n1]; exact x.w, by rw [upd_ne n2]; exact x.c, by rw [upd_ne (Ne.symm h2)]; exact x.s, rowL_imp (fun q hq o ho => by rw [upd_ne (n3 q hq)]; exact ho) x.r, x.nd, x.hcr, x.hsr, x.hcs⟩
theorem W3.new {H : Hp} {wa hc hs f : Addr} {rw : List Addr} {t : Int} {L : Lay Int} (x : W3 H wa hc hs rw t L) (h : H f = none) : f ∉ foot wa hc rw ∧ f ≠ hs := by
  refine ⟨fun m => ?_, fun z => by rw [z, x.s] at h; cases h⟩
  rcases List.mem_cons.mp m with z | m
  · rw [z, x.w] at h
    cases h
  rcases List.mem_cons.mp m with z | m
  · rw [z, x.c] at h
    cases h
  · exact rowL_free x.r h m
theorem okD_l {n : Nat} {ds : List PyData} (h : ds.length ≤ 1000) (o : okDs n ds = true) : okD (n + 1) (.list ds) = true := by
  unfold okD
  rw [o, decide_eq_true h]
  rfl
theorem okD_t {n : Nat} {ds : List PyData} (h : ds.length ≤ 1000) (o : okDs n ds = true) : okD (n + 1) (.tuple ds) = true := by
  unfold okD
  rw [o, decide_eq_true h]
  rfl
theorem okDs_2 {n : Nat} {a b : PyData} (h1 : okD n a = true) (h2 : okD n b = true) : okDs n [a, b] = true := by
  simp only [okDs, h1, h2]
  rfl
def vD : V → PyData
  | .int i => .int i
  | .str x => .str x
  | .bl b => .bool b
  | _ => .none
def flI : V → Bool
  | .int _ => true
  | .str _ => true
  | _ => false
theorem nodup_ix {l : List Int} {i j : Nat} {x : Int} (nd : l.Nodup) (h1 : l[i]? = some x) (h2 : l[j]? = some x) : i = j := by
  obtain ⟨a, e1⟩ := List.getElem?_eq_some_iff.mp h1
  obtain ⟨b, e2⟩ := List.getElem?_eq_some_iff.mp h2
  exact (List.getElem_inj nd).mp (e1.trans e2.symm)
end Sv
set_option maxHeartbeats 4000000
namespace Sv
open PySem PySem.Spec PyProof.Rows L2
mutual
/-- no bools, no dicts; texts that can lie anywhere -/
def pld : PyData → Bool
  | .none => true
  | .int _ => true
  | .str x => PyData.canLay0 (.str x)
  | .list xs => pldAll xs
  | .tuple xs => pldAll xs
  | _ => false
def pldAll : List PyData → Bool
  | [] => true
  | d :: ds => pld d && pldAll ds
end
mutual
theorem eqv_pld : ∀ a b : PyData, pld a = true → pld b = true → (PyData.eqv a b = true ↔ a = b)
  | .none, .none, _, _ => by simp [PyData.eqv]
  | .none, .int _, _, _ => by simp [PyData.eqv]
  | .none, .str _, _, _ => by simp [PyData.eqv]
  | .none, .list _, _, _ => by simp [PyData.eqv]
  | .none, .tuple _, _, _ => by simp [PyData.eqv]
  | .int i, .none, _, _ => by simp [PyData.eqv]
  | .int i, .int j, _, _ => by simp [PyData.eqv]
  | .int i, .str _, _, _ => by simp [PyData.eqv]
  | .int i, .list _, _, _ => by simp [PyData.eqv]
  | .int i, .tuple _, _, _ => by simp [PyData.eqv]
  | .str x, .none, _, _ => by simp [PyData.eqv]
  | .str x, .int _, _, _ => by simp [PyData.eqv]
  | .str x, .str y, _, _ => by simp [PyData.eqv]
  | .str x, .list _, _, _ => by simp [PyData.eqv]
  | .str x, .tuple _, _, _ => by simp [PyData.eqv]
  | .list x, .none, _, _ => by simp [PyData.eqv]
  | .list x, .int _, _, _ => by simp [PyData.eqv]
  | .list x, .str _, _, _ => by simp [PyData.eqv]
  | .list x, .tuple _, _, _ => by simp [PyData.eqv]
  | .list x, .list y, h1, h2 => by
    unfold pld at h1 h2
    rw [PyData.eqv, eqv_pldAll x y h1 h2]
    exact ⟨fun e => by rw [e], fun e => by injection e⟩
  | .tuple x, .none, _, _ => by simp [PyData.eqv]
  | .tuple x, .int _, _, _ => by simp [PyData.eqv]
  | .tuple x, .str _, _, _ => by simp [PyData.eqv]
  | .tuple x, .list _, _, _ => by simp [PyData.eqv]
  | .tuple x, .tuple y, h1, h2 => by
    unfold pld at h1 h2
    rw [PyData.eqv, eqv_pldAll x y h1 h2]
    exact ⟨fun e => by rw [e], fun e => by injection e⟩
  | .bool _, _, h, _ => by simp [pld] at h
  | .dict _, _, h, _ => by simp [pld] at h
  | .none, .bool _, _, h => by simp [pld] at h
  | .none, .dict _, _, h => by simp [pld] at h
  | .int _, .bool _, _, h => by simp [pld] at h
  | .int _, .dict _, _, h => by simp [pld] at h
  | .str _, .bool _, _, h => by simp [pld] at h
  | .str _, .dict _, _, h => by simp [pld] at h
  | .list _, .bool _, _, h => by simp [pld] at h
  | .list _, .dict _, _, h => by simp [pld] at h
  | .tuple _, .bool _, _, h => by simp [pld] at h
  | .tuple _, .dict _, _, h => by simp [pld] at h
theorem eqv_pldAll : ∀ a b : List PyData, pldAll a = true → pldAll b = true → (PyData.eqvAll a b = true ↔ a = b)
  | [], [], _, _ => by simp [PyData.eqvAll]
  | [], _ :: _, _, _ => by simp [PyData.eqvAll]
  | _ :: _, [], _, _ => by simp [PyData.eqvAll]
  | x :: a, y :: b, h1, h2 => by
    unfold pldAll at h1 h2
    rw [Bool.and_eq_true] at h1 h2
    rw [PyData.eqvAll, Bool.and_eq_true, eqv_pld x y h1.1 h2.1, eqv_pldAll a b h1.2 h2.2, List.cons.injEq]
end
mutual
theorem can_pld : ∀ a : PyData, pld a = true → PyData.canLay0 a = true
  | .none, _ => by simp [PyData.canLay0]
  | .int _, _ => by simp [PyData.canLay0]
  | .str x, h => by unfold pld at h; exact h
  | .list x, h => by
    unfold pld at h
    rw [PyData.canLay0]
    exact can_pldAll x h
  | .tuple x, h => by
    unfold pld at h
    rw [PyData.canLay0]
    exact can_pldAll x h
  | .bool _, h => by simp [pld] at h
  | .dict _, h => by simp [pld] at h
theorem can_pldAll : ∀ a : List PyData, pldAll a = true → PyData.canLayAll0 a = true
  | [], _ => by simp [PyData.canLayAll0]
  | x :: a, h => by
    unfold pldAll at h
    rw [Bool.and_eq_true] at h
    rw [PyData.canLayAll0, can_pld x h.1, can_pldAll a h.2]
    rfl
end
mutual
theorem dep_okD : ∀ (n : Nat) (a : PyData), okD n a = true → PyData.depth a ≤ n
  | _, .none, _ => by simp [PyData.depth]
  | _, .int _, _ => by simp [PyData.depth]
  | _, .str _, _ => by simp [PyData.depth]
  | _, .bool _, _ => by simp [PyData.depth]
  | 0, .list _, h => by simp [okD] at h
  | 0, .tuple _, h => by simp [okD] at h
  | n + 1, .list x, h => by
    unfold okD at h
    rw [Bool.and_eq_true] at h
    rw [PyData.depth]
    have := dep_okDs n x h.2
    omega
  | n + 1, .tuple x, h => by
    unfold okD at h
    rw [Bool.and_eq_true] at h
    rw [PyData.depth]
    have := dep_okDs n x h.2
    omega
  | 0, .dict _, h => by simp [okD] at h
  | n + 1, .dict _, h => by simp [okD] at h
theorem dep_okDs : ∀ (n : Nat) (a : List PyData), okDs n a = true → PyData.depthAll a ≤ n
  | _, [], _ => by simp [PyData.depthAll]
  | n, x :: a, h => by
    unfold okDs at h
    rw [Bool.and_eq_true] at h
    rw [PyData.depthAll]
    have h1 := dep_okD n x h.1
    have h2 := dep_okDs n a h.2
    omega
end
theorem shaped_of {a : PyData} {n : Nat} (h : pld a = true) (o : okD n a = true) (hn : n ≤ 64) : SeqAt.shaped a = true := by
  unfold SeqAt.shaped
  rw [can_pld a h, decide_eq_true (Nat.le_trans (dep_okD n a o) hn)]
  rfl
open Classical in
theorem ne_go {K : PySem.W.Frag} {H : Hp} {x y : V} {a b : PyData} {Q : VK} {n m : Nat} (h1 : Dp K H x a) (h2 : Dp K H y b) (p1 : pld a = true) (p2 : pld b = true) (o1 : okD n a = true) (o2 : okD m b = true) (hn : n ≤ 64) (hm : m ≤ 64) (q : Q (.bl (!decide (a = b))) H) : qNe K x y H Q := by
  unfold qNe
  refine ⟨a, b, h1, h2, shaped_of p1 o1 hn, shaped_of p2 o2 hm, ?_⟩
  have e : PyData.eqv a b = decide (a = b) := by
    rw [Bool.eq_iff_iff, eqv_pld a b p1 p2, decide_eq_true_iff]
  rw [e]
  exact q
section
open Classical
variable {K : PySem.W.Frag} {H : Hp} {x y : V} {a b : PyData} {Q : VK} {n m : Nat}
theorem ne_same (h1 : Dp K H x a) (h2 : Dp K H y a) (p : pld a = true) (o : okD n a = true) (hn : n ≤ 64) (q : Q (.bl false) H) : qNe K x y H Q :=
  ne_go h1 h2 p p o o hn hn (by rw [decide_eq_true rfl]; exact q)
theorem ne_diff (h1 : Dp K H x a) (h2 : Dp K H y b) (p1 : pld a = true) (p2 : pld b = true) (o1 : okD n a = true) (o2 : okD m b = true) (hn : n ≤ 64) (hm : m ≤ 64) (d : a ≠ b) (q : Q (.bl true) H) : qNe K x y H Q :=
  ne_go h1 h2 p1 p2 o1 o2 hn hm (by rw [decide_eq_false d]; exact q)
end
theorem pldAll_int : ∀ l : List Int, pldAll (l.map PyData.int) = true
  | [] => by unfold pldAll; rfl
  | i :: l => by
    rw [List.map_cons]
    unfold pldAll
    rw [pldAll_int l, Bool.and_true]
    unfold pld
    rfl
theorem pld_ti (l : List Int) : pld (dTi l) = true := by
  unfold dTi pld
  exact pldAll_int l
theorem pldAll_ti : ∀ ss : List (List Int), pldAll (ss.map dTi) = true
  | [] => by unfold pldAll; rfl
  | s :: ss => by
    rw [List.map_cons]
    unfold pldAll
    rw [pld_ti, pldAll_ti ss]
    rfl
/-- what is carried and on the shelves -/
def dTl (L : Lay Int) : PyData := .tuple [dTi L.1, .tuple (L.2.map dTi)]
theorem pld_tl (L : Lay Int) : pld (dTl L) = true := by
  unfold dTl
  simp only [pld, pldAll, pld_ti, pldAll_ti]
  rfl
theorem okD_tl {n : Nat} {L : Lay Int} (h1 : L.1.length ≤ 1000) (h2 : L.2.length ≤ 1000) (h3 : ∀ s ∈ L.2, s.length ≤ 1000) : okD (n + 3) (dTl L) = true :=
  okD_t (by show 2 ≤ 1000; decide) (okDs_2 (okD_ti h1) (okD_t (by rw [List.length_map]; exact h2) (okDs_ti h3)))
/-- the places, told apart -/
inductive IsPl : List V → Prop
  | car (c : Nat) : IsPl [V.str "carrier", V.int (c : Nat)]
  | pos (s p : Nat) : IsPl [V.str "shelf", V.int (s : Nat), V.int (p : Nat)]
theorem placesV_is {zs : List Int} {n : Nat} : ∀ pl ∈ placesV zs n, IsPl pl := by
  intro pl h
  unfold placesV at h
  rcases List.mem_append.mp h with h | h
  · unfold carV at h
    obtain ⟨c, _, rfl⟩ := List.mem_map.mp h
    exact .car c
  · have key : ∀ k, ∀ pl ∈ shN zs k, IsPl pl := by
      intro k
      induction k with
      | zero => intro pl h; cases h
      | succ k ih =>
        intro pl h
        unfold shN at h
        rcases List.mem_append.mp h with h | h
        · exact ih pl h
        · unfold posV at h
          obtain ⟨c, _, rfl⟩ := List.mem_map.mp h
          exact .pos k c
    exact key _ pl h
theorem V_int_nat {a b : Nat} (h : V.int (a : Int) = V.int (b : Int)) : a = b := by
  have := V.int.inj h
  omega
theorem pld_int (i : Int) : pld (.int i) = true := by unfold pld; rfl
end Sv
set_option maxHeartbeats 4000000
set_option maxHeartbeats 4000000
namespace Sv
open PySem PySem.Spec PyProof.Rows L2
section
variable {P : Program} {w : World} {K : PySem.W.Frag} {mg : Str → Option Value} {base : Heap}
theorem scCheckParcel : FnScope ["parcels", "parcel"] ["parcels", "parcel"] (defScope sCheckParcel) := ⟨rfl, rfl, rfl, by decide +kernel, rfl, by decide +kernel, by decide +kernel⟩
theorem scPlaceOfParcel : FnScope ["state", "parcel", "parcels"] ["state", "parcel"] (defScope sPlaceOfParcel) := ⟨rfl, rfl, rfl, by decide +kernel, rfl, by decide +kernel, by decide +kernel⟩
theorem scStartOf : FnScope ["plan", "state", "parcel"] ["plan", "state", "parcel"] (defScope sStartOf) := ⟨rfl, rfl, rfl, by decide +kernel, rfl, by decide +kernel, by decide +kernel⟩
theorem room65 {A : Around} {k : Nat} (hr : Room k A) : A.units + 65 < cLine := by
  have := hr.un
  omega
theorem flat_ints (ns : List Int) : (ns.map V.int).all flatV = true := by
  rw [List.all_map]
  exact List.all_eq_true.mpr fun _ _ => rfl
theorem eqV_int (a b : Int) : eqV (.int a) (.int b) = decide (a = b) := by
  show (a == b) = _
  by_cases h : a = b <;> simp [h]
theorem inV_ints (x : Int) (ns : List Int) : inV (.int x) (ns.map V.int) = decide (x ∈ ns) := by
  unfold inV
  rw [List.any_map]
  by_cases h : x ∈ ns
  · rw [decide_eq_true h]
    exact List.any_eq_true.mpr ⟨x, h, by show eqV (.int x) (.int x) = true; rw [eqV_int]; simp⟩
  · rw [decide_eq_false h]
    refine List.any_eq_false.mpr fun y hy => ?_
    show ¬ eqV (.int y) (.int x) = true
    rw [eqV_int]
    simp only [decide_eq_true_eq]
    exact fun e => h (by rw [← e]; exact hy)
def spCheckParcel (K : PySem.W.Frag) (CU : Addr) : Sp := fun vs H Q E => ∃ (l : Addr) (ns : List Int) (x : Int), vs = [.ref l, .int x] ∧ (SqL K H l (ns.map V.int) ∨ SqT K H l (ns.map V.int)) ∧ (∀ y ∈ ns, 1 ≤ y ∧ y ≤ 999) ∧ (x ∈ ns → Q .non H) ∧ (x ∉ ns → E (.ref CU) none H)
theorem ok_checkParcel (T : Bd P K mg) : FnOk P w K mg base (L2.CX P w) 2 T.aCheckParcel T.dCheckParcel ["parcels", "parcel"] (spCheckParcel K T.CUr) := by
  have GW : FnOk P w K mg base CX0 1 T.aWithin T.dWithin ["number", "low", "high"] spWithin := ok_within T.Within.F T.bt.isinstance T.bt.bool T.bt.int
  obtain ⟨tl, hlast⟩ := T.lastP
  refine T.CheckParcel.F.okX scCheckParcel (fun vs H Q E h => ?_) (fun cdv A outer s H vs Q E hr h => ?_)
  · obtain ⟨l, ns, x, rfl, _⟩ := h
    rfl
  · obtain ⟨l, ns, x, rfl, hS, hb, q1, q2⟩ := h
    refine ⟨_, (pss_one (ps_if (pw_or (pt_not (pt_val (pe_call (E := E0) GW hr (by rfl) T.Within.g T.Within.F.kp T.Within.b .nil pass0 (pa_cons (pv 1) (pa_cons pe_int (pa_cons (pe_glob (v := .int 999) (by rfl) hlast ⟨_, rfl⟩) pa_nil)))))) (pw_or1 (pt_cmpR op_notIn_seq (pv 1) (pv 0) (by rfl)))).pt (pss_one (ps_raise rfl (takes_of rfl rfl rfl rfl) (pmk_own PySem.F.excBase_ValueError T.cur.x T.cur.g T.cur.k (raises_own T.cur.b T.cur.t) rfl))) pss_nil)), ?_⟩
    refine ⟨.int x, rfl, x, 1, 999, rfl, _, rfl, ?_⟩
    by_cases hx : 1 ≤ x ∧ x ≤ 999
    · rw [decide_eq_true hx]
      refine iteF ⟨.int x, rfl, .ref l, rfl, l, _, rfl, hS, rfl, flat_ints _, _, rfl, ?_⟩
      rw [inV_ints]
      by_cases hm : x ∈ ns
      · rw [decide_eq_true hm]
        exact iteF (q1 hm)
      · rw [decide_eq_false hm]
        exact iteT (q2 hm)
    · rw [decide_eq_false hx]
      exact iteT (q2 fun z => hx (hb x z))
def spPlaceOfParcel (K : PySem.W.Frag) (CU : Addr) : Sp := fun vs H Q E => ∃ (s : Addr) (x t : Int) (L : Lay Int), vs = [.ref s, .int x] ∧ StateAt K H s t L ∧ (join L).length ≤ 1000 ∧ OkP (join L) ∧
  (∀ i : Nat, (join L)[i]? = some x → ∀ H', Same H H' → Q (.int (i : Nat)) H') ∧ (x ∉ join L → ∀ H', Same H H' → E (.ref CU) none H')
theorem ok_placeOfParcel (T : Bd P K mg) : FnOk P w K mg base (L2.CX P w) 3 T.aPlaceOfParcel T.dPlaceOfParcel ["state", "parcel"] (spPlaceOfParcel K T.CUr) := by
  have GI : FnOk P w K mg base CX0 2 T.aParcelsIn T.dParcelsIn ["state"] (spParcelsIn K) := ok_parcelsIn T
  have GK : FnOk P w K mg base (L2.CX P w) 2 T.aCheckParcel T.dCheckParcel ["parcels", "parcel"] (spCheckParcel K T.CUr) := ok_checkParcel T
  refine T.PlaceOfParcel.F.okX scPlaceOfParcel (fun vs H Q E h => ?_) (fun cdv A outer s H vs Q E hr h => ?_)
  · obtain ⟨s, x, t, L, rfl, _⟩ := h
    rfl
  · obtain ⟨s, x, t, L, rfl, hst, hl, ok, q1, q2⟩ := h
    refine ⟨_, (pss_cons (ps_set (i := 2) scPlaceOfParcel.nd rfl (Or.inl rfl) (pe_call (E := E0) GI (hr.mono (by decide)) (by rfl) T.ParcelsIn.g T.ParcelsIn.F.kp T.ParcelsIn.b .nil pass0 (pa_cons (pv 0) pa_nil)))
      (pss_cons (ps_expr (pe_call (E := E) GK (hr.mono (by decide)) (by rfl) T.CheckParcel.g T.CheckParcel.F.kp T.CheckParcel.b .nil (passes_call (takes_of rfl rfl rfl rfl) fun _ _ _ _ h => h) (pa_cons (pv 2) (pa_cons (pv 1) pa_nil))))
      (pss_one (ps_ret (pe_bm PySem.F.plainAttrs_list PySem.F.slot_list_index PySem.F.type_list_index mt_index (pv 2) (pa_cons (pv 1) pa_nil)))))), ?_⟩
    refine ⟨.ref s, rfl, s, t, L, rfl, hst, hl, fun H1 f sm1 nf kf => ?_⟩
    refine ⟨.ref f, rfl, .int x, rfl, f, join L, x, rfl, .inl (.inl (.inl kf)), ok.1, fun hm => ?_, fun hm => q2 hm H1 sm1⟩
    obtain ⟨i, hi⟩ := List.mem_iff_getElem?.mp hm
    refine ⟨.ref f, rfl, .inl ⟨rfl, _, .inl (.inl kf)⟩, .int x, rfl, f, _, .int x, i, .int x, rfl, rfl, .inl (.inl kf), rfl, flat_ints _, by rw [List.getElem?_map, hi]; rfl, by rw [eqV_int]; simp, fun m z hm hz => ?_, q1 i hi H1 sm1⟩
    obtain ⟨y, hy, rfl⟩ := iV_lt hz
    rw [eqV_int]
    refine decide_eq_false fun e => ?_
    rw [e] at hy
    obtain ⟨a, e1⟩ := List.getElem?_eq_some_iff.mp hi
    obtain ⟨b, e2⟩ := List.getElem?_eq_some_iff.mp hy
    have := (List.getElem_inj ok.2).mp (e1.trans e2.symm)
    omega
def spStart (K : PySem.W.Frag) (C CS CU : Addr) : Sp := fun vs H Q E => ∃ (p s : Addr) (zs : List Int) (rs : List Ro) (t x : Int) (L : Lay Int), vs = [.ref p, .ref s, .int x] ∧ PlanAt K H p zs rs ∧ Small zs rs ∧ StateAt K H s t L ∧ BadE C zs rs H E ∧
  (bad zs rs = none → ¬ StOk zs rs t L → ∀ H', Same H H' → E (.ref CS) none H') ∧
  (bad zs rs = none → StOk zs rs t L → ∀ i : Nat, (join L)[i]? = some x → ∀ H', Same H H' → Q (.int (i : Nat)) H') ∧
  (bad zs rs = none → StOk zs rs t L → x ∉ join L → ∀ H', Same H H' → E (.ref CU) none H')
theorem ok_startOf (T : Bd P K mg) : FnOk P w K mg base (L2.CX P w) 5 T.aStartOf T.dStartOf ["plan", "state", "parcel"] (spStart K T.C T.CS T.CUr) := by
  have GP : FnOk P w K mg base (L2.CX P w) 4 T.aCheckPlan T.dCheckPlan ["plan"] (spCheckPlan K T.C) := ok_checkPlan T
  have GS : FnOk P w K mg base (L2.CX P w) 3 T.aCheckState T.dCheckState ["plan", "state"] (spCheckState K T.CS) := ok_checkState T
  have GO : FnOk P w K mg base (L2.CX P w) 3 T.aPlaceOfParcel T.dPlaceOfParcel ["state", "parcel"] (spPlaceOfParcel K T.CUr) := ok_placeOfParcel T
  refine T.StartOf.F.okX scStartOf (fun vs H Q E h => ?_) (fun cdv A outer s H vs Q E hr h => ?_)
  · obtain ⟨p, s, zs, rs, t, x, L, rfl, _⟩ := h
    rfl
  · obtain ⟨p, s, zs, rs, t, x, L, rfl, hp, hs, hst, q1, q2, q3, q4⟩ := h
    refine ⟨_, (pss_cons (ps_expr (pe_call (E := E) GP (hr.mono (by decide)) (by rfl) T.CheckPlan.g T.CheckPlan.F.kp T.CheckPlan.b .nil (passes_call (takes_of rfl rfl rfl rfl) fun _ _ _ _ h => h) (pa_cons (pv 0) pa_nil)))
      (pss_cons (ps_expr (pe_call (E := E) GS (hr.mono (by decide)) (by rfl) T.CheckState.g T.CheckState.F.kp T.CheckState.b .nil (passes_call (takes_of rfl rfl rfl rfl) fun _ _ _ _ h => h) (pa_cons (pv 0) (pa_cons (pv 1) pa_nil))))
      (pss_one (ps_ret (pe_call (E := E) GO (hr.mono (by decide)) (by rfl) T.PlaceOfParcel.g T.PlaceOfParcel.F.kp T.PlaceOfParcel.b .nil (passes_call (takes_of rfl rfl rfl rfl) fun _ _ _ _ h => h) (pa_cons (pv 1) (pa_cons (pv 2) pa_nil))))))), ?_⟩
    refine ⟨.ref p, rfl, p, zs, rs, rfl, hp, hs, fun e1 H1 sm1 => ?_, q1⟩
    have hv := val_of e1
    have hn := hv.num
    refine ⟨.ref p, rfl, .ref s, rfl, p, s, zs, rs, t, L, rfl, hp.same sm1, hv, hst.same sm1, fun hok H2 sm2 => ?_, fun hno H2 sm2 => q2 e1 hno H2 (sm1.trans sm2)⟩
    have smA := sm1.trans sm2
    have jl := join_len hok.f
    exact ⟨.ref s, rfl, .int x, rfl, s, x, t, L, rfl, hst.same smA, by omega, hok.p, fun i hi H3 sm3 => q3 e1 hok i hi H3 (smA.trans sm3), fun hno H3 sm3 => q4 e1 hok hno H3 (smA.trans sm3)⟩
def dPl (pl : List V) : PyData := .tuple (pl.map vD)
/-- a flat tuple of numbers and texts, as a caller may pass for a place -/
structure FlP (pl : List V) : Prop where
  f : ∀ v ∈ pl, flI v = true
  d : ∀ v ∈ pl, pld (vD v) = true
  l : pl.length ≤ 8
theorem pldAll_flP : ∀ {pl : List V}, (∀ v ∈ pl, pld (vD v) = true) → pldAll (pl.map vD) = true
  | [], _ => by unfold pldAll; rfl
  | v :: pl, h => by
    rw [List.map_cons]
    unfold pldAll
    rw [pldAll_flP fun x hx => h x (List.mem_cons_of_mem _ hx), Bool.and_true]
    exact h v (List.mem_cons_self ..)
theorem FlP.pld {pl : List V} (h : FlP pl) : pld (dPl pl) = true := by
  unfold dPl Sv.pld
  exact pldAll_flP h.d
theorem vD_inj : ∀ {a b : List V}, (∀ v ∈ a, flI v = true) → (∀ v ∈ b, flI v = true) → a.map vD = b.map vD → a = b
  | [], [], _, _, _ => rfl
  | [], _ :: _, _, _, h => by simp at h
  | _ :: _, [], _, _, h => by simp at h
  | x :: a, y :: b, h1, h2, h => by
    rw [List.map_cons, List.map_cons] at h
    injection h with e1 e2
    have f1 := h1 x (List.mem_cons_self ..)
    have f2 := h2 y (List.mem_cons_self ..)
    have e3 := vD_inj (fun v hv => h1 v (List.mem_cons_of_mem _ hv)) (fun v hv => h2 v (List.mem_cons_of_mem _ hv)) e2
    rw [e3]
    cases x <;> cases y <;> simp_all [flI, vD]
theorem FlP.inj {a b : List V} (ha : FlP a) (hb : FlP b) (h : dPl a = dPl b) : a = b := by
  unfold dPl at h
  injection h with h
  exact vD_inj ha.f hb.f h
theorem FlP.eqv {a b : List V} (ha : FlP a) (hb : FlP b) : PyData.eqv (dPl a) (dPl b) = true ↔ a = b :=
  (eqv_pld _ _ ha.pld hb.pld).trans ⟨ha.inj hb, fun e => by rw [e]⟩
/-- a list of places -/
def PlsAt (H : Hp) (f : Addr) (ts : List (List V)) : Prop := ∃ ps : List Addr, H f = some (.lst (ps.map V.ref)) ∧ TupsV H ps ts
theorem PlsAt.same {H H' : Hp} {f : Addr} {ts : List (List V)} (h : PlsAt H f ts) (e : Same H H') : PlsAt H' f ts := by
  obtain ⟨ps, h1, h2⟩ := h
  exact ⟨ps, e _ _ h1, tupsV_same e h2⟩
end
end Sv
set_option maxHeartbeats 4000000
namespace Sv
open PySem PySem.Spec PyProof.Rows L2
section
variable {P : Program} {w : World} {K : PySem.W.Frag} {mg : Str → Option Value} {base : Heap}
theorem scAdvance : FnScope ["plan", "state", "count", "time", "carried", "shelves"] ["plan", "state", "count"] (defScope sAdvance) := ⟨rfl, rfl, rfl, by decide +kernel, rfl, by decide +kernel, by decide +kernel⟩
theorem PS0.bad {H : Hp} {p s : Addr} {zs : List Int} {rs : List Ro} {t : Int} {L : Lay Int} (x : PS0 K H p s zs rs t L) : bad zs rs = none := x.v.bad
def spAdvance (K : PySem.W.Frag) (C CS CC : Addr) : Sp := fun vs H Q E => ∃ (p s : Addr) (zs : List Int) (rs : List Ro) (t c : Int) (L : Lay Int), vs = [.ref p, .ref s, .int c] ∧ PlanAt K H p zs rs ∧ Small zs rs ∧ StateAt K H s t L ∧ BadE C zs rs H E ∧
  (bad zs rs = none → ¬ StOk zs rs t L → ∀ H', Same H H' → E (.ref CS) none H') ∧ (bad zs rs = none → StOk zs rs t L → ¬ CtOk c → ∀ H', Same H H' → E (.ref CC) none H') ∧
  (bad zs rs = none → StOk zs rs t L → CtOk c → NewSt K H (t + c) (advA 0 zs rs t c L) Q)
theorem ok_advance (T : Bd P K mg) : FnOk P w K mg base (L2.CX P w) 6 T.aAdvance T.dAdvance ["plan", "state", "count"] (spAdvance K T.C T.CS T.CC) := by
  have GP : FnOk P w K mg base (L2.CX P w) 4 T.aCheckPlan T.dCheckPlan ["plan"] (spCheckPlan K T.C) := ok_checkPlan T
  have GS : FnOk P w K mg base (L2.CX P w) 3 T.aCheckState T.dCheckState ["plan", "state"] (spCheckState K T.CS) := ok_checkState T
  have GC : FnOk P w K mg base (L2.CX P w) 3 T.aCheckCount T.dCheckCount ["count"] (spCheckCount T.CC) := ok_checkCount T
  have GF : FnOk P w K mg base CX0 5 T.aEffectTicks T.dEffectTicks ["plan", "time", "count"] (spEffectTicks K) := ok_effectTicks T
  have GM : FnOk P w K mg base CX0 3 T.aMoved T.dMoved ["plan", "state", "effect"] (spMoved K) := ok_moved T
  refine T.Advance.F.okX scAdvance (fun vs H Q E h => ?_) (fun cdv A outer s H vs Q E hr h => ?_)
  · obtain ⟨p, s, zs, rs, t, c, L, rfl, _⟩ := h
    rfl
  · obtain ⟨p, s, zs, rs, t, c, L, rfl, hp, hs, hst, q1, q2, q3, q4⟩ := h
    refine ⟨_, (pss_cons (ps_expr (pe_call (E := E) GP (hr.mono (by decide)) (by rfl) T.CheckPlan.g T.CheckPlan.F.kp T.CheckPlan.b .nil (passes_call (takes_of rfl rfl rfl rfl) fun _ _ _ _ h => h) (pa_cons (pv 0) pa_nil)))
      (pss_cons (ps_expr (pe_call (E := E) GS (hr.mono (by decide)) (by rfl) T.CheckState.g T.CheckState.F.kp T.CheckState.b .nil (passes_call (takes_of rfl rfl rfl rfl) fun _ _ _ _ h => h) (pa_cons (pv 0) (pa_cons (pv 1) pa_nil))))
      (pss_cons (ps_expr (pe_call (E := E) GC (hr.mono (by decide)) (by rfl) T.CheckCount.g T.CheckCount.F.kp T.CheckCount.b .nil (passes_call (takes_of rfl rfl rfl rfl) fun _ _ _ _ h => h) (pa_cons (pv 2) pa_nil)))
      (pss_cons (ps_asg (pe_call (E := E0) GM (hr.mono (by decide)) (by rfl) T.Moved.g T.Moved.F.kp T.Moved.b .nil pass0 (pa_cons (pv 0) (pa_cons (pv 1) (pa_cons (pe_call (E := E0) GF (hr.mono (by decide)) (by rfl) T.EffectTicks.g T.EffectTicks.F.kp T.EffectTicks.b .nil pass0 (pa_cons (pv 0) (pa_cons (pe_ix ix_tup (pv 1) pe_int (fun _ _ => rfl)) (pa_cons (pv 2) pa_nil)))) pa_nil)))) (pg_tup rfl (pgs_cons (pg_name (i := 3) scAdvance.nd rfl (.inl rfl)) (pgs_cons (pg_name (i := 4) scAdvance.nd rfl (.inl rfl)) (pgs_cons (pg_name (i := 5) scAdvance.nd rfl (.inl rfl)) pgs_nil)))))
      (pss_one (ps_ret (pe_tup (pa_cons (pe_op op_add (pv 3) (pv 2)) (pa_cons (pv 4) (pa_cons (pv 5) pa_nil)))))))))), ?_⟩
    refine ⟨.ref p, rfl, p, zs, rs, rfl, hp, hs, fun e1 H1 sm1 => ?_, q1⟩
    have hv := val_of e1
    refine ⟨.ref p, rfl, .ref s, rfl, p, s, zs, rs, t, L, rfl, hp.same sm1, hv, hst.same sm1, fun hok H2 sm2 => ?_, fun hno H2 sm2 => q2 e1 hno H2 (sm1.trans sm2)⟩
    have smA := sm1.trans sm2
    refine ⟨.int c, rfl, c, rfl, fun hc => ?_, fun hc => q3 e1 hok hc H2 smA⟩
    obtain ⟨ca, sh, hs1, hL⟩ := (hst.same smA).ex
    refine ⟨.ref p, rfl, .ref s, rfl, .ref p, rfl, .ref s, rfl, s, _, 0, .int t, rfl, rfl, hs1, rfl, .int c, rfl, p, t, c, zs, rs, rfl, hp.same smA, hv, .inl fun H3 a sm3 na ka => ?_⟩
    have smB := smA.trans sm3
    refine ⟨p, s, a, zs, rs, t, L, effT rs.length zs rs t c, rfl, hp.same smB, hv, hst.same smB, hok.f, .inl (.inl ka), effT_eff .., effT_len .., fun H4 s' sm4 ns st4 => ?_⟩
    obtain ⟨c2, s2, hs2, hL2⟩ := st4.ex
    refine ⟨s', _, rfl, hs2, rfl, _, _, rfl, _, _, rfl, _, _, rfl, rfl, ?_⟩
    refine ⟨.int t, rfl, .int c, rfl, t, c, rfl, rfl, .ref c2, rfl, .ref s2, rfl, (by show 3 ≤ sizeLine; decide), fun y hy => ?_⟩
    have smy := same_upd (o := .tup [.int (t + c), .ref c2, .ref s2]) hy
    exact q4 e1 hok hc _ y ((smB.trans sm4).trans smy) (Same.free (smB.trans sm4) hy) ⟨c2, s2, .inl (.inl upd_same), hL2.same smy⟩
theorem adv_ok (T : Bd P K mg) : FnOk P w K mg base (L2.CX P w) 12 T.aAdvance T.dAdvance ["plan", "state", "count"] (qAdvance K) := by
  unfold qAdvance
  refine ((ok_advance T).mono (by decide)).imp fun vs H Q E h => ?_
  obtain ⟨p, s, zs, rs, t, c, L, rfl, x, hc, q⟩ := h
  have hb := x.bad
  exact ⟨p, s, zs, rs, t, c, L, rfl, x.p, x.v.small, x.s, (fun part i e => by rw [hb] at e; cases e), fun _ h => absurd x.o h, fun _ _ h => absurd hc h, fun _ _ _ H' s' sm _ st => q H' s' sm st⟩
/-- the place at which something is that was at place i -/
theorem loc_at {zs : List Int} {rs : List Ro} {t c x : Int} {L : Lay Int} {i : Nat} (hf : Fits rs.length zs L) (hi : (join L)[i]? = some x) : (join (advA 0 zs rs t c L))[ap (effT rs.length zs rs t c) i]? = some x := by
  have jl := join_len hf
  have il := (List.getElem?_eq_some_iff.mp hi).1
  rw [join_advA, moveA_at 0 (effT_eff ..) (by rw [effT_len, jl]) (by rw [effT_len]; omega)]
  exact hi
end
end Sv
set_option maxHeartbeats 1000000
namespace Sv
section
variable {α : Type} (d : α) (zs : List Int) {rs : List Ro}
variable (h : ∀ r ∈ rs, r ≠ []) (hp : 1 ≤ lc rs)
include h hp
theorem effT_mul (t q : Int) : effT rs.length zs rs t (q * (lc rs : Int)) = rep (wh rs.length zs rs t) q := by
  have := effT_key rs.length zs h hp t q 0
  rw [fwd_zero, comp_rg (rep_eff (wh_eff ..) q) (by rw [rep_len, wh_len])] at this
  rw [this]
  congr 1
  omega
/-- the whole period -/
noncomputable def perT (zs : List Int) (rs : List Ro) (t : Int) : Nat := lc rs * ord (wh rs.length zs rs t)
theorem adv_period (t k : Int) {L : Lay α} (hf : Fits rs.length zs L) : advA d zs rs t (k * (perT zs rs t : Nat)) L = L := by
  have e : k * ((perT zs rs t : Nat) : Int) = (k * (ord (wh rs.length zs rs t) : Nat)) * (lc rs : Int) := by
    unfold perT
    rw [Int.natCast_mul, Int.mul_assoc, Int.mul_comm (lc rs : Int)]
  have e2 : rep (wh rs.length zs rs t) (k * (ord (wh rs.length zs rs t) : Nat)) = List.range (rs.length + sumN zs) := by
    have z := rep_mod (wh_eff rs.length zs rs t) (c := k * (ord (wh rs.length zs rs t) : Nat)) (d := 0) (by rw [Int.mul_emod_left, Int.zero_emod])
    rw [z, rep_zero, wh_len]
  unfold advA
  rw [e, effT_mul zs h hp, e2, ← join_len hf, moveA_range, spl_join hf]
theorem loc_mul (t k : Int) {L : Lay α} (hf : Fits rs.length zs L) {i : Nat} (hi : i < rs.length + sumN zs) : (join (advA d zs rs t (k * (lc rs : Int)) L))[rp (wh rs.length zs rs t) k i]? = (join L)[i]? := by
  rw [join_advA, effT_mul zs h hp]
  have hl : (wh rs.length zs rs t).length = rs.length + sumN zs := wh_len ..
  have e := moveA_at d (rep_eff (wh_eff rs.length zs rs t) k) (cs := join L) (by rw [join_len hf, rep_len, hl]) (i := i) (by rw [rep_len, hl]; exact hi)
  rwa [rep_ap (by rw [hl]; exact hi)] at e
end
end Sv
set_option maxHeartbeats 1000000
namespace Sv
theorem cube_le : ∀ k : Nat, k ^ 3 ≤ 3 ^ k
  | 0 => by decide
  | 1 => by decide
  | 2 => by decide
  | 3 => by decide
  | k + 4 => by
    have ih := cube_le (k + 3)
    have e1 : (k + 4) ^ 3 = (k + 4) * ((k + 4) * (k + 4)) := by
      rw [Nat.pow_succ, Nat.pow_succ, Nat.pow_one, Nat.mul_assoc]
    have e2 : (k + 3) ^ 3 = (k + 3) * ((k + 3) * (k + 3)) := by
      rw [Nat.pow_succ, Nat.pow_succ, Nat.pow_one, Nat.mul_assoc]
    have e3 : 3 ^ (k + 4) = 3 ^ (k + 3) * 3 := Nat.pow_succ ..
    rw [e2] at ih
    rw [e1, e3]
    refine Nat.le_trans ?_ (Nat.mul_le_mul_right 3 ih)
    have h1 : (k + 4) * (k + 4) = k * k + 8 * k + 16 := by simp only [Nat.mul_add, Nat.add_mul]; omega
    have h2 : (k + 3) * (k + 3) = k * k + 6 * k + 9 := by simp only [Nat.mul_add, Nat.add_mul]; omega
    rw [h1, h2]
    have h3 : (k + 4) * (k * k + 8 * k + 16) = k * (k * k) + 12 * (k * k) + 48 * k + 64 := by simp only [Nat.mul_add, Nat.add_mul, ← Nat.mul_assoc, Nat.mul_comm k 8]; simp only [Nat.mul_assoc]; omega
    have h4 : (k + 3) * (k * k + 6 * k + 9) = k * (k * k) + 9 * (k * k) + 27 * k + 27 := by simp only [Nat.mul_add, Nat.add_mul, ← Nat.mul_assoc, Nat.mul_comm k 6]; simp only [Nat.mul_assoc]; omega
    rw [h3, h4]
    omega
theorem lcmL_cube (cs : List (List Nat)) : (lcmL cs) ^ 3 ≤ 3 ^ cs.flatten.length := by
  induction cs using snoc_ind with
  | h0 => decide
  | h1 l a ih =>
    rw [lcmL_snoc, List.flatten_append, List.length_append]
    have h : Nat.lcm (lcmL l) a.length ≤ lcmL l * a.length := by
      by_cases z : lcmL l * a.length = 0
      · rcases Nat.mul_eq_zero.mp z with z | z
        · rw [z, Nat.lcm_zero_left]
          exact Nat.zero_le _
        · rw [z, Nat.lcm_zero_right]
          exact Nat.zero_le _
      · exact Nat.le_of_dvd (by omega) (Nat.lcm_dvd (Nat.dvd_mul_right ..) (Nat.dvd_mul_left ..))
    refine Nat.le_trans (Nat.pow_le_pow_left h 3) ?_
    rw [Nat.mul_pow, Nat.pow_add]
    refine Nat.mul_le_mul ih ?_
    have : [a].flatten.length = a.length := by simp
    rw [this]
    exact cube_le _
theorem lcmL_64 {cs : List (List Nat)} (h : cs.flatten.length ≤ 120) : lcmL cs < 2 ^ 64 := by
  have h1 : (lcmL cs) ^ 3 ≤ (3 ^ 40) ^ 3 := by
    rw [← Nat.pow_mul]
    exact Nat.le_trans (lcmL_cube cs) (Nat.pow_le_pow_right (by decide) h)
  have h2 : lcmL cs ≤ 3 ^ 40 := (Nat.pow_le_pow_iff_left (by decide)).mp h1
  exact Nat.lt_of_le_of_lt h2 (by decide)
end Sv
set_option maxHeartbeats 4000000
namespace Sv
open PySem PySem.Spec PyProof.Rows L2
section
variable {P : Program} {w : World} {K : PySem.W.Frag} {mg : Str → Option Value} {base : Heap}
theorem scOrderOf : FnScope ["effect", "times", "cycle"] ["effect"] (defScope sOrderOf) := ⟨rfl, rfl, rfl, by decide +kernel, rfl, by decide +kernel, by decide +kernel⟩
def spOrderOf (K : PySem.W.Frag) : Sp := fun vs H Q _ => ∃ (a : Addr) (e : List Nat), vs = [.ref a] ∧ SqT K H a (vN e) ∧ Eff e ∧ e.length ≤ 120 ∧ ∀ H', Same H H' → Q (.int (ord e : Nat)) H'
theorem ok_orderOf (T : Bd P K mg) : FnOk P w K mg base CX0 3 T.aOrderOf T.dOrderOf ["effect"] (spOrderOf K) := by
  have GY : FnOk P w K mg base CX0 2 T.aCyclesOf T.dCyclesOf ["effect"] (spCyclesOf K) := ok_cyclesOf T
  refine T.OrderOf.F.ok scOrderOf (fun vs H Q E h => ?_) (fun cdv A outer s H vs Q E hr h => ?_)
  · obtain ⟨a, e, rfl, _⟩ := h
    rfl
  · obtain ⟨a, e, rfl, hA, he, la, q⟩ := h
    refine ⟨_, (pss_cons (ps_set (i := 1) scOrderOf.nd rfl (Or.inl rfl) pe_int)
      (pss_cons (ps_for PassesOwn.never rfl (pi_list (pe_call (E := E0) GY (hr.mono (by decide)) (by rfl) T.CyclesOf.g T.CyclesOf.F.kp T.CyclesOf.b .nil pass0 (pa_cons (pv 0) pa_nil))) (pg_name (i := 2) scOrderOf.nd rfl (Or.inl rfl)) (pss_one (ps_set (i := 1) scOrderOf.nd rfl (Or.inl rfl) (pe_callBfun cr_lcm (by rfl) T.lcm (pa_cons (pv 1) (pa_cons (pe_callB call_len_seq (by rfl) T.bt.len b_len (pa_cons (pv 2) pa_nil)) pa_nil))))))
      (pss_one (ps_ret (pv 1))))), ?_⟩
    have W := (wheels_ok he).1
    refine ⟨.ref a, rfl, a, e, rfl, hA, he, by omega, fun H1 f ps sm nf hf hps => ?_⟩
    refine ⟨f, rfl, ⟨_, .inl (.inl hf)⟩, for_list (xs := ps.map V.ref) (fun i σ H' => (∃ y2, σ = [some (.ref a), some (.int (lcmL ((wheels e).take i) : Nat)), y2]) ∧ H' = H1) ⟨⟨none, rfl⟩, rfl⟩ (fun i σ H' _ h => by rw [h.2]; exact .inl (.inl hf)) (fun i x σ H' hx ⟨⟨y2, es⟩, eH⟩ => ?_) (fun σ H' ⟨⟨y2, es⟩, eH⟩ => ?_)⟩
    · subst es
      subst eH
      obtain ⟨p, hpi, rfl⟩ := refs_lt hx
      obtain ⟨cc, hcc, hp1⟩ := tupL_at hps i p hpi
      obtain ⟨s0, hs0, ecc⟩ := W.cy cc (List.mem_of_getElem? hcc)
      have hple := (per_spec he hs0).2.2.2
      have hcl : cc.length ≤ e.length := by rw [ecc, cyc_len]; exact hple
      have hb : lcmL ((wheels e).take i) < 2 ^ 64 := by
        refine lcmL_64 ?_
        have h1 : ((wheels e).take i).flatten.length ≤ (wheels e).flatten.length := by
          conv => rhs; rw [← List.take_append_drop i (wheels e), List.flatten_append, List.length_append]
          omega
        have := W.flat_len he
        omega
      refine ⟨.int (lcmL ((wheels e).take i) : Nat), rfl, .ref p, rfl, p, vN cc, rfl, .inr (.inl (.inl hp1)), _, cc.length, by rw [vN_len], hb, ?_, ⟨some (.ref p), ?_⟩, rfl⟩
      · exact Nat.lt_of_le_of_lt (by omega : cc.length ≤ 120) (by decide)
      · rw [List.take_add_one, hcc]
        show _ = [some (V.ref a), some (V.int (lcmL ((wheels e).take i ++ [cc]) : Nat)), some (V.ref p)]
        rw [lcmL_snoc]
        rfl
    · subst es
      subst eH
      rw [List.length_map, tupL_len hps, List.take_length]
      exact ⟨.int (ord e : Nat), rfl, q H' sm⟩
theorem Val.num120 {zs : List Int} {rs : List Ro} (v : Val zs rs) : rs.length + sumN zs ≤ 120 := by
  have := sumN_le v.z2
  have := v.z1
  have := v.r1
  omega
theorem scPeriod : FnScope ["plan", "state", "lap"] ["plan", "state"] (defScope sPeriod) := ⟨rfl, rfl, rfl, by decide +kernel, rfl, by decide +kernel, by decide +kernel⟩
def spPeriod (K : PySem.W.Frag) (C CS : Addr) : Sp := fun vs H Q E => ∃ (p s : Addr) (zs : List Int) (rs : List Ro) (t : Int) (L : Lay Int), vs = [.ref p, .ref s] ∧ PlanAt K H p zs rs ∧ Small zs rs ∧ StateAt K H s t L ∧ BadE C zs rs H E ∧
  (bad zs rs = none → ¬ StOk zs rs t L → ∀ H', Same H H' → E (.ref CS) none H') ∧ (bad zs rs = none → StOk zs rs t L → ∀ H', Same H H' → Q (.int (perT zs rs t : Nat)) H')
theorem ok_period (T : Bd P K mg) : FnOk P w K mg base (L2.CX P w) 6 T.aPeriod T.dPeriod ["plan", "state"] (spPeriod K T.C T.CS) := by
  have GP : FnOk P w K mg base (L2.CX P w) 4 T.aCheckPlan T.dCheckPlan ["plan"] (spCheckPlan K T.C) := ok_checkPlan T
  have GS : FnOk P w K mg base (L2.CX P w) 3 T.aCheckState T.dCheckState ["plan", "state"] (spCheckState K T.CS) := ok_checkState T
  have GI : FnOk P w K mg base CX0 3 T.aLap T.dLap ["self", "plan", "time"] (spLapInit K T.CLap) := ok_lapInit T
  have GO : FnOk P w K mg base CX0 3 T.aOrderOf T.dOrderOf ["effect"] (spOrderOf K) := ok_orderOf T
  refine T.Period.F.okX scPeriod (fun vs H Q E h => ?_) (fun cdv A outer s H vs Q E hr h => ?_)
  · obtain ⟨p, s, zs, rs, t, L, rfl, _⟩ := h
    rfl
  · obtain ⟨p, s, zs, rs, t, L, rfl, hp, hs, hst, q1, q2, q3⟩ := h
    have hr1 : Room 4 _ := hr.mono (by decide)
    refine ⟨_, (pss_cons (ps_expr (pe_call (E := E) GP (hr.mono (by decide)) (by rfl) T.CheckPlan.g T.CheckPlan.F.kp T.CheckPlan.b .nil (passes_call (takes_of rfl rfl rfl rfl) fun _ _ _ _ h => h) (pa_cons (pv 0) pa_nil)))
      (pss_cons (ps_expr (pe_call (E := E) GS (hr.mono (by decide)) (by rfl) T.CheckState.g T.CheckState.F.kp T.CheckState.b .nil (passes_call (takes_of rfl rfl rfl rfl) fun _ _ _ _ h => h) (pa_cons (pv 0) (pa_cons (pv 1) pa_nil))))
      (pss_cons (ps_set (i := 2) scPeriod.nd rfl (Or.inl rfl) (pe_make T.lap.m GI hr1 (by rfl) T.lap.g T.lap.b .nil pass0 (pa_cons (pv 0) (pa_cons (pe_ix ix_tup (pv 1) pe_int (fun _ _ => rfl)) pa_nil))))
      (pss_one (ps_ret (pe_op op_mul (pe_fld (pv 2) rfl) (pe_call (E := E0) GO (hr.mono (by decide)) (by rfl) T.OrderOf.g T.OrderOf.F.kp T.OrderOf.b .nil pass0 (pa_cons (pe_fld (pv 2) rfl) pa_nil)))))))), ?_⟩
    refine ⟨.ref p, rfl, p, zs, rs, rfl, hp, hs, fun e1 H1 sm1 => ?_, q1⟩
    have hv := val_of e1
    refine ⟨.ref p, rfl, .ref s, rfl, p, s, zs, rs, t, L, rfl, hp.same sm1, hv, hst.same sm1, fun hok H2 sm2 => ?_, fun hno H2 sm2 => q2 e1 hno H2 (sm1.trans sm2)⟩
    have smA := sm1.trans sm2
    have hpA := hp.same smA
    obtain ⟨ca, sh, hs1, hL⟩ := (hst.same smA).ex
    refine ⟨.ref p, rfl, .ref s, rfl, s, _, 0, .int t, rfl, rfl, hs1, rfl, fun la dl n1 n2 ne => ⟨la, dl, p, t, zs, rs, rfl, upd_same, hpA.same (same_of (same_upd n2) n1), hv, fun HL o lap => ⟨rfl, ?_⟩⟩⟩
    have smL := same_make n1 n2 o
    obtain ⟨dx, st, le, ef, fs, srw, lrw, h1, h2, h3, h4, h5, h6, h7, h8, h9, h10⟩ := lap.ex
    have n120 := hv.num120
    obtain ⟨l1, l60⟩ := lc_le hv.r2
    refine ⟨.ref la, rfl, la, T.CLap, dx, fs, _, rfl, h1, T.lap.c, T.lap.n1, h2, .ref la, rfl, la, T.CLap, dx, fs, _, rfl, h1, T.lap.c, T.lap.n4, h5, ef, wh rs.length zs rs t, rfl, .inl (.inl h10), wh_eff .., by rw [wh_len]; exact n120, fun HM smM => ?_⟩
    have q := q3 e1 hok HM ((smA.trans smL).trans smM)
    have p64 : (60 : Int) < 2 ^ 64 := by decide
    have m64 : -(2 ^ 64 : Int) < 0 := by decide
    refine ⟨_, _, rfl, rfl, .inl ⟨by omega, by omega⟩, ?_⟩
    unfold perT at q
    rw [Int.natCast_mul] at q
    exact q
end
end Sv
set_option maxHeartbeats 4000000
namespace Sv
def meetS (x y : Int) (s : List Int) : Bool := decide (x ∈ s) && decide (y ∈ s)
def meetsB (L : Lay Int) (x y : Int) : Bool := L.2.any (meetS x y)
noncomputable def mB (zs : List Int) (rs : List Ro) (t : Int) (L : Lay Int) (x y : Int) (k : Nat) : Bool := meetsB (advA 0 zs rs t (k : Nat) L) x y
def cntM (f : Nat → Bool) (n : Nat) : Nat := ((List.range n).filter f).length
theorem cntM_add (f : Nat → Bool) (a b : Nat) : cntM f (a + b) = cntM f a + cntM (fun j => f (a + j)) b := by
  unfold cntM
  rw [List.range_add, List.filter_append, List.length_append, List.filter_map, List.length_map]
  rfl
theorem cntM_per {f : Nat → Bool} {W : Nat} (h : ∀ j, f (W + j) = f j) (c : Nat) : ∀ m : Nat, cntM f (m * W + c) = m * cntM f W + cntM f c
  | 0 => by rw [Nat.zero_mul, Nat.zero_mul, Nat.zero_add, Nat.zero_add]
  | m + 1 => by
    have e : (m + 1) * W + c = W + (m * W + c) := by rw [Nat.succ_mul]; omega
    rw [e, cntM_add, show (fun j => f (W + j)) = f from funext h, cntM_per h c m, Nat.succ_mul]
    omega
theorem none_in {f : Nat → Bool} {W : Nat} (hW : 0 < W) (h : ∀ j, f (W + j) = f j) (e : ∀ k, k < W → f k = false) : ∀ k, f k = false := by
  intro k
  induction k using Nat.strongRecOn with
  | _ k ih =>
    by_cases hk : k < W
    · exact e k hk
    · obtain ⟨j, rfl⟩ : ∃ j, k = W + j := ⟨k - W, by omega⟩
      rw [h]
      exact ih j (by omega)
end Sv
set_option maxHeartbeats 2000000
namespace Sv
/-- the shelf of each place on the first k shelves -/
def tagN (zs : List Int) : Nat → List (Option Nat)
  | 0 => []
  | k + 1 => tagN zs k ++ List.replicate (zs.getD k 0).toNat (some k)
theorem tagN_len (zs : List Int) : ∀ k, k ≤ zs.length → (tagN zs k).length = sumN (zs.take k)
  | 0, _ => rfl
  | k + 1, h => by
    have g : zs[k]? = some zs[k] := List.getElem?_eq_getElem (by omega)
    unfold tagN
    rw [List.length_append, List.length_replicate, tagN_len zs k (by omega), List.take_add_one, g, List.getD_eq_getElem?_getD, g]
    show _ = sumN (zs.take k ++ [zs[k]])
    rw [sumN_snoc]
    rfl
def tags (zs : List Int) (n : Nat) : List (Option Nat) := List.replicate n none ++ tagN zs zs.length
theorem tags_len (zs : List Int) (n : Nat) : (tags zs n).length = n + sumN zs := by
  unfold tags
  rw [List.length_append, List.length_replicate, tagN_len zs _ (Nat.le_refl _), List.take_length]
def tag (zs : List Int) (n i : Nat) : Option Nat := (tags zs n).getD i none
theorem flat_take1 {α : Type} {ss : List (List α)} {i : Nat} {s : List α} (h : ss[i]? = some s) : (ss.take (i + 1)).flatten = (ss.take i).flatten ++ s := by
  rw [List.take_add_one, h, List.flatten_append]
  simp
theorem row_of {ss : List (List Int)} {zs : List Int} (hl : ss.map List.length = zs.map Int.toNat) : ∀ k : Nat, k ≤ ss.length → ∀ (i : Nat) (x : Int), ((ss.take k).flatten)[i]? = some x → ∃ (m : Nat) (s : List Int), m < k ∧ ss[m]? = some s ∧ x ∈ s ∧ (tagN zs k)[i]? = some (some m)
  | 0, _, i, x, h => by simp at h
  | k + 1, hk, i, x, h => by
    have g : ss[k]? = some ss[k] := List.getElem?_eq_getElem (by omega)
    have lz : ss.length = zs.length := by
      have := congrArg List.length hl
      simpa using this
    have gz : zs[k]? = some zs[k] := List.getElem?_eq_getElem (by omega)
    have hlen : ss[k].length = (zs.getD k 0).toNat := by
      have := congrArg (fun l => l[k]?) hl
      simp only [List.getElem?_map, g, gz, Option.map_some] at this
      rw [List.getD_eq_getElem?_getD, gz]
      exact Option.some.inj this
    have fl : ((ss.take k).flatten).length = (tagN zs k).length := by
      rw [tagN_len zs k (by omega)]
      have e : (ss.take k).map List.length = (zs.take k).map Int.toNat := by rw [List.map_take, List.map_take, hl]
      exact flat_len2 e
    rw [flat_take1 g] at h
    unfold tagN
    by_cases hi : i < ((ss.take k).flatten).length
    · rw [List.getElem?_append_left hi] at h
      obtain ⟨m, s, h1, h2, h3, h4⟩ := row_of hl k (by omega) i x h
      exact ⟨m, s, by omega, h2, h3, by rw [List.getElem?_append_left (by omega)]; exact h4⟩
    · rw [List.getElem?_append_right (by omega)] at h
      refine ⟨k, ss[k], by omega, g, List.mem_of_getElem? h, ?_⟩
      have hj := (List.getElem?_eq_some_iff.mp h).1
      rw [List.getElem?_append_right (by omega), List.getElem?_replicate, if_pos (by omega)]
theorem row_one {ss : List (List Int)} (nd : ss.flatten.Nodup) {a b : Nat} {s u : List Int} {x : Int} (ha : ss[a]? = some s) (hb : ss[b]? = some u) (h1 : x ∈ s) (h2 : x ∈ u) : a = b := by
  have pw := (List.pairwise_flatten.mp nd).2
  have key : ∀ i j (hi : i < ss.length) (hj : j < ss.length), i < j → x ∈ ss[i] → x ∈ ss[j] → False := fun i j hi hj hij m1 m2 => (List.pairwise_iff_getElem.mp pw i j hi hj hij) x m1 x m2 rfl
  obtain ⟨la, ea⟩ := List.getElem?_eq_some_iff.mp ha
  obtain ⟨lb, eb⟩ := List.getElem?_eq_some_iff.mp hb
  rcases Nat.lt_trichotomy a b with z | z | z
  · exact (key a b la lb z (by rw [ea]; exact h1) (by rw [eb]; exact h2)).elim
  · exact z
  · exact (key b a lb la z (by rw [eb]; exact h2) (by rw [ea]; exact h1)).elim
/-- on the same shelf -/
def sameT (a b : Option Nat) : Bool := match a with
  | some s => decide (b = some s)
  | none => false
theorem tag_at {zs : List Int} {n : Nat} {L : Lay Int} (hf : Fits n zs L) (nd : (join L).Nodup) {i : Nat} {x : Int} (hi : (join L)[i]? = some x) :
    (tag zs n i = none ∧ ∀ s ∈ L.2, x ∉ s) ∨ ∃ m s, tag zs n i = some m ∧ L.2[m]? = some s ∧ x ∈ s := by
  unfold join at hi nd
  unfold tag tags
  by_cases h : i < L.1.length
  · rw [List.getElem?_append_left h] at hi
    refine .inl ⟨?_, fun s hs hx => ?_⟩
    · rw [List.getD_eq_getElem?_getD, List.getElem?_append_left (by rw [List.length_replicate, ← hf.1]; exact h), List.getElem?_replicate, if_pos (by rw [← hf.1]; exact h)]
      rfl
    · exact (List.nodup_append.mp nd).2.2 x (List.mem_of_getElem? hi) x (List.mem_flatten.mpr ⟨s, hs, hx⟩) rfl
  · rw [List.getElem?_append_right (by omega)] at hi
    have lz : L.2.length = zs.length := by
      have := congrArg List.length hf.2
      simpa using this
    obtain ⟨m, s, h1, h2, h3, h4⟩ := row_of hf.2 L.2.length (Nat.le_refl _) (i - L.1.length) x (by rw [List.take_length]; exact hi)
    refine .inr ⟨m, s, ?_, h2, h3⟩
    rw [List.getD_eq_getElem?_getD, List.getElem?_append_right (by rw [List.length_replicate, ← hf.1]; omega), List.length_replicate, ← hf.1, ← lz, h4]
    rfl
theorem meets_tag {zs : List Int} {n : Nat} {L : Lay Int} (hf : Fits n zs L) (nd : (join L).Nodup) {i j : Nat} {x y : Int} (hi : (join L)[i]? = some x) (hj : (join L)[j]? = some y) : meetsB L x y = sameT (tag zs n i) (tag zs n j) := by
  have ndf : L.2.flatten.Nodup := by
    unfold join at nd
    exact (List.nodup_append.mp nd).2.1
  have no : ∀ {z : Int}, (∀ s ∈ L.2, z ∉ s) → ∀ (b : Int), meetsB L z b = false ∧ meetsB L b z = false := fun {z} hz b => by
    unfold meetsB
    refine ⟨List.any_eq_false.mpr fun s hs => ?_, List.any_eq_false.mpr fun s hs => ?_⟩
    · unfold meetS
      rw [decide_eq_false (hz s hs)]
      simp
    · unfold meetS
      rw [decide_eq_false (hz s hs), Bool.and_false]
      simp
  rcases tag_at hf nd hi with ⟨e1, h1⟩ | ⟨m, s, e1, h1, h2⟩
  · rw [e1, (no h1 y).1]
    rfl
  · rcases tag_at hf nd hj with ⟨e2, g1⟩ | ⟨k, u, e2, g1, g2⟩
    · rw [e1, e2, (no g1 x).2]
      rfl
    · rw [e1, e2]
      show _ = decide (some k = some m)
      by_cases e : k = m
      · subst e
        obtain rfl : s = u := Option.some.inj (h1.symm.trans g1)
        rw [decide_eq_true rfl]
        unfold meetsB
        refine List.any_eq_true.mpr ⟨s, List.mem_of_getElem? h1, ?_⟩
        unfold meetS
        rw [decide_eq_true h2, decide_eq_true g2]
        rfl
      · rw [decide_eq_false (fun z => e (Option.some.inj z))]
        unfold meetsB
        refine List.any_eq_false.mpr fun v hv => ?_
        unfold meetS
        obtain ⟨q, hq⟩ := List.mem_iff_getElem?.mp hv
        by_cases x1 : x ∈ v
        · by_cases y1 : y ∈ v
          · have a1 := row_one ndf hq h1 x1 h2
            have a2 := row_one ndf hq g1 y1 g2
            omega
          · rw [decide_eq_false y1, Bool.and_false]
            simp
        · rw [decide_eq_false x1]
          simp
end Sv
set_option maxHeartbeats 2000000
namespace Sv
section
variable (zs : List Int) (rs : List Ro) (t : Int)
/-- the place, after k ticks, of what is at place i -/
noncomputable def pos (k i : Nat) : Nat := ap (effT rs.length zs rs t (k : Nat)) i
noncomputable def mk (i j k : Nat) : Bool := sameT (tag zs rs.length (pos zs rs t k i)) (tag zs rs.length (pos zs rs t k j))
/-- the shelf, r ticks into a lap, of what is at place i before it -/
noncomputable def rowT (i r : Nat) : Option Nat := tag zs rs.length (ap (fwd rs.length zs rs t r) i)
noncomputable def lapM (i j : Nat) : List Bool := (List.range (lc rs)).map fun r => sameT (rowT zs rs t i (r + 1)) (rowT zs rs t j (r + 1))
noncomputable def mkL (laps i j : Nat) : List Bool := (List.range laps).flatMap fun m => lapM zs rs t (it (wh rs.length zs rs t) m i) (it (wh rs.length zs rs t) m j)
variable {rs}
variable (h : ∀ r ∈ rs, r ≠ []) (hp : 1 ≤ lc rs)
include h hp
theorem pos_lap {m r i : Nat} (hi : i < rs.length + sumN zs) : pos zs rs t (m * lc rs + r) i = ap (fwd rs.length zs rs t r) (it (wh rs.length zs rs t) m i) := by
  have wl := wh_len rs.length zs rs t
  have k := effT_key rs.length zs h hp t (m : Nat) r
  unfold pos
  have e : ((m * lc rs + r : Nat) : Int) = (m : Nat) * (lc rs : Int) + (r : Nat) := by rw [Int.natCast_add, Int.natCast_mul]
  rw [e, ← k, comp_ap (by rw [rep_len, wl]; exact hi), rep_ap (by rw [wl]; exact hi), rp_nat (wh_eff ..) m (by rw [wl]; exact hi)]
theorem mk_lap {m r i j : Nat} (hi : i < rs.length + sumN zs) (hj : j < rs.length + sumN zs) : mk zs rs t i j (m * lc rs + r) = sameT (rowT zs rs t (it (wh rs.length zs rs t) m i) r) (rowT zs rs t (it (wh rs.length zs rs t) m j) r) := by
  unfold mk rowT
  rw [pos_lap zs t h hp hi, pos_lap zs t h hp hj]
theorem mkL_eq {i j : Nat} (hi : i < rs.length + sumN zs) (hj : j < rs.length + sumN zs) : ∀ laps, mkL zs rs t laps i j = (List.range (laps * lc rs)).map fun k => mk zs rs t i j (k + 1)
  | 0 => by
    rw [Nat.zero_mul]
    rfl
  | laps + 1 => by
    have ih := mkL_eq hi hj laps
    unfold mkL at ih ⊢
    rw [List.range_succ, List.flatMap_append, ih, Nat.succ_mul, List.range_add, List.map_append]
    congr 1
    rw [List.flatMap_cons, List.flatMap_nil, List.append_nil, List.map_map]
    unfold lapM
    refine List.map_congr_left fun r _ => ?_
    have e := mk_lap zs t h hp (m := laps) (r := r + 1) hi hj
    show _ = mk zs rs t i j (laps * lc rs + r + 1)
    rw [← Nat.add_assoc] at e
    rw [e]
theorem mk_per {i j W : Nat} (hi : i < rs.length + sumN zs) (hj : j < rs.length + sumN zs) (h1 : per (wh rs.length zs rs t) i ∣ W) (h2 : per (wh rs.length zs rs t) j ∣ W) (k : Nat) : mk zs rs t i j (W * lc rs + k) = mk zs rs t i j k := by
  have wl := wh_len rs.length zs rs t
  have we := wh_eff rs.length zs rs t
  have dm := Nat.div_add_mod k (lc rs)
  have e1 : W * lc rs + k = (k / lc rs + W) * lc rs + k % lc rs := by
    rw [Nat.add_mul, Nat.mul_comm (k / lc rs)]
    omega
  have e2 : k = k / lc rs * lc rs + k % lc rs := by
    rw [Nat.mul_comm]
    omega
  have back : ∀ {p : Nat}, p < rs.length + sumN zs → per (wh rs.length zs rs t) p ∣ W → it (wh rs.length zs rs t) (k / lc rs + W) p = it (wh rs.length zs rs t) (k / lc rs) p := fun {p} hp2 d => by
    rw [it_add, (it_eq_iff we (by rw [wl]; exact hp2) W).mpr d]
  conv => rhs; rw [e2]
  rw [e1, mk_lap zs t h hp hi hj, mk_lap zs t h hp hi hj, back hi h1, back hj h2]
theorem mB_mk {L : Lay Int} (hf : Fits rs.length zs L) (nd : (join L).Nodup) {i j : Nat} {x y : Int} (hi : (join L)[i]? = some x) (hj : (join L)[j]? = some y) (k : Nat) : mB zs rs t L x y k = mk zs rs t i j k := by
  have jl := join_len hf
  have il := (List.getElem?_eq_some_iff.mp hi).1
  have jl2 := (List.getElem?_eq_some_iff.mp hj).1
  have at' : ∀ {p : Nat} {z : Int}, (join L)[p]? = some z → p < rs.length + sumN zs → (join (advA 0 zs rs t (k : Nat) L))[pos zs rs t k p]? = some z := fun {p z} hz hl => by
    unfold pos
    rw [join_advA, moveA_at 0 (effT_eff ..) (by rw [effT_len, jl]) (by rw [effT_len]; exact hl)]
    exact hz
  have nd2 : (join (advA 0 zs rs t (k : Nat) L)).Nodup := by
    rw [advA_nat 0 zs h hp t k hf]
    have e := run_org (0 : Int) hf rs t k
    rw [e]
    have oe := org_eff rs.length zs rs t k
    have ol := org_len rs.length zs rs t k
    refine List.pairwise_map.mpr (oe.2.imp_of_mem fun {a b} ha hb ne q => ne ?_)
    have ha' := oe.1 a ha
    have hb' := oe.1 b hb
    rw [List.getD_eq_getElem?_getD, List.getD_eq_getElem?_getD, List.getElem?_eq_getElem (by omega), List.getElem?_eq_getElem (by omega)] at q
    exact (List.getElem_inj nd).mp q
  unfold mB mk
  exact meets_tag (advA_fits ..) nd2 (at' hi (by omega)) (at' hj (by omega))
end
end Sv
set_option maxHeartbeats 4000000
namespace Sv
open PySem PySem.Spec PyProof.Rows L2
def cntV (y : V) (ys : List V) : Nat := ys.countP fun z => eqV z y
theorem cnt_vals {y : V} : ∀ {ys : List V} {us : List Value}, Vals ys us → ys.all flatV = true → us.countP (eqU y) = cntV y ys
  | _, _, .nil, _ => rfl
  | z :: ys, u :: us, .cons r t, f => by
    rw [List.all_cons, Bool.and_eq_true] at f
    have ih := cnt_vals (y := y) t f.2
    unfold cntV at ih ⊢
    rw [List.countP_cons, List.countP_cons, ih, eqU_of r f.1]
def rCountF (K : PySem.W.Frag) : V → List V → Hp → VK → Prop := fun x xs H Q => ∃ (p : Addr) (ys : List V) (y : V), x = .ref p ∧ xs = [y] ∧ SqL K H p ys ∧ flatV y = true ∧ ys.all flatV = true ∧ Q (.int (cntV y ys : Nat)) H
theorem mt_countF {X : Cx} : MtR X "list.count" (rCountF X.K) := by
  intro pins s σ H x xs v us Q I rx rs hq
  obtain ⟨p, ys, y, rfl, rfl, hs, g1, g2, q⟩ := hq
  cases rx
  obtain ⟨u, rfl, ru⟩ := rs.one
  obtain ⟨its, rv, ⟨⟨c0, dd, d0, sl⟩, n, ho, hc, hdn, hd⟩, hlen⟩ := I.list hs
  simp only at hc hd
  subst hc hd
  have ec : its.toArray.toList.countP (eqU y) = cntV y ys := cnt_vals rv g2
  refine call_meets PySem.F.slot_list_count ⟨_, ho, rfl⟩ PySem.F.entry_list_count (PySem.F.args_list_count_2 _ _)
    (SeqAt.list_countAt p its.toArray n dd sl u (eqU y)) ⟨ho, fun w hw => mem_eqAt ru g1 rv g2 w (by simpa using hw), .int (cntV y ys : Nat), H, I.tok _, ⟨s.toks, ?_⟩, q⟩
  show Value.int ((its.toArray.toList.countP (eqU y) : Nat) : Int) s.toks = Value.int ((cntV y ys : Nat) : Int) s.toks
  rw [ec]
end Sv
set_option maxHeartbeats 4000000
namespace Sv
open PySem PySem.Spec PyProof.Rows L2
theorem look_map {f : Str → NameKind → NameKind} : ∀ {l : List (Str × NameKind)} {y : Str} {k : NameKind}, l.lookup y = some k → (l.map fun (n, q) => (n, f n q)).lookup y = some (f y k)
  | [], _, _, h => by cases h
  | (n, q) :: l, y, k, h => by
    rw [List.map_cons]
    rw [List.lookup_cons] at h ⊢
    by_cases e : (y == n) = true
    · rw [e] at h ⊢
      have e2 : y = n := eq_of_beq e
      cases h
      rw [e2]
    · have e3 : (y == n) = false := by simpa using e
      rw [e3] at h ⊢
      exact look_map h
theorem blk_in {N : List Str} {s1 s2 : Scope} {own : List (Str × Nat)} (env : Env) (h : BlkOk N s1 s2 own) : BlkOk N (relabel s1 env) s2 own := by
  refine ⟨h.kind, h.uniq, h.ix, fun y hy e => ?_, h.own⟩
  have e0 : (relabel s1 env).names = s1.names.map fun (n, k) => (n, if (k == .free && env.scope.kind == .function && env.kindOf n == some .cell) then NameKind.cell else k) := by
    unfold relabel
    refine List.map_congr_left fun p _ => ?_
    obtain ⟨n, k⟩ := p
    dsimp only
    split <;> rfl
  rw [e0]
  rcases h.free y hy e with k | k
  · exact .inl ((look_map (f := fun n k => if (k == .free && env.scope.kind == .function && env.kindOf n == some .cell) then NameKind.cell else k) k).trans (by simp))
  · have := look_map (f := fun n k => if (k == .free && env.scope.kind == .function && env.kindOf n == some .cell) then NameKind.cell else k) k
    rw [this]
    split
    · exact .inl rfl
    · exact .inr rfl
end Sv
set_option maxHeartbeats 4000000
namespace Sv
open PySem PySem.Spec PyProof.Rows L2
def tagV : Option Nat → V
  | some s => .int (s : Nat)
  | none => .non
def shelvesL (zs : List Int) (n : Nat) : List V := (tags zs n).map tagV
theorem shelvesL_len (zs : List Int) (n : Nat) : (shelvesL zs n).length = n + sumN zs := by
  unfold shelvesL
  rw [List.length_map, tags_len]
theorem shelvesL_at {zs : List Int} {n i : Nat} (h : i < n + sumN zs) : (shelvesL zs n)[i]? = some (tagV (tag zs n i)) := by
  unfold shelvesL tag
  rw [List.getElem?_map, List.getD_eq_getElem?_getD, List.getElem?_eq_getElem (by rw [tags_len]; exact h)]
  rfl
def plV : List V → V
  | [_, b, _] => b
  | _ => .non
theorem posV_plV (k m : Nat) : (posV k m).map plV = List.replicate m (V.int (k : Nat)) := by
  unfold posV
  rw [List.map_map]
  refine List.eq_replicate_iff.mpr ⟨by simp, fun b hb => ?_⟩
  obtain ⟨p, _, rfl⟩ := List.mem_map.mp hb
  rfl
theorem shN_plV (zs : List Int) : ∀ k, (shN zs k).map plV = (tagN zs k).map tagV
  | 0 => rfl
  | k + 1 => by
    unfold shN tagN
    rw [List.map_append, List.map_append, shN_plV zs k, posV_plV, List.map_replicate]
    rfl
theorem places_plV (zs : List Int) (n : Nat) : (placesV zs n).map plV = shelvesL zs n := by
  unfold placesV shelvesL tags
  rw [List.map_append, List.map_append, shN_plV, List.map_replicate]
  congr 1
  unfold carV
  rw [List.map_map]
  refine List.eq_replicate_iff.mpr ⟨by simp, fun b hb => ?_⟩
  obtain ⟨p, _, rfl⟩ := List.mem_map.mp hb
  rfl
def NewLv (H : Hp) (xs : List V) (Q : VK) : Prop := ∀ H' f, Same H H' → H f = none → H' f = some (.lst xs) → Q (.ref f) H'
theorem NewLv.imp {H H1 : Hp} {xs : List V} {Q : VK} (h : NewLv H xs Q) (e : Same H H1) : NewLv H1 xs Q := fun H' f sm hf => h H' f (e.trans sm) (Same.free e hf)
section
variable {P : Program} {w : World} {K : PySem.W.Frag} {mg : Str → Option Value} {base : Heap}
theorem scShelvesOf : FnScope ["plan", "place"] ["plan"] (defScope sShelvesOf) := ⟨rfl, rfl, rfl, by decide +kernel, rfl, by decide +kernel, by decide +kernel⟩
def spShelvesOf (K : PySem.W.Frag) : Sp := fun vs H Q _ => ∃ (p : Addr) (zs : List Int) (rs : List Ro), vs = [.ref p] ∧ PlanAt K H p zs rs ∧ Val zs rs ∧ NewLv H (shelvesL zs rs.length) Q
theorem ok_shelvesOf (T : Bd P K mg) : FnOk P w K mg base CX0 2 T.aShelvesOf T.dShelvesOf ["plan"] (spShelvesOf K) := by
  have GO : FnOk P w K mg base CX0 1 T.aPlacesOf T.dPlacesOf ["plan"] (spPlacesOf K) := ok_placesOf T
  refine T.ShelvesOf.F.ok scShelvesOf (fun vs H Q E h => ?_) (fun cdv A outer s H vs Q E hr h => ?_)
  · obtain ⟨p, zs, rs, rfl, _⟩ := h
    rfl
  · obtain ⟨p, zs, rs, rfl, hp, hv, q⟩ := h
    refine ⟨_, (pss_one (ps_ret (pe_lc (own := [("place", 1)]) (g := gName 1) (tt := tYes) (te := tIf (tTest (tOp rEq (tOp (rIxT K) (tVar 1) (tC (.int 0))) (tC (.str "shelf")))) (tOp (rIxT K) (tVar 1) (tC (.int 1))) (tC .non)) rfl scShelvesOf.nd (pi_list (pe_call (E := E0) GO hr (by rfl) T.PlacesOf.g T.PlacesOf.F.kp T.PlacesOf.b .nil pass0 (pa_cons (pv 0) pa_nil))) (blkOk_by (N := ["plan", "place"]) (sc := defScope sShelvesOf) (by decide +kernel)) (fun _ _ _ _ _ => pg_name (i := 1) scShelvesOf.nd rfl (Or.inl rfl)) (fun _ _ _ _ _ => pts_nil) (fun _ _ _ _ _ => pe_ifExp (pt_cmpR op_eq (pe_ix ix_tup (pv 1) pe_int (fun _ _ => rfl)) pe_str (nomark _)) (pe_ix ix_tup (pv 1) pe_int (fun _ _ => rfl)) pe_non)))), ?_⟩
    have hn := hv.num
    have pln := placesV_len zs rs.length fun z hz => (hv.z2 z hz).1
    refine ⟨.ref p, rfl, p, zs, rs, rfl, hp, hv.toGood, fun H1 f sm1 nf tl => ?_⟩
    obtain ⟨ps, kf, tv⟩ := tl.ex
    have hpl := tupsV_len tv
    refine ⟨f, rfl, ⟨_, .inl (.inl kf)⟩, fun D hD => lc_list (xs := ps.map V.ref) (fun i H' => Same H1 H' ∧ H' D = some (.lst ((shelvesL zs rs.length).take i))) ⟨same_upd hD, upd_same⟩ (fun i H' _ h => .inl (.inl (h.1 _ _ kf))) (fun i x H' hx ⟨sm, kD⟩ => ?_) (fun H' ⟨sm, kD⟩ => ?_)⟩
    · obtain ⟨u, hu, rfl⟩ := refs_lt hx
      obtain ⟨pl, hpl2, hut⟩ := tupsV_at (tupsV_same sm tv) hu
      have hi := (List.getElem?_eq_some_iff.mp hu).1
      have hat : (shelvesL zs rs.length)[i]? = some (plV pl) := by rw [← places_plV, List.getElem?_map, hpl2]; rfl
      have hnext : ∀ v, v = plV pl → ∃ acc, H' D = some (.lst acc) ∧ acc.length < sizeLine ∧ Same H1 (upd H' D (.lst (acc ++ [v]))) ∧ (upd H' D (.lst (acc ++ [v]))) D = some (.lst ((shelvesL zs rs.length).take (i + 1))) := fun v hv2 => by
        refine ⟨_, kD, ?_, same_of sm hD, ?_⟩
        · rw [List.length_take, shelvesL_len]
          exact small1000 (by omega)
        · rw [upd_same, hv2, List.take_add_one, hat]
          rfl
      have hIs := placesV_is pl (List.mem_of_getElem? hpl2)
      cases hIs with
      | car c =>
        refine ⟨rfl, yes_go ⟨.ref u, rfl, u, _, 0, V.str "carrier", rfl, rfl, .inl (.inl hut), rfl, rfl, _, rfl, ?_⟩⟩
        rw [decide_eq_false (by decide)]
        exact iteF (hnext .non rfl)
      | pos m j =>
        refine ⟨rfl, yes_go ⟨.ref u, rfl, u, _, 0, V.str "shelf", rfl, rfl, .inl (.inl hut), rfl, rfl, _, rfl, ?_⟩⟩
        rw [decide_eq_true rfl]
        exact iteT ⟨.ref u, rfl, u, _, 1, V.int (m : Nat), rfl, rfl, .inl (.inl hut), rfl, hnext _ rfl⟩
    · rw [List.length_map, hpl, pln, ← shelvesL_len zs rs.length, List.take_length] at kD
      exact q H' D (sm1.trans sm) (Same.free sm1 hD) kD
end
end Sv
set_option maxHeartbeats 4000000
namespace Sv
open PySem PySem.Spec PyProof.Rows L2
/-- the shelves, tick by tick, of what is at place i before a lap -/
noncomputable def shV (zs : List Int) (rs : List Ro) (t : Int) (i : Nat) : List V := (List.range (lc rs)).map fun r => tagV (rowT zs rs t i (r + 1))
theorem shV_len (zs : List Int) (rs : List Ro) (t : Int) (i : Nat) : (shV zs rs t i).length = lc rs := by unfold shV; simp
noncomputable def shVs (zs : List Int) (rs : List Ro) (t : Int) : List (List V) := (List.range (rs.length + sumN zs)).map (shV zs rs t)
theorem RI.push {H3 H' H2 : Hp} {D l : Addr} {ss : List (List V)} {s : List V} (h : RI H3 H' D ss) (hD : H3 D = none) (sm : Same H' H2) (hl : H' l = none) (kl : H2 l = some (.lst s)) (hs : ss.length ≤ 1000) :
    ∃ acc, H2 D = some (.lst acc) ∧ acc.length < sizeLine ∧ RI H3 (upd H2 D (.lst (acc ++ [.ref l]))) D (ss ++ [s]) := by
  obtain ⟨sm0, rw, kD, rl, nd, hrw⟩ := h
  have n0 : H3 l = none := Same.free sm0 hl
  have nD : D ≠ l := ne_of_none kD hl
  have hrl := rowV_len rl
  have hl2 : l ∉ rw := rowV_free rl hl
  refine ⟨rw.map V.ref, sm _ _ kD, ?_, same_of (sm0.trans sm) hD, rw ++ [l], ?_, ?_, ?_, ?_⟩
  · rw [List.length_map, hrl]
    exact small1000 hs
  · rw [upd_same, List.map_append]
    rfl
  · refine rowV_snoc (by rw [upd_ne (Ne.symm nD)]; exact kl) (rowV_imp (fun q hq o ho => ?_) rl)
    rw [upd_ne (hrw q hq).2]
    exact sm _ _ ho
  · refine List.nodup_append.mpr ⟨nd, (by simp), fun x hx y hy z => ?_⟩
    rw [List.mem_singleton.mp hy] at z
    exact hl2 (by rw [← z]; exact hx)
  · intro q hq
    rcases List.mem_append.mp hq with hq | hq
    · exact hrw q hq
    · rw [List.mem_singleton.mp hq]
      exact ⟨n0, Ne.symm nD⟩
section
variable {P : Program} {w : World} {K : PySem.W.Frag} {mg : Str → Option Value} {base : Heap}
def nSl : List Str := ["plan", "lap", "shelves", "stop", "stops"]
theorem scShelvesLap : FnScope nSl ["plan", "lap"] (defScope sShelvesLap) := ⟨rfl, rfl, rfl, by decide +kernel, rfl, by decide +kernel, by decide +kernel⟩
def NewRows (H : Hp) (ss : List (List V)) (Q : VK) : Prop := ∀ H' f rw, Same H H' → H' f = some (.lst (rw.map V.ref)) → RowV H' rw ss → Q (.ref f) H'
def spShelvesLap (K : PySem.W.Frag) (C : Addr) : Sp := fun vs H Q _ => ∃ (p la : Addr) (zs : List Int) (rs : List Ro) (t : Int), vs = [.ref p, .ref la] ∧ PlanAt K H p zs rs ∧ Val zs rs ∧ LapAt H C la zs rs t ∧ NewRows H (shVs zs rs t) Q
abbrev rNotNo : R2 := fun x y H Q => y = .non ∧ Q (.bl (!decide (x = .non))) H
abbrev rFmod : R2 := rI (fun _ j => j ≠ 0) fun i j => .int (i.fmod j)
/-- int(x) -/
abbrev tInt (t : TE) : TE := tCB (fun xs H Q => (∃ i, xs = [.int i] ∧ Q (.int i) H) ∨ ∃ k, xs = [.bl k] ∧ Q (.int (if k then 1 else 0)) H) (tCons t tNil)
abbrev tLenS (K : PySem.W.Frag) (t : TE) : TE := tCB (fun xs H Q => ∃ p ys, xs = [.ref p] ∧ (SqL K H p ys ∨ SqT K H p ys) ∧ Q (.int ys.length) H) (tCons t tNil)
def tShIn (K : PySem.W.Frag) : TE := tLc (iList K (tSl (rSlL K) (tVar 4) (tPart (tC (.int 1))) tNoPart)) (gName 3) tYes (tOp (rIxL K) (tVar 2) (tVar 3)) ([("stop", 3)].map (·.2))
theorem ok_shelvesLap (T : Bd P K mg) : FnOk P w K mg base CX0 3 T.aShelvesLap T.dShelvesLap ["plan", "lap"] (spShelvesLap K T.CLap) := by
  have GS : FnOk P w K mg base CX0 2 T.aShelvesOf T.dShelvesOf ["plan"] (spShelvesOf K) := ok_shelvesOf T
  refine T.ShelvesLap.F.ok scShelvesLap (fun vs H Q E h => ?_) (fun cdv A outer s H vs Q E hr h => ?_)
  · obtain ⟨p, la, zs, rs, t, rfl, _⟩ := h
    rfl
  · obtain ⟨p, la, zs, rs, t, rfl, hp, hv, lap, q⟩ := h
    refine ⟨_, (pss_cons (ps_set (i := 2) scShelvesLap.nd rfl (Or.inr rfl) (pe_call (E := E0) GS hr (by rfl) T.ShelvesOf.g T.ShelvesOf.F.kp T.ShelvesOf.b .nil pass0 (pa_cons (pv 0) pa_nil)))
      (pss_one (ps_ret (pe_lc (own := [("stops", 4)]) (g := gName 4) (tt := tYes) (te := tShIn K) rfl scShelvesLap.nd (pi_list (pe_fld (pv 1) rfl)) (blkOk_by (N := nSl) (sc := defScope sShelvesLap) (by decide +kernel)) (fun _ _ _ _ _ => pg_name (i := 4) scShelvesLap.nd rfl (Or.inl rfl)) (fun _ _ _ _ _ => pts_nil) (fun _ _ _ _ _ => pe_lc (own := [("stop", 3)]) (g := gName 3) (tt := tYes) (te := tOp (rIxL K) (tVar 2) (tVar 3)) rfl scShelvesLap.nd (pi_list (pe_slice sl_list (pv 4) (po_some pe_int) po_none)) (blk_in _ (blkOk_by (N := nSl) (sc := { kind := .function, names := [(".0", .local), ("stops", .local), ("shelves", .free)], isGenerator := false, isCoroutine := false }) (by decide +kernel))) (fun _ _ _ _ _ => pg_name (i := 3) scShelvesLap.nd rfl (Or.inl rfl)) (fun _ _ _ _ _ => pts_nil) (fun _ _ _ _ _ => pe_ix ix_list (pv 2) (pv 3) (fun _ _ => rfl))))))), ?_⟩
    have hn := hv.num
    obtain ⟨l1, l60⟩ := lc_le hv.r2
    refine ⟨.ref p, rfl, p, zs, rs, rfl, hp, hv, fun H1 f sm1 nf kf => ?_⟩
    obtain ⟨dx, st, le, ef, fs, srw, lrw, h1, h2, h3, h4, h5, h6, h7, h8, h9, h10⟩ := (lap.same sm1).ex
    have hsl := rowV_len h7
    have esl : (stopsV rs.length zs rs t (lc rs)).length = rs.length + sumN zs := by unfold stopsV; rw [List.length_map, List.length_range]
    refine ⟨.ref la, rfl, la, T.CLap, dx, fs, _, rfl, h1, T.lap.c, T.lap.n2, h3, st, rfl, ⟨_, .inl (.inl h6)⟩, fun D hD => lc_list (xs := srw.map V.ref) (fun i H' => RI H1 H' D ((List.range i).map (shV zs rs t))) (RI.start hD) (fun i H' _ h => .inl (.inl (h.1 _ _ h6))) (fun i x H' hx h => ?_) (fun H' ⟨sm, rw2, kD, rl, _, _⟩ => ?_)⟩
    · obtain ⟨q1, hq1, rfl⟩ := refs_lt hx
      have hi := (List.getElem?_eq_some_iff.mp hq1).1
      obtain ⟨s1, es1, kq1⟩ := rowV_at (rowV_imp (fun q _ o ho => h.1 _ _ ho) h7) hq1
      unfold stopsV at es1
      rw [List.getElem?_map, List.getElem?_range (by omega)] at es1
      obtain rfl := Option.some.inj es1
      refine ⟨rfl, yes_go ⟨.ref q1, rfl, 1, rfl, q1, _, rfl, .inl (.inl kq1), fun c hc => ?_⟩⟩
      have ecut : cutV (stopV rs.length zs rs t (lc rs) i) (some 1) none = (stopV rs.length zs rs t (lc rs) i).drop 1 := cut_from (k := 1)
      rw [ecut]
      have smc : Same H' (upd H' c (.lst ((stopV rs.length zs rs t (lc rs) i).drop 1))) := same_upd hc
      have kc : (upd H' c (.lst ((stopV rs.length zs rs t (lc rs) i).drop 1))) c = some (.lst ((stopV rs.length zs rs t (lc rs) i).drop 1)) := upd_same
      generalize upd H' c (.lst ((stopV rs.length zs rs t (lc rs) i).drop 1)) = Hc at smc kc ⊢
      refine ⟨c, rfl, ⟨_, .inl (.inl kc)⟩, fun D2 hD2 => lc_list (xs := (stopV rs.length zs rs t (lc rs) i).drop 1) (fun k H2 => Same Hc H2 ∧ H2 D2 = some (.lst ((shV zs rs t i).take k))) ⟨same_upd hD2, upd_same⟩ (fun k H2 _ g => .inl (.inl (g.1 _ _ kc))) (fun k y H2 hy ⟨sm2, k2⟩ => ?_) (fun H2 ⟨sm2, k2⟩ => ?_)⟩
      · rw [List.getElem?_drop] at hy
        unfold stopV at hy
        rw [List.getElem?_map] at hy
        cases hk : (List.range (lc rs + 1))[1 + k]? with
        | none => rw [hk] at hy; cases hy
        | some j =>
          rw [hk] at hy
          obtain rfl := Option.some.inj hy
          have hkl := (List.getElem?_eq_some_iff.mp hk).1
          rw [List.length_range] at hkl
          rw [List.getElem?_range hkl] at hk
          obtain rfl := Option.some.inj hk
          have hlt := ap_lt (fwd_eff rs.length zs rs t (1 + k)) (x := i) (by rw [fwd_len]; omega)
          rw [fwd_len] at hlt
          refine ⟨rfl, yes_go ⟨.ref f, rfl, .int (ap (fwd rs.length zs rs t (1 + k)) i : Nat), rfl, f, _, _, _, rfl, rfl, .inl (.inl (sm2 _ _ (smc _ _ (h.1 _ _ kf)))), atI_nat (shelvesL_at hlt), _, k2, ?_, same_of sm2 hD2, ?_⟩⟩
          · rw [List.length_take, shV_len]
            exact small1000 (by omega)
          · have e1 : (shV zs rs t i)[k]? = some (tagV (tag zs rs.length (ap (fwd rs.length zs rs t (1 + k)) i))) := by
              unfold shV rowT
              rw [List.getElem?_map, List.getElem?_range (by omega), Nat.add_comm 1 k]
              rfl
            rw [upd_same, List.take_add_one, e1]
            rfl
      · have el : ((stopV rs.length zs rs t (lc rs) i).drop 1).length = (shV zs rs t i).length := by rw [List.length_drop, stopV_len, shV_len]; omega
        rw [el, List.take_length] at k2
        obtain ⟨acc, a1, a2, a3⟩ := h.push hD (smc.trans sm2) (Same.free smc hD2) k2 (by rw [List.length_map, List.length_range]; omega)
        exact ⟨acc, a1, a2, by rw [List.range_succ (n := i), List.map_append]; exact a3⟩
    · rw [List.length_map, hsl, esl] at rl
      exact q H' D rw2 (sm1.trans sm) kD rl
def nMl : List Str := ["row", "other", "shelf", "there"]
theorem scMarksLap : FnScope nMl ["row", "other"] (defScope sMarksLap) := ⟨rfl, rfl, rfl, by decide +kernel, rfl, by decide +kernel, by decide +kernel⟩
def blV (l : List Bool) : List V := l.map V.bl
theorem blV_len (l : List Bool) : (blV l).length = l.length := by unfold blV; simp
theorem lapM_len (zs : List Int) (rs : List Ro) (t : Int) (i j : Nat) : (lapM zs rs t i j).length = lc rs := by unfold lapM; simp
def spMarksLap (K : PySem.W.Frag) : Sp := fun vs H Q _ => ∃ (a b : Addr) (zs : List Int) (rs : List Ro) (t : Int) (i j : Nat), vs = [.ref a, .ref b] ∧ SqL K H a (shV zs rs t i) ∧ SqL K H b (shV zs rs t j) ∧ lc rs ≤ 1000 ∧ NewLv H (blV (lapM zs rs t i j)) Q
theorem same_tag (a b : Option Nat) : tagV a ≠ .non → decide (tagV a = tagV b) = sameT a b := fun h => by
  cases a with
  | none => exact absurd rfl h
  | some s =>
    cases b with
    | none =>
      show decide (V.int (s : Nat) = V.non) = decide ((none : Option Nat) = some s)
      rw [decide_eq_false (by simp), decide_eq_false (by simp)]
    | some u =>
      show decide (V.int (s : Nat) = V.int (u : Nat)) = decide (some u = some s)
      by_cases e : s = u
      · subst e
        rw [decide_eq_true rfl, decide_eq_true rfl]
      · rw [decide_eq_false (fun z => e (by have := V.int.inj z; omega)), decide_eq_false (fun z => e (Option.some.inj z).symm)]
theorem tagV_scal (a b : Option Nat) : scal (tagV a) (tagV b) = true := by cases a <;> cases b <;> rfl
theorem ok_marksLap (T : Bd P K mg) : FnOk P w K mg base CX0 1 T.aMarksLap T.dMarksLap ["row", "other"] (spMarksLap K) := by
  refine T.MarksLap.F.ok scMarksLap (fun vs H Q E h => ?_) (fun cdv A outer s H vs Q E hr h => ?_)
  · obtain ⟨a, b, zs, rs, t, i, j, rfl, _⟩ := h
    rfl
  · obtain ⟨a, b, zs, rs, t, i, j, rfl, hA, hB, hl, q⟩ := h
    refine ⟨_, (pss_one (ps_ret (pe_lc (own := [("shelf", 2), ("there", 3)]) (g := gTup K 2 (gCons (gName 2) (gCons (gName 3) gNil))) (tt := tYes) (te := tAndV (tOp rNotNo (tVar 2) (tC .non)) (tOp rEq (tVar 2) (tVar 3))) rfl scMarksLap.nd (RZ.pi_zipA (by rfl) T.bt.zip (pa_cons (pv 0) (pa_cons (pv 1) pa_nil))) (blkOk_by (N := nMl) (sc := defScope sMarksLap) (by decide +kernel)) (fun _ _ _ _ _ => (pg_tup rfl (pgs_cons (pg_name (i := 2) scMarksLap.nd rfl (.inl rfl)) (pgs_cons (pg_name (i := 3) scMarksLap.nd rfl (.inl rfl)) pgs_nil)))) (fun _ _ _ _ _ => pts_nil) (fun _ _ _ _ _ => pe_and (pe_cmpR op_notN (pv 2) pe_non (nomark _)) (pe_one (pe_cmpR op_eq (pv 2) (pv 3) (nomark _))))))), ?_⟩
    have len1 := shV_len zs rs t i
    have len2 := shV_len zs rs t j
    refine ⟨.ref a, rfl, .ref b, rfl, a, b, _, _, rfl, .inl ⟨hA, hB, fun D hD => lc_it (walk_zip (n := lc rs) (xs := shV zs rs t i) (ys := shV zs rs t j) (by omega)) (fun k H' => Same H H' ∧ H' D = some (.lst (blV ((lapM zs rs t i j).take k)))) ⟨same_upd hD, upd_same⟩ (fun k H' _ h => ⟨Same.seq h.1 hA, Same.seq h.1 hB⟩) (fun k x H' H2 hk ⟨sm, kD⟩ hY => ?_) (fun H' ⟨sm, kD⟩ => ?_)⟩⟩
    · obtain ⟨U, x1, x2, rfl, nU, rfl, e1, e2⟩ := hY
      dsimp only at e1 e2
      unfold shV at e1 e2
      rw [List.getElem?_map, List.getElem?_range hk] at e1 e2
      have f1 : x1 = tagV (rowT zs rs t i (k + 1)) := (Option.some.inj e1).symm
      have f2 : x2 = tagV (rowT zs rs t j (k + 1)) := (Option.some.inj e2).symm
      subst f1
      subst f2
      have smU : Same H (upd H' U (.tup [tagV (rowT zs rs t i (k + 1)), tagV (rowT zs rs t j (k + 1))])) := same_of sm (Same.free sm nU)
      have DU : D ≠ U := ne_of_none kD nU
      have kU : (upd H' U (.tup [tagV (rowT zs rs t i (k + 1)), tagV (rowT zs rs t j (k + 1))])) D = some (.lst (blV ((lapM zs rs t i j).take k))) := by rw [upd_ne DU]; exact kD
      refine ⟨U, _, rfl, .inl (.inl upd_same), rfl, _, _, rfl, _, _, rfl, rfl, rfl, yes_go ?_⟩
      generalize upd H' U (.tup [tagV (rowT zs rs t i (k + 1)), tagV (rowT zs rs t j (k + 1))]) = H5 at smU kU ⊢
      have hm : (lapM zs rs t i j)[k]? = some (sameT (rowT zs rs t i (k + 1)) (rowT zs rs t j (k + 1))) := by
        unfold lapM
        rw [List.getElem?_map, List.getElem?_range hk]
        rfl
      have fin : ∀ bb, bb = sameT (rowT zs rs t i (k + 1)) (rowT zs rs t j (k + 1)) → ∃ acc, H5 D = some (.lst acc) ∧ acc.length < sizeLine ∧ Same H (upd H5 D (.lst (acc ++ [V.bl bb]))) ∧ (upd H5 D (.lst (acc ++ [V.bl bb]))) D = some (.lst (blV ((lapM zs rs t i j).take (k + 1)))) := fun bb hb => by
        refine ⟨_, kU, ?_, same_of smU hD, ?_⟩
        · rw [blV_len, List.length_take, lapM_len]
          exact small1000 (by omega)
        · rw [upd_same, hb, List.take_add_one, hm]
          unfold blV
          rw [List.map_append]
          rfl
      refine ⟨_, rfl, rfl, _, rfl, ?_⟩
      cases e : rowT zs rs t i (k + 1) with
      | none =>
        rw [e] at fin
        have c1 : (!decide (tagV none = V.non)) = false := by
          rw [decide_eq_true (show tagV none = V.non from rfl)]
          rfl
        rw [c1]
        exact iteF (fin false rfl)
      | some m =>
        rw [e] at fin
        have c1 : (!decide (tagV (some m) = V.non)) = true := by
          rw [decide_eq_false (show ¬ tagV (some m) = V.non from fun z => by cases z)]
          rfl
        rw [c1]
        refine iteT ⟨_, rfl, _, rfl, tagV_scal _ _, fin _ (same_tag (some m) _ (by simp [tagV]))⟩
    · have e := lapM_len zs rs t i j
      rw [← e, List.take_length] at kD
      exact q H' D sm (Same.free (Same.refl H) hD) kD
def nPb : List Str := ["effect", "one", "other", "first", "second", "laps", "index"]
theorem scPairs : FnScope nPb ["effect", "one", "other"] (defScope sPairs) := ⟨rfl, rfl, rfl, by decide +kernel, rfl, by decide +kernel, by decide +kernel⟩
noncomputable def lapsN (e : List Nat) (i j : Nat) : Nat := Nat.lcm (per e i) (per e j)
noncomputable def pairsV (e : List Nat) (i j k : Nat) : List (List V) := (List.range k).map fun m => [V.int (it e m i : Nat), V.int (it e m j : Nat)]
def spPairs (K : PySem.W.Frag) : Sp := fun vs H Q _ => ∃ (a : Addr) (e : List Nat) (i j : Nat), vs = [.ref a, .int (i : Nat), .int (j : Nat)] ∧ SqT K H a (vN e) ∧ Eff e ∧ e.length ≤ 120 ∧ i < e.length ∧ j < e.length ∧ NewTL H (pairsV e i j (lapsN e i j)) Q
theorem lapsN_le {e : List Nat} (E : Eff e) {i j : Nat} (hl : e.length ≤ 120) (hi : i < e.length) (hj : j < e.length) : 1 ≤ lapsN e i j ∧ lapsN e i j ≤ 14400 := by
  have h1 := (per_spec E hi).2.2.2
  have h2 := (per_spec E hj).2.2.2
  have p1 := per_pos E hi
  have p2 := per_pos E hj
  unfold lapsN
  refine ⟨Nat.lcm_pos p1 p2, Nat.le_trans (Nat.le_of_dvd (Nat.mul_pos p1 p2) (Nat.lcm_dvd (Nat.dvd_mul_right ..) (Nat.dvd_mul_left ..))) ?_⟩
  exact Nat.mul_le_mul (by omega : per e i ≤ 120) (by omega : per e j ≤ 120)
theorem ok_pairs (T : Bd P K mg) : FnOk P w K mg base CX0 2 T.aPairs T.dPairs ["effect", "one", "other"] (spPairs K) := by
  have GC : FnOk P w K mg base CX0 1 T.aCycleFrom T.dCycleFrom ["effect", "start"] (spCycleFrom K) := ok_cycleFrom T
  refine T.Pairs.F.ok scPairs (fun vs H Q E h => ?_) (fun cdv A outer s H vs Q E hr h => ?_)
  · obtain ⟨a, e, i, j, rfl, _⟩ := h
    rfl
  · obtain ⟨a, e, i, j, rfl, hA, hE, hl, hi, hj, q⟩ := h
    refine ⟨_, (pss_cons (ps_set (i := 3) scPairs.nd rfl (Or.inr rfl) (pe_call (E := E0) GC hr (by rfl) T.CycleFrom.g T.CycleFrom.F.kp T.CycleFrom.b .nil pass0 (pa_cons (pv 0) (pa_cons (pv 1) pa_nil))))
      (pss_cons (ps_set (i := 4) scPairs.nd rfl (Or.inr rfl) (pe_call (E := E0) GC hr (by rfl) T.CycleFrom.g T.CycleFrom.F.kp T.CycleFrom.b .nil pass0 (pa_cons (pv 0) (pa_cons (pv 2) pa_nil))))
      (pss_cons (ps_set (i := 5) scPairs.nd rfl (Or.inl rfl) (pe_callBfun cr_lcm (by rfl) T.lcm (pa_cons (pe_callB call_len_seq (by rfl) T.bt.len b_len (pa_cons (pv 3) pa_nil)) (pa_cons (pe_callB call_len_seq (by rfl) T.bt.len b_len (pa_cons (pv 4) pa_nil)) pa_nil))))
      (pss_one (ps_ret (pe_lc (own := [("index", 6)]) (g := gName 6) (tt := tYes) (te := tTup (tCons (tOp (rIxT K) (tVar 3) (tOp rFmod (tInt (tVar 6)) (tLenS K (tVar 3)))) (tCons (tOp (rIxT K) (tVar 4) (tOp rFmod (tInt (tVar 6)) (tLenS K (tVar 4)))) tNil))) rfl scPairs.nd (pi_range1 (by rfl) T.bt.range (pa_cons (pv 5) pa_nil)) (blkOk_by (N := nPb) (sc := defScope sPairs) (by decide +kernel)) (fun _ _ _ _ _ => pg_name (i := 6) scPairs.nd rfl (Or.inl rfl)) (fun _ _ _ _ _ => pts_nil) (fun _ _ _ _ _ => pe_tup (pa_cons (pe_ix ix_tup (pv 3) (pe_op op_modN (pe_callTy call_int1 (by rfl) T.bt.int b_int (pa_cons (pv 6) pa_nil)) (pe_callB call_len_seq (by rfl) T.bt.len b_len (pa_cons (pv 3) pa_nil))) (fun _ _ => rfl)) (pa_cons (pe_ix ix_tup (pv 4) (pe_op op_modN (pe_callTy call_int1 (by rfl) T.bt.int b_int (pa_cons (pv 6) pa_nil)) (pe_callB call_len_seq (by rfl) T.bt.len b_len (pa_cons (pv 4) pa_nil))) (fun _ _ => rfl)) pa_nil))))))))), ?_⟩
    have p1 := per_pos hE hi
    have p2 := per_pos hE hj
    have le1 := (per_spec hE hi).2.2.2
    have le2 := (per_spec hE hj).2.2.2
    have b64 : (120 : Nat) < 2 ^ 64 := by decide
    have b62 : (14400 : Int) < 2 ^ 62 := by decide
    obtain ⟨lp, lq⟩ := lapsN_le hE hl hi hj
    refine ⟨.ref a, rfl, .int (i : Nat), rfl, a, e, i, rfl, hA, hE, hi, by omega, fun H1 c1 sm1 n1 k1 => ?_⟩
    refine ⟨.ref a, rfl, .int (j : Nat), rfl, a, e, j, rfl, sqT_same sm1 hA, hE, hj, by omega, fun H2 c2 sm2 n2 k2 => ?_⟩
    have k1' := sm2 _ _ k1
    refine ⟨.ref c1, rfl, c1, _, rfl, .inr (.inl (.inl k1')), .ref c2, rfl, c2, _, rfl, .inr (.inl (.inl k2)), per e i, per e j, by rw [vN_len, vN_len, cyc_len, cyc_len], by omega, by omega, ?_⟩
    refine ⟨.int (lapsN e i j : Nat), rfl, (lapsN e i j : Nat), rfl, by omega, by omega, fun D hD => ?_⟩
    rw [Int.toNat_natCast]
    refine lc_range (lo := 0) (n := lapsN e i j) (fun m H' => Same H2 H' ∧ TL H' D (pairsV e i j m)) ⟨same_upd hD, [], upd_same, .nil⟩ (fun m H' hm ⟨sm, tl⟩ => ?_) (fun H' ⟨sm, tl⟩ => ?_)
    · have ei : (0 : Int) + (m : Nat) = (m : Nat) := by omega
      rw [ei]
      obtain ⟨ps, hff, htv⟩ := tl.ex
      have a1 : (vN (cyc e i))[m % per e i]? = some (.int (it e m i : Nat)) := by
        have hlt := Nat.mod_lt m p1
        unfold vN
        rw [List.getElem?_map, cyc_at hlt, ← it_mod hE hi]
        rfl
      have a2 : (vN (cyc e j))[m % per e j]? = some (.int (it e m j : Nat)) := by
        have hlt := Nat.mod_lt m p2
        unfold vN
        rw [List.getElem?_map, cyc_at hlt, ← it_mod hE hj]
        rfl
      have m1 : Int.fmod (m : Nat) ((vN (cyc e i)).length : Nat) = ((m % per e i : Nat) : Int) := by
        rw [vN_len, cyc_len, Int.fmod_eq_emod_of_nonneg _ (by omega)]
        rfl
      have m2 : Int.fmod (m : Nat) ((vN (cyc e j)).length : Nat) = ((m % per e j : Nat) : Int) := by
        rw [vN_len, cyc_len, Int.fmod_eq_emod_of_nonneg _ (by omega)]
        rfl
      have z1 : ((vN (cyc e i)).length : Int) ≠ 0 := by rw [vN_len, cyc_len]; omega
      have z2 : ((vN (cyc e j)).length : Int) ≠ 0 := by rw [vN_len, cyc_len]; omega
      refine ⟨rfl, yes_go ⟨.ref c1, rfl, .int (m : Nat), rfl, .inl ⟨_, rfl, .ref c1, rfl, c1, _, rfl, .inr (.inl (.inl (sm _ _ k1'))), _, _, rfl, rfl, z1, c1, _, _, .int (it e m i : Nat), rfl, rfl, .inl (.inl (sm _ _ k1')), by rw [m1]; exact atI_nat a1, ?_⟩⟩⟩
      refine ⟨.ref c2, rfl, .int (m : Nat), rfl, .inl ⟨_, rfl, .ref c2, rfl, c2, _, rfl, .inr (.inl (.inl (sm _ _ k2))), _, _, rfl, rfl, z2, c2, _, _, .int (it e m j : Nat), rfl, rfl, .inl (.inl (sm _ _ k2)), by rw [m2]; exact atI_nat a2, (by show 2 ≤ sizeLine; decide), fun u hu => ?_⟩⟩
      refine ⟨ps.map V.ref, ?_, ?_, same_of (same_of sm (Same.free sm hu)) hD, ?_⟩
      · rw [upd_ne (ne_of_none hff hu)]
        exact hff
      · rw [tl.len hff]
        unfold pairsV
        rw [List.length_map, List.length_range, sizeLine_eq]
        omega
      · have e3 : pairsV e i j (m + 1) = pairsV e i j m ++ [[V.int (it e m i : Nat), V.int (it e m j : Nat)]] := by
          unfold pairsV
          rw [List.range_succ (n := m), List.map_append]
          rfl
        rw [e3]
        exact (tl.same (same_upd hu)).push (by rw [upd_ne (ne_of_none hff hu)]; exact hff) upd_same
    · exact q H' D ((sm1.trans sm2).trans sm) (Same.free (sm1.trans sm2) hD) tl
end
end Sv
set_option maxHeartbeats 4000000
namespace Sv
open PySem PySem.Spec PyProof.Rows L2
section
variable {P : Program} {w : World} {K : PySem.W.Frag} {mg : Str → Option Value} {base : Heap}
def nMm : List Str := ["plan", "state", "one", "other", "lap", "rows", "marks", "here", "there"]
theorem scMarks : FnScope nMm ["plan", "state", "one", "other"] (defScope sMarks) := ⟨rfl, rfl, rfl, by decide +kernel, rfl, by decide +kernel, by decide +kernel⟩
def spMarks (K : PySem.W.Frag) : Sp := fun vs H Q _ => ∃ (p s : Addr) (zs : List Int) (rs : List Ro) (t : Int) (L : Lay Int) (i j : Nat), vs = [.ref p, .ref s, .int (i : Nat), .int (j : Nat)] ∧ PlanAt K H p zs rs ∧ Val zs rs ∧ StateAt K H s t L ∧ i < rs.length + sumN zs ∧ j < rs.length + sumN zs ∧
  NewLv H (blV (mkL zs rs t (lapsN (wh rs.length zs rs t) i j) i j)) Q
theorem mkL_len (zs : List Int) (rs : List Ro) (t : Int) (i j : Nat) : ∀ laps, (mkL zs rs t laps i j).length = laps * lc rs
  | 0 => by
    rw [Nat.zero_mul]
    rfl
  | k + 1 => by
    have ih := mkL_len zs rs t i j k
    unfold mkL at ih ⊢
    rw [List.range_succ, List.flatMap_append, List.length_append, ih, List.flatMap_cons, List.flatMap_nil, List.append_nil, lapM_len, Nat.succ_mul]
theorem ok_marks (T : Bd P K mg) : FnOk P w K mg base CX0 6 T.aMarks T.dMarks ["plan", "state", "one", "other"] (spMarks K) := by
  have GI : FnOk P w K mg base CX0 3 T.aLap T.dLap ["self", "plan", "time"] (spLapInit K T.CLap) := ok_lapInit T
  have GS : FnOk P w K mg base CX0 3 T.aShelvesLap T.dShelvesLap ["plan", "lap"] (spShelvesLap K T.CLap) := ok_shelvesLap T
  have GP : FnOk P w K mg base CX0 2 T.aPairs T.dPairs ["effect", "one", "other"] (spPairs K) := ok_pairs T
  have GM : FnOk P w K mg base CX0 1 T.aMarksLap T.dMarksLap ["row", "other"] (spMarksLap K) := ok_marksLap T
  refine T.Marks.F.ok scMarks (fun vs H Q E h => ?_) (fun cdv A outer s H vs Q E hr h => ?_)
  · obtain ⟨p, s, zs, rs, t, L, i, j, rfl, _⟩ := h
    rfl
  · obtain ⟨p, s, zs, rs, t, L, i, j, rfl, hp, hv, hst, hi, hj, q⟩ := h
    have hr1 : Room 4 _ := hr.mono (by decide)
    refine ⟨_, (pss_cons (ps_set (i := 4) scMarks.nd rfl (Or.inl rfl) (pe_make T.lap.m GI hr1 (by rfl) T.lap.g T.lap.b .nil pass0 (pa_cons (pv 0) (pa_cons (pe_ix ix_tup (pv 1) pe_int (fun _ _ => rfl)) pa_nil))))
      (pss_cons (ps_set (i := 5) scMarks.nd rfl (Or.inl rfl) (pe_call (E := E0) GS (hr.mono (by decide)) (by rfl) T.ShelvesLap.g T.ShelvesLap.F.kp T.ShelvesLap.b .nil pass0 (pa_cons (pv 0) (pa_cons (pv 4) pa_nil))))
      (pss_cons (ps_set (i := 6) scMarks.nd rfl (Or.inl rfl) (pe_lst pa_nil))
      (pss_cons (ps_for PassesOwn.never rfl (pi_list (pe_call (E := E0) GP (hr.mono (by decide)) (by rfl) T.Pairs.g T.Pairs.F.kp T.Pairs.b .nil pass0 (pa_cons (pe_fld (pv 4) rfl) (pa_cons (pv 2) (pa_cons (pv 3) pa_nil))))) (pg_tup rfl (pgs_cons (pg_name (i := 7) scMarks.nd rfl (.inl rfl)) (pgs_cons (pg_name (i := 8) scMarks.nd rfl (.inl rfl)) pgs_nil))) (pss_one (ps_expr (pe_bm PySem.F.plainAttrs_list PySem.F.slot_list_extend PySem.F.type_list_extend mt_extend (pv 6) (pa_cons (pe_call (E := E0) GM (hr.mono (by decide)) (by rfl) T.MarksLap.g T.MarksLap.F.kp T.MarksLap.b .nil pass0 (pa_cons (pe_ix ix_list (pv 5) (pv 7) (fun _ _ => rfl)) (pa_cons (pe_ix ix_list (pv 5) (pv 8) (fun _ _ => rfl)) pa_nil))) pa_nil)))))
      (pss_one (ps_ret (pv 6))))))), ?_⟩
    have n120 := hv.num120
    obtain ⟨l1, l60⟩ := lc_le hv.r2
    have wl := wh_len rs.length zs rs t
    have we := wh_eff rs.length zs rs t
    obtain ⟨lp, lq⟩ := lapsN_le we (by omega) (by omega : i < (wh rs.length zs rs t).length) (by omega : j < (wh rs.length zs rs t).length)
    obtain ⟨ca, sh, hs1, hL⟩ := hst.ex
    refine ⟨.ref p, rfl, .ref s, rfl, s, _, 0, .int t, rfl, rfl, hs1, rfl, fun la dl n1 n2 ne => ⟨la, dl, p, t, zs, rs, rfl, upd_same, hp.same (same_of (same_upd n2) n1), hv, fun HL o lap => ⟨rfl, ?_⟩⟩⟩
    have smL := same_make n1 n2 o
    refine ⟨.ref p, rfl, .ref la, rfl, p, la, zs, rs, t, rfl, hp.same smL, hv, lap, fun HR f rw smR kf rl => ?_⟩
    have lapR := lap.same smR
    obtain ⟨dx, st, le, ef, fs, srw, lrw, h1, h2, h3, h4, h5, h6, h7, h8, h9, h10⟩ := lapR.ex
    have smA := smL.trans smR
    have hrl := rowV_len rl
    have esl : (shVs zs rs t).length = rs.length + sumN zs := by unfold shVs; rw [List.length_map, List.length_range]
    refine ⟨Nat.zero_le _, fun m hm => ?_⟩
    have sm0 : Same HR (upd HR m (.lst [])) := same_upd hm
    have km : (upd HR m (.lst [])) m = some (.lst (blV (mkL zs rs t 0 i j))) := upd_same
    generalize upd HR m (.lst []) = H0 at sm0 km ⊢
    refine ⟨.ref la, rfl, la, T.CLap, dx, fs, _, rfl, sm0 _ _ h1, T.lap.c, T.lap.n4, h5, .int (i : Nat), rfl, .int (j : Nat), rfl, ef, wh rs.length zs rs t, i, j, rfl, .inl (.inl (sm0 _ _ h10)), we, by omega, by omega, by omega, fun H2 g sm2 ng tl => ?_⟩
    obtain ⟨ps, kg, tv⟩ := tl.ex
    have hpl := tupsV_len tv
    have epl : (pairsV (wh rs.length zs rs t) i j (lapsN (wh rs.length zs rs t) i j)).length = lapsN (wh rs.length zs rs t) i j := by unfold pairsV; rw [List.length_map, List.length_range]
    have gm : g ≠ m := fun z => by rw [z, km] at ng; cases ng
    refine ⟨g, rfl, ⟨_, .inl (.inl kg)⟩, for_list (xs := ps.map V.ref) (fun k σ H' => (∃ y7 y8, σ = [some (.ref p), some (.ref s), some (.int (i : Nat)), some (.int (j : Nat)), some (.ref la), some (.ref f), some (.ref m), y7, y8]) ∧ Same HR H' ∧ H' g = some (.lst (ps.map V.ref)) ∧ TupsV H' ps (pairsV (wh rs.length zs rs t) i j (lapsN (wh rs.length zs rs t) i j)) ∧ H' m = some (.lst (blV (mkL zs rs t k i j))))
      ⟨⟨_, _, rfl⟩, sm0.trans sm2, kg, tv, sm2 _ _ km⟩ (fun k σ H' _ h => .inl (.inl h.2.2.1)) (fun k x σ H' hx ⟨⟨y7, y8, es⟩, sm, kg3, tv3, km3⟩ => ?_) (fun σ H' ⟨⟨y7, y8, es⟩, sm, kg3, tv3, km3⟩ => ?_)⟩
    · subst es
      obtain ⟨U, hU, rfl⟩ := refs_lt hx
      have hk := (List.getElem?_eq_some_iff.mp hU).1
      obtain ⟨t0, ht0, hUt⟩ := tupsV_at tv3 hU
      unfold pairsV at ht0
      rw [List.getElem?_map, List.getElem?_range (by omega)] at ht0
      have et : t0 = [V.int (it (wh rs.length zs rs t) k i : Nat), V.int (it (wh rs.length zs rs t) k j : Nat)] := (Option.some.inj ht0).symm
      subst et
      have li := it_lt we (k := k) (by omega : i < (wh rs.length zs rs t).length)
      have lj := it_lt we (k := k) (by omega : j < (wh rs.length zs rs t).length)
      have eapp : mkL zs rs t (k + 1) i j = mkL zs rs t k i j ++ lapM zs rs t (it (wh rs.length zs rs t) k i) (it (wh rs.length zs rs t) k j) := by
        unfold mkL
        rw [List.range_succ, List.flatMap_append, List.flatMap_cons, List.flatMap_nil, List.append_nil]
      generalize it (wh rs.length zs rs t) k i = a at hUt li eapp ⊢
      generalize it (wh rs.length zs rs t) k j = b at hUt lj eapp ⊢
      have rl3 := rowV_imp (fun q _ o ho => sm _ _ ho) rl
      obtain ⟨qa, hqa⟩ : ∃ qa, rw[a]? = some qa := ⟨_, List.getElem?_eq_getElem (by omega)⟩
      obtain ⟨qb, hqb⟩ : ∃ qb, rw[b]? = some qb := ⟨_, List.getElem?_eq_getElem (by omega)⟩
      obtain ⟨sa, esa, kqa⟩ := rowV_at rl3 hqa
      obtain ⟨sb, esb, kqb⟩ := rowV_at rl3 hqb
      unfold shVs at esa esb
      rw [List.getElem?_map, List.getElem?_range (by omega)] at esa esb
      have ea : sa = shV zs rs t a := (Option.some.inj esa).symm
      have eb : sb = shV zs rs t b := (Option.some.inj esb).symm
      subst ea
      subst eb
      refine ⟨U, _, rfl, .inl (.inl hUt), rfl, _, _, rfl, _, _, rfl, rfl, ?_⟩
      refine ⟨.ref m, rfl, .inl ⟨rfl, _, .inl (.inl km3)⟩, .ref f, rfl, .int (a : Nat), rfl, f, _, _, .ref qa, rfl, rfl, .inl (.inl (sm _ _ kf)), atI_nat (by rw [List.getElem?_map, hqa]; rfl), .ref f, rfl, .int (b : Nat), rfl, f, _, _, .ref qb, rfl, rfl, .inl (.inl (sm _ _ kf)), atI_nat (by rw [List.getElem?_map, hqb]; rfl), qa, qb, zs, rs, t, a, b, rfl, .inl (.inl kqa), .inl (.inl kqb), by omega, fun H4 u sm4 nu ku => ?_⟩
      have mu : m ≠ u := fun z => by rw [← z, km3] at nu; cases nu
      have lm := mkL_len zs rs t i j k
      have bk : k * lc rs ≤ 14400 * 60 := Nat.mul_le_mul (by omega) (by omega)
      refine ⟨m, u, _, _, rfl, rfl, sm4 _ _ km3, ku, ?_, ⟨_, _, rfl⟩, same_of (sm.trans sm4) hm, ?_, ?_, ?_⟩
      · rw [blV_len, blV_len, lapM_len, lm, sizeLine_eq]
        omega
      · rw [upd_ne gm]
        exact sm4 _ _ kg3
      · exact tupsV_imp (fun c xs hc => by rw [upd_ne (fun z => by rw [z, sm4 _ _ km3] at hc; cases hc)]; exact hc) (tupsV_same sm4 tv3)
      · rw [upd_same, eapp]
        unfold blV
        rw [List.map_append]
    · subst es
      rw [List.length_map, hpl, epl] at km3
      exact ⟨.ref m, rfl, q H' m (smA.trans sm) (Same.free smA hm) km3⟩
theorem scCountIn : FnScope ["row", "wanted", "count", "rounds", "rest"] ["row", "wanted", "count"] (defScope sCountIn) := ⟨rfl, rfl, rfl, by decide +kernel, rfl, by decide +kernel, by decide +kernel⟩
def spCountIn (K : PySem.W.Frag) : Sp := fun vs H Q _ => ∃ (l : Addr) (xs : List V) (y : V) (c : Nat), vs = [.ref l, y, .int (c : Nat)] ∧ SqL K H l xs ∧ flatV y = true ∧ xs.all flatV = true ∧ c ≤ 1000000000000000000 ∧ 1 ≤ xs.length ∧ xs.length ≤ 1000000 ∧
  ∀ H', Same H H' → Q (.int (c / xs.length * cntV y xs + cntV y (xs.take (c % xs.length)) : Nat)) H'
theorem all_take {p : V → Bool} {xs : List V} (h : xs.all p = true) (k : Nat) : (xs.take k).all p = true := List.all_eq_true.mpr fun x hx => List.all_eq_true.mp h x (List.mem_of_mem_take hx)
theorem ok_countIn (T : Bd P K mg) : FnOk P w K mg base CX0 1 T.aCountIn T.dCountIn ["row", "wanted", "count"] (spCountIn K) := by
  refine T.CountIn.F.ok scCountIn (fun vs H Q E h => ?_) (fun cdv A outer s H vs Q E hr h => ?_)
  · obtain ⟨l, xs, y, c, rfl, _⟩ := h
    rfl
  · obtain ⟨l, xs, y, c, rfl, hS, fy, fx, hc, x1, x2, q⟩ := h
    refine ⟨_, (pss_cons (ps_asg (pe_callB call_divmod (by rfl) T.bt.divmod (by decide +kernel) (pa_cons (pv 2) (pa_cons (pe_callB call_len_seq (by rfl) T.bt.len b_len (pa_cons (pv 0) pa_nil)) pa_nil))) (pg_tup rfl (pgs_cons (pg_name (i := 3) scCountIn.nd rfl (.inl rfl)) (pgs_cons (pg_name (i := 4) scCountIn.nd rfl (.inl rfl)) pgs_nil))))
      (pss_one (ps_ret (pe_op op_add (pe_op op_mul (pv 3) (pe_bm PySem.F.plainAttrs_list PySem.F.slot_list_count PySem.F.type_list_count mt_countF (pv 0) (pa_cons (pv 1) pa_nil))) (pe_bm PySem.F.plainAttrs_list PySem.F.slot_list_count PySem.F.type_list_count mt_countF (pe_slice sl_list (pv 0) po_none (po_some (pv 4))) (pa_cons (pv 1) pa_nil)))))), ?_⟩
    refine ⟨.int (c : Nat), rfl, .ref l, rfl, l, _, rfl, .inl hS, (c : Nat), (xs.length : Nat), rfl, ⟨by omega, by omega⟩, fun tp htp => ?_⟩
    rw [← Int.natCast_ediv, ← Int.natCast_emod]
    have sm1 : Same H (upd H tp (.tup [.int (c / xs.length : Nat), .int (c % xs.length : Nat)])) := same_upd htp
    have k1 : (upd H tp (.tup [.int (c / xs.length : Nat), .int (c % xs.length : Nat)])) tp = some (.tup [.int (c / xs.length : Nat), .int (c % xs.length : Nat)]) := upd_same
    generalize upd H tp (.tup [.int (c / xs.length : Nat), .int (c % xs.length : Nat)]) = H1 at sm1 k1 ⊢
    have hS1 := Same.seq sm1 hS
    refine ⟨tp, _, rfl, .inl (.inl k1), rfl, _, _, rfl, _, _, rfl, rfl, ?_⟩
    have d1 : c / xs.length ≤ c := Nat.div_le_self _ _
    have p64 : (1000000000000000000 : Int) < 2 ^ 64 := by decide
    have m64 : -(2 ^ 64 : Int) < 0 := by decide
    have bd : -(2 ^ 64 : Int) < ((c / xs.length : Nat) : Int) ∧ ((c / xs.length : Nat) : Int) < 2 ^ 64 := by
      generalize c / xs.length = dd at d1 ⊢
      omega
    refine ⟨.int (c / xs.length : Nat), rfl, .ref l, rfl, .inl ⟨rfl, _, hS1⟩, y, rfl, l, xs, y, rfl, rfl, hS1, fy, fx, (c / xs.length : Nat), (cntV y xs : Nat), rfl, rfl, .inl bd, .ref l, rfl, .int (c % xs.length : Nat), rfl, _, rfl, l, xs, rfl, hS1, fun g hg => ?_⟩
    rw [cut_to]
    have kg : (upd H1 g (.lst (xs.take (c % xs.length)))) g = some (.lst (xs.take (c % xs.length))) := upd_same
    have sm2 := sm1.trans (same_upd (o := .lst (xs.take (c % xs.length))) hg)
    refine ⟨.inl ⟨rfl, _, .inl (.inl kg)⟩, y, rfl, g, _, y, rfl, rfl, .inl (.inl kg), fy, all_take fx _, _, _, rfl, rfl, ?_⟩
    have q := q _ sm2
    rw [Int.natCast_add, Int.natCast_mul] at q
    exact q
theorem scFirst : FnScope ["plan", "state", "one", "other", "start", "target", "marks"] ["plan", "state", "one", "other"] (defScope sFirstMeeting) := ⟨rfl, rfl, rfl, by decide +kernel, rfl, by decide +kernel, by decide +kernel⟩
/-- the first k with f k -/
def FirstV (f : Nat → Bool) (v : V) : Prop := (∃ k : Nat, v = .int (k : Nat) ∧ f k = true ∧ ∀ j, j < k → f j = false) ∨ (v = .non ∧ ∀ k, f k = false)
theorem flat_bls (l : List Bool) : (blV l).all flatV = true := by
  unfold blV
  rw [List.all_map]
  exact List.all_eq_true.mpr fun _ _ => rfl
theorem eqV_bl (a : Bool) : eqV (.bl a) (.bl true) = a := by
  show (a == true) = a
  cases a <;> rfl
theorem inV_bls (l : List Bool) : inV (.bl true) (blV l) = l.any id := by
  unfold inV blV
  rw [List.any_map]
  congr 1
  funext a
  exact eqV_bl a
/-- what the marks tell of the first meeting -/
theorem first_case {f : Nat → Bool} {W : Nat} (hW : 0 < W) (per : ∀ k, f (W + k) = f k) : (f W = true → FirstV f (.int 0)) ∧ ((∀ k, k < W → f (k + 1) = false) → FirstV f .non) ∧ (∀ j, f W = false → f (j + 1) = true → (∀ i, i < j → f (i + 1) = false) → FirstV f (.int ((j : Int) + 1))) := by
  have p0 : f W = f 0 := per 0
  refine ⟨fun h => .inl ⟨0, rfl, by rw [← p0]; exact h, fun j hj => by omega⟩, fun h => .inr ⟨rfl, ?_⟩, fun j h1 h2 h3 => .inl ⟨j + 1, rfl, h2, fun i hi => ?_⟩⟩
  · have h' := none_in (f := fun j => f (j + 1)) hW (fun j => per (j + 1)) h
    intro k
    cases k with
    | zero =>
      rw [← p0]
      have := h (W - 1) (by omega)
      rwa [show W - 1 + 1 = W by omega] at this
    | succ k => exact h' k
  · cases i with
    | zero =>
      rw [← p0]
      exact h1
    | succ i => exact h3 i (by omega)
theorem first_true {l : List Bool} (h : l.any id = true) : ∃ j : Nat, l[j]? = some true ∧ ∀ i : Nat, i < j → l[i]? = some false := by
  induction l with
  | nil => cases h
  | cons a l ih =>
    cases a with
    | true => exact ⟨0, rfl, fun i hi => by omega⟩
    | false =>
      obtain ⟨j, h1, h2⟩ := ih (by simpa using h)
      refine ⟨j + 1, by simpa using h1, fun i hi => ?_⟩
      cases i with
      | zero => rfl
      | succ i => simpa using h2 i (by omega)
def spFirst (K : PySem.W.Frag) (C CS CU : Addr) : Sp := fun vs H Q E => ∃ (p s : Addr) (zs : List Int) (rs : List Ro) (t x y : Int) (L : Lay Int), vs = [.ref p, .ref s, .int x, .int y] ∧ PlanAt K H p zs rs ∧ Small zs rs ∧ StateAt K H s t L ∧ BadE C zs rs H E ∧
  (bad zs rs = none → ¬ StOk zs rs t L → ∀ H', Same H H' → E (.ref CS) none H') ∧ (bad zs rs = none → StOk zs rs t L → x ∉ join L → ∀ H', Same H H' → E (.ref CU) none H') ∧
  (bad zs rs = none → StOk zs rs t L → x ∈ join L → y ∉ join L → ∀ H', Same H H' → E (.ref CU) none H') ∧
  (bad zs rs = none → StOk zs rs t L → x ∈ join L → y ∈ join L → ∀ H' v, Same H H' → FirstV (mB zs rs t L x y) v → Q v H')
theorem ok_first (T : Bd P K mg) : FnOk P w K mg base (L2.CX P w) 7 T.aFirstMeeting T.dFirstMeeting ["plan", "state", "one", "other"] (spFirst K T.C T.CS T.CUr) := by
  have GT : FnOk P w K mg base (L2.CX P w) 5 T.aStartOf T.dStartOf ["plan", "state", "parcel"] (spStart K T.C T.CS T.CUr) := ok_startOf T
  have GO : FnOk P w K mg base (L2.CX P w) 3 T.aPlaceOfParcel T.dPlaceOfParcel ["state", "parcel"] (spPlaceOfParcel K T.CUr) := ok_placeOfParcel T
  have GK : FnOk P w K mg base CX0 6 T.aMarks T.dMarks ["plan", "state", "one", "other"] (spMarks K) := ok_marks T
  refine T.FirstMeeting.F.okX scFirst (fun vs H Q E h => ?_) (fun cdv A outer s H vs Q E hr h => ?_)
  · obtain ⟨p, s, zs, rs, t, x, y, L, rfl, _⟩ := h
    rfl
  · obtain ⟨p, s, zs, rs, t, x, y, L, rfl, hp, hs, hst, q1, q2, q3, q4, q5⟩ := h
    refine ⟨_, (pss_cons (ps_set (i := 4) scFirst.nd rfl (Or.inl rfl) (pe_call (E := E) GT (hr.mono (by decide)) (by rfl) T.StartOf.g T.StartOf.F.kp T.StartOf.b .nil (passes_call (takes_of rfl rfl rfl rfl) fun _ _ _ _ h => h) (pa_cons (pv 0) (pa_cons (pv 1) (pa_cons (pv 2) pa_nil)))))
      (pss_cons (ps_set (i := 5) scFirst.nd rfl (Or.inl rfl) (pe_call (E := E) GO (hr.mono (by decide)) (by rfl) T.PlaceOfParcel.g T.PlaceOfParcel.F.kp T.PlaceOfParcel.b .nil (passes_call (takes_of rfl rfl rfl rfl) fun _ _ _ _ h => h) (pa_cons (pv 1) (pa_cons (pv 3) pa_nil))))
      (pss_cons (ps_set (i := 6) scFirst.nd rfl (Or.inl rfl) (pe_call (E := E0) GK (hr.mono (by decide)) (by rfl) T.Marks.g T.Marks.F.kp T.Marks.b .nil pass0 (pa_cons (pv 0) (pa_cons (pv 1) (pa_cons (pv 4) (pa_cons (pv 5) pa_nil))))))
      (pss_cons (ps_if (pt_val (pe_ix ix_list (pv 6) (pe_un un_neg pe_int) (fun _ _ => rfl))) (pss_one (ps_ret pe_int)) pss_nil)
      (pss_cons (ps_if (pt_cmpR op_notIn_seq pe_bl (pv 6) (by rfl)) (pss_one (ps_ret pe_non)) pss_nil)
      (pss_one (ps_ret (pe_op op_add (pe_bm PySem.F.plainAttrs_list PySem.F.slot_list_index PySem.F.type_list_index mt_index (pv 6) (pa_cons pe_bl pa_nil)) pe_int)))))))), ?_⟩
    refine ⟨.ref p, rfl, .ref s, rfl, .int x, rfl, p, s, zs, rs, t, x, L, rfl, hp, hs, hst, q1, q2, fun e1 hok i hi H1 sm1 => ?_, q3⟩
    have hv := val_of e1
    have hn := hv.num
    have hxm := List.mem_of_getElem? hi
    have jl := join_len hok.f
    refine ⟨.ref s, rfl, .int y, rfl, s, y, t, L, rfl, hst.same sm1, by omega, hok.p, fun j hj H2 sm2 => ?_, fun hno H2 sm2 => q4 e1 hok hxm hno H2 (sm1.trans sm2)⟩
    have smA := sm1.trans sm2
    have hym := List.mem_of_getElem? hj
    have il := (List.getElem?_eq_some_iff.mp hi).1
    have jl2 := (List.getElem?_eq_some_iff.mp hj).1
    have hi' : i < rs.length + sumN zs := by omega
    have hj' : j < rs.length + sumN zs := by omega
    obtain ⟨l1, l60⟩ := lc_le hv.r2
    have wl := wh_len rs.length zs rs t
    have we := wh_eff rs.length zs rs t
    have n120 := hv.num120
    obtain ⟨lp, lq⟩ := lapsN_le we (by omega) (by omega : i < (wh rs.length zs rs t).length) (by omega : j < (wh rs.length zs rs t).length)
    refine ⟨.ref p, rfl, .ref s, rfl, .int (i : Nat), rfl, .int (j : Nat), rfl, p, s, zs, rs, t, L, i, j, rfl, hp.same smA, hv, hst.same smA, hi', hj', fun H3 m sm3 nm km => ?_⟩
    have smB := smA.trans sm3
    rw [mkL_eq zs t hv.rne hv.lc1 hi' hj'] at km
    have Wp : 0 < lapsN (wh rs.length zs rs t) i j * lc rs := Nat.mul_pos (by omega) (by omega)
    have per : ∀ k, mk zs rs t i j (lapsN (wh rs.length zs rs t) i j * lc rs + k) = mk zs rs t i j k := fun k => mk_per zs t hv.rne hv.lc1 hi' hj' (Nat.dvd_lcm_left ..) (Nat.dvd_lcm_right ..) k
    have ans : ∀ H' v, Same H H' → FirstV (mk zs rs t i j) v → Q v H' := fun H' v sm hF => q5 e1 hok hxm hym H' v sm (by rw [show mB zs rs t L x y = mk zs rs t i j from funext (mB_mk zs t hv.rne hv.lc1 hok.f hok.p.2 hi hj)]; exact hF)
    generalize lapsN (wh rs.length zs rs t) i j * lc rs = W at km Wp per
    obtain ⟨c1, c2, c3⟩ := first_case Wp per
    obtain ⟨W', rfl⟩ : ∃ W', W = W' + 1 := ⟨W - 1, by omega⟩
    have elast : blV ((List.range (W' + 1)).map fun k => mk zs rs t i j (k + 1)) = blV ((List.range W').map fun k => mk zs rs t i j (k + 1)) ++ [V.bl (mk zs rs t i j (W' + 1))] := by
      unfold blV
      rw [List.range_succ (n := W'), List.map_append, List.map_append]
      rfl
    refine ⟨.ref m, rfl, 1, rfl, m, _, _, .bl (mk zs rs t i j (W' + 1)), rfl, rfl, .inl (.inl km), (by rw [elast]; exact atI_last _ _), _, rfl, ?_⟩
    cases hlast : mk zs rs t i j (W' + 1) with
    | true => exact iteT (ans H3 _ smB (c1 hlast))
    | false =>
      refine iteF ⟨.ref m, rfl, m, _, rfl, .inl (.inl (.inl km)), rfl, flat_bls _, _, rfl, ?_⟩
      rw [inV_bls]
      cases hany : ((List.range (W' + 1)).map fun k => mk zs rs t i j (k + 1)).any id with
      | false =>
        refine iteT (ans H3 _ smB (c2 fun k hk => ?_))
        have := List.any_eq_false.mp hany (mk zs rs t i j (k + 1)) (List.mem_map.mpr ⟨k, List.mem_range.mpr hk, rfl⟩)
        simpa using this
      | true =>
        obtain ⟨b, hb1, hb2⟩ := first_true hany
        have at' : ∀ {k : Nat} {z : Bool}, ((List.range (W' + 1)).map fun k => mk zs rs t i j (k + 1))[k]? = some z → mk zs rs t i j (k + 1) = z := fun {k z} hz => by
          have hk := (List.getElem?_eq_some_iff.mp hz).1
          rw [List.length_map, List.length_range] at hk
          rw [List.getElem?_map, List.getElem?_range hk] at hz
          exact Option.some.inj hz
        refine iteF ⟨.ref m, rfl, .inl ⟨rfl, _, .inl (.inl km)⟩, m, _, .bl true, b, .bl true, rfl, rfl, .inl (.inl km), rfl, flat_bls _, by unfold blV; rw [List.getElem?_map, hb1]; rfl, rfl, fun d z hd hz => ?_, _, 1, rfl, rfl, ans H3 _ smB (c3 b hlast (at' hb1) fun e he => at' (hb2 e he))⟩
        unfold blV at hz
        rw [List.getElem?_map, hb2 d hd] at hz
        have ez : z = .bl false := (Option.some.inj hz).symm
        rw [ez]
        rfl
end
end Sv
set_option maxHeartbeats 4000000
namespace Sv
open PySem PySem.Spec PyProof.Rows L2
theorem prs_ltv (rs : List Ro) (m : Int) : ∀ k, ∀ p ∈ prs rs m k, p.1 < k
  | 0, p, h => by cases h
  | k + 1, p, h => by
    unfold prs at h
    rcases List.mem_append.mp h with h | h
    · have := prs_ltv rs m k p h
      omega
    · split at h
      · split at h
        · rw [List.mem_singleton.mp h]
          exact Nat.lt_succ_self k
        · cases h
      · cases h
theorem prs_nd (rs : List Ro) (m : Int) : ∀ k, ((prs rs m k).map (·.1)).Nodup
  | 0 => List.nodup_nil
  | k + 1 => by
    have ih := prs_nd rs m k
    unfold prs
    rw [List.map_append]
    refine List.nodup_append.mpr ⟨ih, ?_, fun a ha b hb e => ?_⟩
    · split
      · split
        · simp
        · exact List.nodup_nil
      · exact List.nodup_nil
    · obtain ⟨p, hp, rfl⟩ := List.mem_map.mp ha
      have h1 := prs_ltv rs m k p hp
      obtain ⟨q, hq, rfl⟩ := List.mem_map.mp hb
      have h2 : q.1 = k := by
        split at hq
        · split at hq
          · rw [List.mem_singleton.mp hq]
          · cases hq
        · cases hq
      omega
theorem vis_nd (rs : List Ro) (m : Int) : ((vis rs m).map (·.1)).Nodup := by
  unfold vis
  rw [List.map_map]
  exact prs_nd rs m rs.length
theorem step1_car {α : Type} (L : Lay α) (p : Nat × Nat) {c : Nat} (h : p.1 ≠ c) : (step1 L p).1[c]? = L.1[c]? := by
  unfold step1
  split
  · show (L.1.set p.1 _)[c]? = _
    rw [List.getElem?_set_ne h]
  · rfl
theorem steps_car {α : Type} {c : Nat} : ∀ (ps : List (Nat × Nat)) (L : Lay α), (∀ p ∈ ps, p.1 ≠ c) → (steps ps L).1[c]? = L.1[c]?
  | [], _, _ => rfl
  | p :: ps, L, h => by
    show (steps ps (step1 L p)).1[c]? = _
    rw [steps_car ps (step1 L p) fun q hq => h q (List.mem_cons_of_mem _ hq), step1_car L p (h p (List.mem_cons_self ..))]
/-- what is left by the k-th of the visits is what its carrier had at first -/
theorem left_first {ps : List (Nat × Nat)} (nd : (ps.map (·.1)).Nodup) (L : Lay Int) {k : Nat} {p : Nat × Nat} (hp : ps[k]? = some p) : (steps (ps.take k) L).1.getD p.1 0 = L.1.getD p.1 0 := by
  rw [List.getD_eq_getElem?_getD, List.getD_eq_getElem?_getD, steps_car]
  intro q hq e
  obtain ⟨j, hj⟩ := List.mem_iff_getElem?.mp hq
  have hjk : j < k := by
    have := (List.getElem?_eq_some_iff.mp hj).1
    rw [List.length_take] at this
    omega
  rw [List.getElem?_take, if_pos hjk] at hj
  have e1 : (ps.map (·.1))[j]? = some q.1 := by rw [List.getElem?_map, hj]; rfl
  have e2 : (ps.map (·.1))[k]? = some p.1 := by rw [List.getElem?_map, hp]; rfl
  obtain ⟨a, ea⟩ := List.getElem?_eq_some_iff.mp e1
  obtain ⟨b, eb⟩ := List.getElem?_eq_some_iff.mp e2
  have := (List.getElem_inj nd).mp ((ea.trans e).trans eb.symm)
  omega
theorem lefN_no {ps : List (Nat × Nat)} (nd : (ps.map (·.1)).Nodup) {L : Lay Int} {x : Int} (h : ∀ p ∈ ps, x ≠ L.1.getD p.1 0) : ∀ k, lefN ps L x k = .non
  | 0 => rfl
  | k + 1 => by
    unfold lefN
    cases hp : ps[k]? with
    | none => exact lefN_no nd h k
    | some p =>
      show (if x = (steps (ps.take k) L).1.getD p.1 0 then V.int (p.2 : Nat) else lefN ps L x k) = .non
      rw [left_first nd L hp, if_neg (h p (List.mem_of_getElem? hp))]
      exact lefN_no nd h k
theorem lefN_yes {ps : List (Nat × Nat)} (nd : (ps.map (·.1)).Nodup) {L : Lay Int} {x : Int} {p : Nat × Nat} (hx : x = L.1.getD p.1 0) (un : ∀ q ∈ ps, x = L.1.getD q.1 0 → q.1 = p.1) : ∀ k j, ps[j]? = some p → j < k → k ≤ ps.length → lefN ps L x k = .int (p.2 : Nat)
  | 0, j, _, h, _ => by omega
  | k + 1, j, hj, h, hk => by
    unfold lefN
    have hq : ps[k]? = some ps[k] := List.getElem?_eq_getElem (by omega)
    rw [hq]
    show (if x = (steps (ps.take k) L).1.getD ps[k].1 0 then V.int (ps[k].2 : Nat) else lefN ps L x k) = _
    rw [left_first nd L hq]
    by_cases e : x = L.1.getD ps[k].1 0
    · rw [if_pos e]
      have e1 := un _ (List.mem_of_getElem? hq) e
      have a1 : (ps.map (·.1))[k]? = some ps[k].1 := by rw [List.getElem?_map, hq]; rfl
      have a2 : (ps.map (·.1))[j]? = some p.1 := by rw [List.getElem?_map, hj]; rfl
      obtain ⟨a, ea⟩ := List.getElem?_eq_some_iff.mp a1
      obtain ⟨b, eb⟩ := List.getElem?_eq_some_iff.mp a2
      have := (List.getElem_inj nd).mp ((ea.trans e1).trans eb.symm)
      subst this
      rw [hj] at hq
      rw [← Option.some.inj hq]
    · rw [if_neg e]
      have : j ≠ k := fun z => by
        rw [z, hq] at hj
        rw [Option.some.inj hj] at e
        exact e hx
      exact lefN_yes nd hx un k j hj (by omega) (by omega)
/-- the shelf that is visited from place q in a tick -/
def vsh (n : Nat) (rs : List Ro) (m : Int) (q : Nat) : Option Nat := if q < n then ((vis rs m).find? fun p => decide (p.1 = q)).map (·.2) else none
theorem lefV_vsh {zs : List Int} {rs : List Ro} (hr : ∀ r ∈ rs, r ≠ [] ∧ ∀ e ∈ r, okE zs.length e = true) (m : Int) {L : Lay Int} (hf : Fits rs.length zs L) (nd : (join L).Nodup) {q : Nat} {x : Int} (hq : (join L)[q]? = some x) : lefV (vis rs m) L x = tagV (vsh rs.length rs m q) := by
  have vn := vis_nd rs m
  have lt : ∀ p ∈ vis rs m, p.1 < L.1.length := fun p hp => by
    rw [hf.1]
    exact (vis_ok hr m p hp).1
  have at1 : ∀ p ∈ vis rs m, (join L)[p.1]? = some (L.1.getD p.1 0) := fun p hp => by
    have h := lt p hp
    unfold join
    rw [List.getElem?_append_left h, List.getElem?_eq_getElem h, List.getD_eq_getElem?_getD, List.getElem?_eq_getElem h]
    rfl
  have un : ∀ p ∈ vis rs m, x = L.1.getD p.1 0 → p.1 = q := fun p hp e => by
    have h := at1 p hp
    rw [← e] at h
    obtain ⟨a, ea⟩ := List.getElem?_eq_some_iff.mp h
    obtain ⟨b, eb⟩ := List.getElem?_eq_some_iff.mp hq
    exact (List.getElem_inj nd).mp (ea.trans eb.symm)
  unfold lefV vsh
  by_cases hn : q < rs.length
  · rw [if_pos hn]
    cases hfd : (vis rs m).find? fun p => decide (p.1 = q) with
    | none =>
      refine lefN_no vn (fun p hp e => ?_) _
      have := List.find?_eq_none.mp hfd p hp
      simp only [decide_eq_true_eq] at this
      exact this (un p hp e)
    | some p =>
      have hp := List.mem_of_find?_eq_some hfd
      have hpq : p.1 = q := by
        have := List.find?_some hfd
        simpa using this
      obtain ⟨j, hj⟩ := List.mem_iff_getElem?.mp hp
      have hx : x = L.1.getD p.1 0 := by
        have := at1 p hp
        rw [hpq, hq] at this
        rw [hpq]
        exact Option.some.inj this
      exact lefN_yes vn hx (fun r hr2 e => (un r hr2 e).trans hpq.symm) _ j hj (List.getElem?_eq_some_iff.mp hj).1 (Nat.le_refl _)
  · rw [if_neg hn]
    refine lefN_no vn (fun p hp e => hn ?_) _
    rw [← un p hp e]
    exact (vis_ok hr m p hp).1
/-- the shelf on which what was at place i is left in the tick behind k ticks -/
noncomputable def lft (zs : List Int) (rs : List Ro) (t : Int) (i k : Nat) : Option Nat := vsh rs.length rs (t + (k : Nat)) (pos zs rs t k i)
theorem leftV_at {zs : List Int} {rs : List Ro} (hv : Val zs rs) (t : Int) {i r : Nat} (hi : i < rs.length + sumN zs) : lefV (vis rs (t + (r : Nat))) (iL (run rs t r (idx rs.length zs))) (i : Nat) = tagV (vsh rs.length rs (t + (r : Nat)) (ap (fwd rs.length zs rs t r) i)) := by
  have ol := org_len rs.length zs rs t r
  have oe := org_eff rs.length zs rs t r
  have ej : join (iL (run rs t r (idx rs.length zs))) = iN (org rs.length zs rs t r) := join_map _ _
  have hfi : Fits rs.length zs (iL (run rs t r (idx rs.length zs))) := by
    rw [← run_iL]
    have e0 : iL (idx rs.length zs) = spl rs.length zs (iN (List.range (rs.length + sumN zs))) := (spl_iN _ _ _).symm
    rw [e0]
    exact run_fits _ _ _ (spl_fits (by unfold iN; rw [List.length_map, List.length_range]))
  have hlt := ap_lt (fwd_eff rs.length zs rs t r) (x := i) (by rw [fwd_len]; exact hi)
  rw [fwd_len] at hlt
  refine lefV_vsh hv.ro _ hfi ?_ ?_
  · rw [ej]
    unfold iN
    exact List.pairwise_map.mpr (oe.2.imp fun {a b} ne z => ne (by omega))
  · rw [ej]
    unfold iN
    rw [List.getElem?_map, ap_at (by rw [ol]; exact hlt)]
    have : ap (org rs.length zs rs t r) (ap (fwd rs.length zs rs t r) i) = i := ap_inv oe (by rw [ol]; exact hi)
    rw [this]
    rfl
theorem jl_eq {F : Nat → Nat → V} {G : Nat → V} {e : List Nat} {c i : Nat} (h : ∀ m r, r < c → F r (it e m i) = G (m * c + r)) : ∀ n, ((List.range n).flatMap fun m => (List.range c).map fun r => F r (it e m i)) = (List.range (n * c)).map G
  | 0 => by
    rw [Nat.zero_mul]
    rfl
  | n + 1 => by
    rw [List.range_succ, List.flatMap_append, jl_eq h n, Nat.succ_mul, List.range_add, List.map_append]
    congr 1
    rw [List.flatMap_cons, List.flatMap_nil, List.append_nil, List.map_map]
    exact List.map_congr_left fun r hr => h n r (List.mem_range.mp hr)
section
variable {zs : List Int} {rs : List Ro} (hv : Val zs rs) (t : Int) {i : Nat} (hi : i < rs.length + sumN zs)
include hv hi
theorem lefts_j (n : Nat) : ((List.range n).flatMap fun m => leftV rs.length zs rs t (lc rs) (it (wh rs.length zs rs t) m i)) = (List.range (n * lc rs)).map fun k => tagV (lft zs rs t i k) := by
  have wl := wh_len rs.length zs rs t
  have we := wh_eff rs.length zs rs t
  rw [← jl_eq (F := fun r a => lefV (vis rs (t + (r : Nat))) (iL (run rs t r (idx rs.length zs))) (a : Nat)) (e := wh rs.length zs rs t) (i := i) (fun m r _ => ?_) n]
  · rfl
  · have hm := it_lt we (k := m) (x := i) (by omega)
    rw [wl] at hm
    rw [leftV_at hv t hm]
    unfold lft vsh
    rw [pos_lap zs t hv.rne hv.lc1 hi, vis_mod hv.rne (m := t + (r : Nat)) (m' := t + ((m * lc rs + r : Nat) : Int)) ⟨-(m : Int), by
      rw [Int.natCast_add, Int.natCast_mul, Int.mul_neg, Int.mul_comm (lc rs : Int)]
      omega⟩]
theorem pos_per {W : Nat} (h1 : per (wh rs.length zs rs t) i ∣ W) (k : Nat) : pos zs rs t (W * lc rs + k) i = pos zs rs t k i := by
  have wl := wh_len rs.length zs rs t
  have we := wh_eff rs.length zs rs t
  have dm := Nat.div_add_mod k (lc rs)
  have e1 : W * lc rs + k = (k / lc rs + W) * lc rs + k % lc rs := by
    rw [Nat.add_mul, Nat.mul_comm (k / lc rs)]
    omega
  have e2 : k = k / lc rs * lc rs + k % lc rs := by
    rw [Nat.mul_comm]
    omega
  conv => rhs; rw [e2]
  rw [e1, pos_lap zs t hv.rne hv.lc1 hi, pos_lap zs t hv.rne hv.lc1 hi, it_add, (it_eq_iff we (by rw [wl]; exact hi) W).mpr h1]
theorem lft_per {W : Nat} (h1 : per (wh rs.length zs rs t) i ∣ W) (k : Nat) : lft zs rs t i (W * lc rs + k) = lft zs rs t i k := by
  unfold lft vsh
  rw [pos_per hv t hi h1, vis_mod hv.rne (m := t + ((W * lc rs + k : Nat) : Int)) (m' := t + (k : Nat)) ⟨(W : Int), by
    rw [Int.natCast_add, Int.natCast_mul, Int.mul_comm (lc rs : Int)]
    omega⟩]
end
end Sv
set_option maxHeartbeats 4000000
namespace Sv
open PySem PySem.Spec PyProof.Rows L2
section
variable {P : Program} {w : World} {K : PySem.W.Frag} {mg : Str → Option Value} {base : Heap}
theorem scCheckShelf : FnScope ["plan", "shelf"] ["plan", "shelf"] (defScope sCheckShelf) := ⟨rfl, rfl, rfl, by decide +kernel, rfl, by decide +kernel, by decide +kernel⟩
def spCheckShelf (K : PySem.W.Frag) (CU : Addr) : Sp := fun vs H Q E => ∃ (p : Addr) (zs : List Int) (rs : List Ro) (x : Int), vs = [.ref p, .int x] ∧ PlanAt K H p zs rs ∧ Val zs rs ∧ ((0 ≤ x ∧ x < (zs.length : Nat)) → Q .non H) ∧ (¬ (0 ≤ x ∧ x < (zs.length : Nat)) → E (.ref CU) none H)
theorem ok_checkShelf (T : Bd P K mg) : FnOk P w K mg base (L2.CX P w) 2 T.aCheckShelf T.dCheckShelf ["plan", "shelf"] (spCheckShelf K T.CUs) := by
  have GW : FnOk P w K mg base CX0 1 T.aWithin T.dWithin ["number", "low", "high"] spWithin := ok_within T.Within.F T.bt.isinstance T.bt.bool T.bt.int
  refine T.CheckShelf.F.okX scCheckShelf (fun vs H Q E h => ?_) (fun cdv A outer s H vs Q E hr h => ?_)
  · obtain ⟨p, zs, rs, x, rfl, _⟩ := h
    rfl
  · obtain ⟨p, zs, rs, x, rfl, hp, hv, q1, q2⟩ := h
    obtain ⟨a, b, hp1, ha, hb⟩ := hp.ex
    obtain ⟨qs, hA, hP⟩ := hb.ex
    have hql := paired_len hP
    refine ⟨_, pss_one (ps_if (pt_not (pt_val (pe_call GW hr (by rfl) T.Within.g T.Within.F.kp T.Within.b .nil pass0 (pa_cons (pv 1) (pa_cons pe_int (pa_cons (pe_op op_sub (pe_callB call_len_seq (by rfl) T.bt.len b_len (pa_cons (pe_ix ix_tup (pv 0) pe_int (fun _ _ => rfl)) pa_nil)) pe_int) pa_nil))))))
      (pss_one (ps_raise rfl (takes_of rfl rfl rfl rfl) (pmk_own PySem.F.excBase_ValueError T.cus.x T.cus.g T.cus.k (raises_own T.cus.b T.cus.t) rfl))) pss_nil), ?_⟩
    refine ⟨.int x, rfl, .ref p, rfl, p, _, 0, _, rfl, rfl, hp1, rfl, a, _, rfl, .inr ha, _, 1, rfl, rfl, ?_⟩
    rw [List.length_map]
    refine ⟨x, 0, _, rfl, _, rfl, ?_⟩
    by_cases h : 0 ≤ x ∧ x < (zs.length : Nat)
    · rw [decide_eq_true ⟨h.1, by have := h.2; omega⟩]
      exact iteF (q1 h)
    · rw [decide_eq_false fun z => h ⟨z.1, by have := z.2; omega⟩]
      exact iteT (q2 h)
theorem scLeftsJ : FnScope ["lap", "start", "found", "place"] ["lap", "start"] (defScope sLeftsJ) := ⟨rfl, rfl, rfl, by decide +kernel, rfl, by decide +kernel, by decide +kernel⟩
noncomputable def leJ (zs : List Int) (rs : List Ro) (t : Int) (i W : Nat) : List V := (List.range W).map fun k => tagV (lft zs rs t i k)
def spLeftsJ (K : PySem.W.Frag) (C : Addr) : Sp := fun vs H Q _ => ∃ (la : Addr) (zs : List Int) (rs : List Ro) (t : Int) (i : Nat), vs = [.ref la, .int (i : Nat)] ∧ Val zs rs ∧ LapAt H C la zs rs t ∧ i < rs.length + sumN zs ∧ NewLv H (leJ zs rs t i (per (wh rs.length zs rs t) i * lc rs)) Q
theorem ok_leftsJ (T : Bd P K mg) : FnOk P w K mg base CX0 2 T.aLeftsJ T.dLeftsJ ["lap", "start"] (spLeftsJ K T.CLap) := by
  have GC : FnOk P w K mg base CX0 1 T.aCycleFrom T.dCycleFrom ["effect", "start"] (spCycleFrom K) := ok_cycleFrom T
  refine T.LeftsJ.F.ok scLeftsJ (fun vs H Q E h => ?_) (fun cdv A outer s H vs Q E hr h => ?_)
  · obtain ⟨la, zs, rs, t, i, rfl, _⟩ := h
    rfl
  · obtain ⟨la, zs, rs, t, i, rfl, hv, lap, hi, q⟩ := h
    refine ⟨_, (pss_cons (ps_set (i := 2) scLeftsJ.nd rfl (Or.inl rfl) (pe_lst pa_nil))
      (pss_cons (ps_for PassesOwn.never rfl (pi_tup (pe_call (E := E0) GC (hr.mono (by decide)) (by rfl) T.CycleFrom.g T.CycleFrom.F.kp T.CycleFrom.b .nil pass0 (pa_cons (pe_fld (pv 0) rfl) (pa_cons (pv 1) pa_nil)))) (pg_name (i := 3) scLeftsJ.nd rfl (.inl rfl)) (pss_one (ps_expr (pe_bm PySem.F.plainAttrs_list PySem.F.slot_list_extend PySem.F.type_list_extend mt_extend (pv 2) (pa_cons (pe_ix ix_list (pe_fld (pv 0) rfl) (pv 3) (fun _ _ => rfl)) pa_nil)))))
      (pss_one (ps_ret (pv 2))))), ?_⟩
    have n120 := hv.num120
    obtain ⟨l1, l60⟩ := lc_le hv.r2
    have wl := wh_len rs.length zs rs t
    have we := wh_eff rs.length zs rs t
    have hiw : i < (wh rs.length zs rs t).length := by omega
    obtain ⟨dx, st, le, ef, fs, srw, lrw, h1, h2, h3, h4, h5, h6, h7, h8, h9, h10⟩ := lap.ex
    have hsl := rowV_len h9
    have esl : (leftsV rs.length zs rs t (lc rs)).length = rs.length + sumN zs := by unfold leftsV; rw [List.length_map, List.length_range]
    refine ⟨Nat.zero_le _, fun m hm => ?_⟩
    have sm0 : Same H (upd H m (.lst [])) := same_upd hm
    have km : (upd H m (.lst [])) m = some (.lst (((List.range 0).flatMap fun b => (leftV rs.length zs rs t (lc rs) (it (wh rs.length zs rs t) b i))))) := upd_same
    generalize upd H m (.lst []) = H0 at sm0 km ⊢
    refine ⟨.ref la, rfl, la, T.CLap, dx, fs, _, rfl, sm0 _ _ h1, T.lap.c, T.lap.n4, h5, .int (i : Nat), rfl, ef, wh rs.length zs rs t, i, rfl, .inl (.inl (sm0 _ _ h10)), we, hiw, by omega, fun H2 c sm2 nc kc => ?_⟩
    have cm : c ≠ m := fun z => by rw [z, km] at nc; cases nc
    have ple := (per_spec we hiw).2.2.2
    refine ⟨c, rfl, ⟨_, .inl (.inl kc)⟩, for_tup (xs := vN (cyc (wh rs.length zs rs t) i)) (fun k σ H' => (∃ y, σ = [some (.ref la), some (.int (i : Nat)), some (.ref m), y]) ∧ Same H H' ∧ H' c = some (.tup (vN (cyc (wh rs.length zs rs t) i))) ∧ H' m = some (.lst ((List.range k).flatMap fun b => (leftV rs.length zs rs t (lc rs) (it (wh rs.length zs rs t) b i)))))
      ⟨⟨_, rfl⟩, sm0.trans sm2, kc, sm2 _ _ km⟩ (fun k σ H' _ h => .inl (.inl h.2.2.1)) (fun k x σ H' hx ⟨⟨y, es⟩, sm, kc3, km3⟩ => ?_) (fun σ H' ⟨⟨y, es⟩, sm, kc3, km3⟩ => ?_)⟩
    · subst es
      obtain ⟨hk, rfl⟩ := vN_lt hx
      have hkp := hk
      rw [cyc_len] at hkp
      have eit : ap (cyc (wh rs.length zs rs t) i) k = it (wh rs.length zs rs t) k i := by
        unfold ap
        rw [List.getD_eq_getElem?_getD, cyc_at hkp]
        rfl
      rw [eit]
      have la' := it_lt we (k := k) hiw
      rw [wl] at la'
      have eapp : ((List.range (k + 1)).flatMap fun b => (leftV rs.length zs rs t (lc rs) (it (wh rs.length zs rs t) b i))) = ((List.range k).flatMap fun b => (leftV rs.length zs rs t (lc rs) (it (wh rs.length zs rs t) b i))) ++ (leftV rs.length zs rs t (lc rs) (it (wh rs.length zs rs t) k i)) := by
        rw [List.range_succ, List.flatMap_append, List.flatMap_cons, List.flatMap_nil, List.append_nil]
      have elen : ((List.range k).flatMap fun b => (leftV rs.length zs rs t (lc rs) (it (wh rs.length zs rs t) b i))).length = k * lc rs := by
        rw [lefts_j hv t hi]
        simp
      have elen1 : ((leftV rs.length zs rs t (lc rs) (it (wh rs.length zs rs t) k i))).length = lc rs := by
        exact leftV_len _ _ _ _ _ _
      rw [← esl, ← hsl] at la'
      generalize it (wh rs.length zs rs t) k i = a at la' eapp elen1 ⊢
      obtain ⟨qa, hqa⟩ : ∃ qa, lrw[a]? = some qa := ⟨_, List.getElem?_eq_getElem la'⟩
      obtain ⟨sa, esa, kqa⟩ := rowV_at (rowV_imp (fun q _ o ho => sm _ _ ho) h9) hqa
      unfold leftsV at esa
      rw [List.getElem?_map, List.getElem?_range (by omega)] at esa
      obtain rfl := Option.some.inj esa
      refine ⟨.ref m, rfl, .inl ⟨rfl, _, .inl (.inl km3)⟩, .ref la, rfl, la, T.CLap, dx, fs, _, rfl, sm _ _ h1, T.lap.c, T.lap.n3, h4, .int (a : Nat), rfl, le, _, _, .ref qa, rfl, rfl, .inl (.inl (sm _ _ h8)), atI_nat (by rw [List.getElem?_map, hqa]; rfl), ?_⟩
      refine ⟨m, qa, _, _, rfl, rfl, km3, kqa, ?_, ⟨_, rfl⟩, same_of sm hm, ?_, ?_⟩
      · rw [elen, elen1, sizeLine_eq]
        have := Nat.mul_le_mul (by omega : k ≤ 120) l60
        omega
      · rw [upd_ne cm]
        exact kc3
      · rw [upd_same, eapp]
    · subst es
      have ev : (vN (cyc (wh rs.length zs rs t) i)).length = per (wh rs.length zs rs t) i := by rw [vN_len, cyc_len]
      rw [ev, lefts_j hv t hi] at km3
      exact ⟨.ref m, rfl, q H' m sm hm km3⟩
end
end Sv
set_option maxHeartbeats 4000000
namespace Sv
theorem flt_len (f : Nat → Bool) (W : Nat) : ((List.range W).filter f).length = cntM f W := rfl
theorem cntM_succ (f : Nat → Bool) (n : Nat) : cntM f (n + 1) = cntM f n + (if f n = true then 1 else 0) := by
  unfold cntM
  rw [List.range_succ, List.filter_append, List.length_append]
  congr 1
  cases h : f n with
  | true => rw [List.filter_cons_of_pos h]; rfl
  | false => rw [List.filter_cons_of_neg (by rw [h]; exact Bool.false_ne_true)]; rfl
theorem cntM_mono (f : Nat → Bool) {a b : Nat} (h : a ≤ b) : cntM f a ≤ cntM f b := by
  obtain ⟨d, rfl⟩ := Nat.exists_eq_add_of_le h
  rw [cntM_add]
  exact Nat.le_add_right _ _
theorem cntM_le (f : Nat → Bool) (n : Nat) : cntM f n ≤ n := by
  unfold cntM
  have := List.length_filter_le f (List.range n)
  rwa [List.length_range] at this
theorem flt_at (f : Nat → Bool) : ∀ W r m, ((List.range W).filter f)[r]? = some m → m < W ∧ f m = true ∧ cntM f m = r
  | 0, r, m, h => by cases h
  | W + 1, r, m, h => by
    rw [List.range_succ, List.filter_append] at h
    by_cases hr : r < ((List.range W).filter f).length
    · rw [List.getElem?_append_left hr] at h
      obtain ⟨a, b, c⟩ := flt_at f W r m h
      exact ⟨by omega, b, c⟩
    · rw [List.getElem?_append_right (by omega)] at h
      cases hf : f W with
      | false =>
        rw [List.filter_cons_of_neg (by rw [hf]; exact Bool.false_ne_true)] at h
        cases h
      | true =>
        rw [List.filter_cons_of_pos hf] at h
        have hl := (List.getElem?_eq_some_iff.mp h).1
        rw [List.length_cons, List.filter_nil, List.length_nil] at hl
        have e0 : r - ((List.range W).filter f).length = 0 := by omega
        rw [e0] at h
        have em : W = m := Option.some.inj h
        rw [← em]
        exact ⟨by omega, hf, by rw [← flt_len]; omega⟩
/-- the n-th time, out of one round -/
theorem nth_round {f : Nat → Bool} {W : Nat} (per : ∀ k, f (W + k) = f k) (n : Nat) {m : Nat} (h : ((List.range W).filter f)[n % cntM f W]? = some m) : f (n / cntM f W * W + m) = true ∧ cntM f (n / cntM f W * W + m) = n := by
  obtain ⟨h1, h2, h3⟩ := flt_at f W _ m h
  have pf : ∀ d : Nat, f (d * W + m) = f m := by
    intro d
    induction d with
    | zero => rw [Nat.zero_mul, Nat.zero_add]
    | succ d ih =>
      rw [Nat.succ_mul, show d * W + W + m = W + (d * W + m) by omega, per, ih]
  refine ⟨by rw [pf]; exact h2, ?_⟩
  rw [cntM_per per, h3]
  have := Nat.div_add_mod n (cntM f W)
  rw [Nat.mul_comm] at this
  exact this
theorem cnt_none {f : Nat → Bool} {W : Nat} (hW : 0 < W) (per : ∀ k, f (W + k) = f k) (h : cntM f W = 0) : ∀ k, f k = false := by
  refine none_in hW per fun k hk => ?_
  cases e : f k with
  | false => rfl
  | true =>
    have h1 := cntM_succ f k
    rw [if_pos e] at h1
    have h2 := cntM_mono f (show k + 1 ≤ W from hk)
    omega
end Sv
set_option maxHeartbeats 4000000
namespace Sv
open PySem PySem.Spec PyProof.Rows L2
theorem eqV_tag (o : Option Nat) (y : Int) : eqV (tagV o) (.int y) = decide (tagV o = .int y) := by
  cases o with
  | none => rfl
  | some n =>
    show eqV (.int (n : Nat)) (.int y) = decide (V.int (n : Nat) = .int y)
    rw [eqV_int]
    exact decide_eq_decide.mpr ⟨fun h => by rw [h], fun h => V.int.inj h⟩
theorem flat_tags (F : Nat → Option Nat) (W : Nat) : ((List.range W).map fun k => tagV (F k)).all flatV = true := by
  rw [List.all_map]
  exact List.all_eq_true.mpr fun k _ => by
    show flatV (tagV (F k)) = true
    cases F k <;> rfl
theorem cnt_row {G : Nat → V} {f : Nat → Bool} {y : V} (h : ∀ k, eqV (G k) y = f k) (W : Nat) : cntV y ((List.range W).map G) = cntM f W := by
  unfold cntV cntM
  rw [List.countP_map, List.countP_eq_length_filter]
  congr 1
  exact List.filter_congr fun a _ => h a
theorem cnt_ticks {G : Nat → V} {f : Nat → Bool} {y : V} (h : ∀ k, eqV (G k) y = f k) {W : Nat} (W0 : 0 < W) (per : ∀ k, f (W + k) = f k) (c : Nat) :
    c / ((List.range W).map G).length * cntV y ((List.range W).map G) + cntV y (((List.range W).map G).take (c % ((List.range W).map G).length)) = cntM f c := by
  rw [List.length_map, List.length_range, ← List.map_take, List.take_range, Nat.min_eq_left (Nat.le_of_lt (Nat.mod_lt _ W0)), cnt_row h, cnt_row h, ← cntM_per per (c % W) (c / W), Nat.mul_comm, Nat.div_add_mod]
/-- in the tick behind k ticks it is left on shelf y -/
noncomputable def lfB (zs : List Int) (rs : List Ro) (t : Int) (i : Nat) (y : Int) (k : Nat) : Bool := decide (tagV (lft zs rs t i k) = .int y)
section
variable {zs : List Int} {rs : List Ro} (hv : Val zs rs) (t : Int) {i : Nat} (hi : i < rs.length + sumN zs) (y : Int)
include hv hi
theorem lfB_per (k : Nat) : lfB zs rs t i y (per (wh rs.length zs rs t) i * lc rs + k) = lfB zs rs t i y k := by
  unfold lfB
  rw [lft_per hv t hi (Nat.dvd_refl _)]
end
/-- the errors of who asks for a parcel -/
def PreE (C CS CU : Addr) (zs : List Int) (rs : List Ro) (t x : Int) (L : Lay Int) (H : Hp) (E : XK) : Prop := BadE C zs rs H E ∧
  (bad zs rs = none → ¬ StOk zs rs t L → ∀ H', Same H H' → E (.ref CS) none H') ∧ (bad zs rs = none → StOk zs rs t L → x ∉ join L → ∀ H', Same H H' → E (.ref CU) none H')
section
variable {P : Program} {w : World} {K : PySem.W.Frag} {mg : Str → Option Value} {base : Heap}
theorem scTimesLeft : FnScope ["plan", "state", "parcel", "shelf", "count", "start"] ["plan", "state", "parcel", "shelf", "count"] (defScope sTimesLeft) := ⟨rfl, rfl, rfl, by decide +kernel, rfl, by decide +kernel, by decide +kernel⟩
def spTimesLeft (K : PySem.W.Frag) (C CS CU CV CC : Addr) : Sp := fun vs H Q E => ∃ (p s : Addr) (zs : List Int) (rs : List Ro) (t x y c : Int) (L : Lay Int), vs = [.ref p, .ref s, .int x, .int y, .int c] ∧ PlanAt K H p zs rs ∧ Small zs rs ∧ StateAt K H s t L ∧ PreE C CS CU zs rs t x L H E ∧
  (bad zs rs = none → StOk zs rs t L → x ∈ join L → ¬ (0 ≤ y ∧ y < (zs.length : Nat)) → ∀ H', Same H H' → E (.ref CV) none H') ∧
  (bad zs rs = none → StOk zs rs t L → x ∈ join L → (0 ≤ y ∧ y < (zs.length : Nat)) → ¬ TkOk c → ∀ H', Same H H' → E (.ref CC) none H') ∧
  (bad zs rs = none → StOk zs rs t L → (0 ≤ y ∧ y < (zs.length : Nat)) → TkOk c → ∀ i : Nat, (join L)[i]? = some x → ∀ H', Same H H' → Q (.int (cntM (lfB zs rs t i y) c.toNat : Nat)) H')
theorem ok_timesLeft (T : Bd P K mg) : FnOk P w K mg base (L2.CX P w) 6 T.aTimesLeft T.dTimesLeft ["plan", "state", "parcel", "shelf", "count"] (spTimesLeft K T.C T.CS T.CUr T.CUs T.CC) := by
  have GI : FnOk P w K mg base CX0 3 T.aLap T.dLap ["self", "plan", "time"] (spLapInit K T.CLap) := ok_lapInit T
  have GT : FnOk P w K mg base (L2.CX P w) 5 T.aStartOf T.dStartOf ["plan", "state", "parcel"] (spStart K T.C T.CS T.CUr) := ok_startOf T
  have GK : FnOk P w K mg base (L2.CX P w) 3 T.aCheckTicks T.dCheckTicks ["count"] (spCheckTicks T.CC) := ok_checkTicks T
  have GN : FnOk P w K mg base CX0 1 T.aCountIn T.dCountIn ["row", "wanted", "count"] (spCountIn K) := ok_countIn T
  have GL : FnOk P w K mg base CX0 2 T.aLeftsJ T.dLeftsJ ["lap", "start"] (spLeftsJ K T.CLap) := ok_leftsJ T
  have GH : FnOk P w K mg base (L2.CX P w) 2 T.aCheckShelf T.dCheckShelf ["plan", "shelf"] (spCheckShelf K T.CUs) := ok_checkShelf T
  refine T.TimesLeft.F.okX scTimesLeft (fun vs H Q E h => ?_) (fun cdv A outer s H vs Q E hr h => ?_)
  · obtain ⟨p, s, zs, rs, t, x, y, c, L, rfl, _⟩ := h
    rfl
  · obtain ⟨p, s, zs, rs, t, x, y, c, L, rfl, hp, hs, hst, ⟨q1, q2, q3⟩, q4, q5, q6⟩ := h
    have hr1 : Room 4 _ := hr.mono (by decide)
    refine ⟨_, (pss_cons (ps_set (i := 5) scTimesLeft.nd rfl (Or.inl rfl) (pe_call (E := E) GT (hr.mono (by decide)) (by rfl) T.StartOf.g T.StartOf.F.kp T.StartOf.b .nil (passes_call (takes_of rfl rfl rfl rfl) fun _ _ _ _ h => h) (pa_cons (pv 0) (pa_cons (pv 1) (pa_cons (pv 2) pa_nil)))))
      (pss_cons (ps_expr (pe_call (E := E) GH (hr.mono (by decide)) (by rfl) T.CheckShelf.g T.CheckShelf.F.kp T.CheckShelf.b .nil (passes_call (takes_of rfl rfl rfl rfl) fun _ _ _ _ h => h) (pa_cons (pv 0) (pa_cons (pv 3) pa_nil))))
      (pss_cons (ps_expr (pe_call (E := E) GK (hr.mono (by decide)) (by rfl) T.CheckTicks.g T.CheckTicks.F.kp T.CheckTicks.b .nil (passes_call (takes_of rfl rfl rfl rfl) fun _ _ _ _ h => h) (pa_cons (pv 4) pa_nil)))
      (pss_one (ps_ret (pe_call (E := E0) GN (hr.mono (by decide)) (by rfl) T.CountIn.g T.CountIn.F.kp T.CountIn.b .nil pass0 (pa_cons (pe_call (E := E0) GL (hr.mono (by decide)) (by rfl) T.LeftsJ.g T.LeftsJ.F.kp T.LeftsJ.b .nil pass0 (pa_cons (pe_make T.lap.m GI hr1 (by rfl) T.lap.g T.lap.b .nil pass0 (pa_cons (pv 0) (pa_cons (pe_ix ix_tup (pv 1) pe_int (fun _ _ => rfl)) pa_nil))) (pa_cons (pv 5) pa_nil))) (pa_cons (pv 3) (pa_cons (pv 4) pa_nil))))))))), ?_⟩
    refine ⟨.ref p, rfl, .ref s, rfl, .int x, rfl, p, s, zs, rs, t, x, L, rfl, hp, hs, hst, q1, q2, fun e1 hok i hi H1 sm1 => ?_, q3⟩
    have hv := val_of e1
    have n120 := hv.num120
    have hxm := List.mem_of_getElem? hi
    have jl := join_len hok.f
    have il := (List.getElem?_eq_some_iff.mp hi).1
    have hi' : i < rs.length + sumN zs := by omega
    obtain ⟨l1, l60⟩ := lc_le hv.r2
    have wl := wh_len rs.length zs rs t
    have we := wh_eff rs.length zs rs t
    have pp := per_pos we (show i < (wh rs.length zs rs t).length by omega)
    have ple := (per_spec we (show i < (wh rs.length zs rs t).length by omega)).2.2.2
    refine ⟨.ref p, rfl, .int y, rfl, p, zs, rs, y, rfl, hp.same sm1, hv, fun hy => ?_, fun hy => q4 e1 hok hxm hy H1 sm1⟩
    refine ⟨.int c, rfl, c, rfl, fun hc => ?_, fun hc => q5 e1 hok hxm hy hc H1 sm1⟩
    obtain ⟨cn, hcn⟩ : ∃ cn : Nat, c = (cn : Int) := ⟨c.toNat, (Int.toNat_of_nonneg hc.1).symm⟩
    subst hcn
    have q := q6 e1 hok hy hc i hi
    rw [Int.toNat_natCast] at q
    have Wp : 0 < per (wh rs.length zs rs t) i * lc rs := Nat.mul_pos (by omega) (by omega)
    have Wl : per (wh rs.length zs rs t) i * lc rs ≤ 120 * 60 := Nat.mul_le_mul (by omega) l60
    have perf := lfB_per hv t hi' y
    obtain ⟨ca, sh, hs1, hL⟩ := (hst.same sm1).ex
    refine ⟨.ref p, rfl, .ref s, rfl, s, _, 0, .int t, rfl, rfl, hs1, rfl, fun la dl n1 n2 ne => ⟨la, dl, p, t, zs, rs, rfl, upd_same, (hp.same sm1).same (same_of (same_upd n2) n1), hv, fun HL o lap => ⟨rfl, ?_⟩⟩⟩
    have smL := sm1.trans (same_make n1 n2 o)
    refine ⟨.int (i : Nat), rfl, la, zs, rs, t, i, rfl, hv, lap, hi', fun H3 m sm3 nm km => ?_⟩
    have smB := smL.trans sm3
    generalize per (wh rs.length zs rs t) i * lc rs = W at km Wp Wl perf
    have hlen : (leJ zs rs t i W).length = W := by unfold leJ; rw [List.length_map, List.length_range]
    refine ⟨.int y, rfl, .int (cn : Nat), rfl, m, _, .int y, cn, rfl, .inl (.inl km), rfl, by unfold leJ; exact flat_tags _ _, by omega, by rw [hlen]; omega, by rw [hlen]; omega, fun H4 sm4 => ?_⟩
    unfold leJ
    rw [cnt_ticks (f := lfB zs rs t i y) (fun k => eqV_tag _ _) Wp perf]
    exact q H4 (smB.trans sm4)
end
end Sv
set_option maxHeartbeats 4000000
namespace Sv
open PySem PySem.Spec PyProof.Rows L2
def StV (F : Nat → Option Nat) (n : Nat) (v : V) : Prop := ∃ m : Nat, (F m).isSome = true ∧ cntM (fun k => (F k).isSome) m = n ∧ v = tagV (F m)
def StampsV (F : Nat → Option Nat) (c : Nat) (xs : List V) : Prop := (xs = [] ∧ ∀ k, (F k).isSome = false) ∨ xs.length = c ∧ ∀ j z, xs[j]? = some z → StV F j z
noncomputable def anB (zs : List Int) (rs : List Ro) (t : Int) (i : Nat) (k : Nat) : Bool := (lft zs rs t i k).isSome
noncomputable def anJ (zs : List Int) (rs : List Ro) (t : Int) (i W : Nat) : List V := ((List.range W).filter (anB zs rs t i)).map fun k => tagV (lft zs rs t i k)
theorem anJ_len (zs : List Int) (rs : List Ro) (t : Int) (i W : Nat) : (anJ zs rs t i W).length = cntM (anB zs rs t i) W := by
  unfold anJ
  rw [List.length_map, flt_len]
theorem flt_yes {f : Nat → Bool} {k : Nat} (h : f k = true) : (List.range (k + 1)).filter f = (List.range k).filter f ++ [k] := by
  rw [List.range_succ, List.filter_append, List.filter_cons_of_pos h]
  rfl
theorem flt_no {f : Nat → Bool} {k : Nat} (h : f k = false) : (List.range (k + 1)).filter f = (List.range k).filter f := by
  rw [List.range_succ, List.filter_append, List.filter_cons_of_neg (by rw [h]; exact Bool.false_ne_true)]
  exact List.append_nil _
section
variable {zs : List Int} {rs : List Ro} {t : Int} {i k : Nat} {y : Int}
theorem anJ_yes {b : Nat} (h : lft zs rs t i k = some b) : anJ zs rs t i k ++ [tagV (some b)] = anJ zs rs t i (k + 1) := by
  unfold anJ
  rw [flt_yes (by unfold anB; rw [h]; rfl), List.map_append]
  show _ = _ ++ [tagV (lft zs rs t i k)]
  rw [h]
theorem anJ_no (h : lft zs rs t i k = none) : anJ zs rs t i k = anJ zs rs t i (k + 1) := by
  unfold anJ
  rw [flt_no (by unfold anB; rw [h]; rfl)]
theorem anB_per (hv : Val zs rs) (t : Int) {i : Nat} (hi : i < rs.length + sumN zs) (k : Nat) : anB zs rs t i (per (wh rs.length zs rs t) i * lc rs + k) = anB zs rs t i k := by
  unfold anB
  rw [lft_per hv t hi (Nat.dvd_refl _)]
theorem lft_tm {W : Nat} (h : ∀ k, lft zs rs t i (W + k) = lft zs rs t i k) (d m : Nat) : lft zs rs t i (d * W + m) = lft zs rs t i m := by
  induction d with
  | zero => rw [Nat.zero_mul, Nat.zero_add]
  | succ d ih => rw [Nat.succ_mul, show d * W + W + m = W + (d * W + m) by omega, h, ih]
end
section
variable {P : Program} {w : World} {K : PySem.W.Frag} {mg : Str → Option Value} {base : Heap}
theorem scStampsJ : FnScope ["plan", "state", "start", "left"] ["plan", "state", "start"] (defScope sStampsJ) := ⟨rfl, rfl, rfl, by decide +kernel, rfl, by decide +kernel, by decide +kernel⟩
def spStampsJ (K : PySem.W.Frag) : Sp := fun vs H Q _ => ∃ (p s : Addr) (zs : List Int) (rs : List Ro) (t : Int) (L : Lay Int) (i : Nat), vs = [.ref p, .ref s, .int (i : Nat)] ∧ PlanAt K H p zs rs ∧ Val zs rs ∧ StateAt K H s t L ∧ i < rs.length + sumN zs ∧ NewLv H (anJ zs rs t i (per (wh rs.length zs rs t) i * lc rs)) Q
theorem ok_stampsJ (T : Bd P K mg) : FnOk P w K mg base CX0 5 T.aStampsJ T.dStampsJ ["plan", "state", "start"] (spStampsJ K) := by
  have GI : FnOk P w K mg base CX0 3 T.aLap T.dLap ["self", "plan", "time"] (spLapInit K T.CLap) := ok_lapInit T
  have GL : FnOk P w K mg base CX0 2 T.aLeftsJ T.dLeftsJ ["lap", "start"] (spLeftsJ K T.CLap) := ok_leftsJ T
  refine T.StampsJ.F.ok scStampsJ (fun vs H Q E h => ?_) (fun cdv A outer s H vs Q E hr h => ?_)
  · obtain ⟨p, s, zs, rs, t, L, i, rfl, _⟩ := h
    rfl
  · obtain ⟨p, s, zs, rs, t, L, i, rfl, hp, hv, hst, hi', q⟩ := h
    have hr1 : Room 4 _ := hr.mono (by decide)
    refine ⟨_, (pss_one (ps_ret (pe_lc (own := [("left", 3)]) (g := gName 3) rfl scStampsJ.nd (pi_list (pe_call (E := E0) GL (hr.mono (by decide)) (by rfl) T.LeftsJ.g T.LeftsJ.F.kp T.LeftsJ.b .nil pass0 (pa_cons (pe_make T.lap.m GI hr1 (by rfl) T.lap.g T.lap.b .nil pass0 (pa_cons (pv 0) (pa_cons (pe_ix ix_tup (pv 1) pe_int (fun _ _ => rfl)) pa_nil))) (pa_cons (pv 2) pa_nil)))) (blkOk_by (N := ["plan", "state", "start", "left"]) (sc := defScope sStampsJ) (by decide +kernel)) (fun _ _ _ _ _ => pg_name (i := 3) scStampsJ.nd rfl (Or.inl rfl)) (fun _ _ _ _ _ => pts_one (pt_cmpR op_notN (pv 3) pe_non (nomark _))) (fun _ _ _ _ _ => pv 3)))), ?_⟩
    have n120 := hv.num120
    obtain ⟨l1, l60⟩ := lc_le hv.r2
    have wl := wh_len rs.length zs rs t
    have we := wh_eff rs.length zs rs t
    have ple := (per_spec we (show i < (wh rs.length zs rs t).length by omega)).2.2.2
    have Wl : per (wh rs.length zs rs t) i * lc rs ≤ 120 * 60 := Nat.mul_le_mul (by omega) l60
    have sm1 := Same.refl H
    obtain ⟨ca, sh, hs1, hL⟩ := (hst.same sm1).ex
    refine ⟨.ref p, rfl, .ref s, rfl, s, _, 0, .int t, rfl, rfl, hs1, rfl, fun la dl n1 n2 ne => ⟨la, dl, p, t, zs, rs, rfl, upd_same, (hp.same sm1).same (same_of (same_upd n2) n1), hv, fun HL o lap => ⟨rfl, ?_⟩⟩⟩
    have smL := sm1.trans (same_make n1 n2 o)
    refine ⟨.int (i : Nat), rfl, la, zs, rs, t, i, rfl, hv, lap, hi', fun H3 m sm3 nm km => ?_⟩
    have smB := smL.trans sm3
    generalize per (wh rs.length zs rs t) i * lc rs = W at km Wl q
    have lenL : (leJ zs rs t i W).length = W := by unfold leJ; rw [List.length_map, List.length_range]
    refine ⟨m, rfl, ⟨_, .inl (.inl km)⟩, fun D hD => lc_list (xs := leJ zs rs t i W) (fun k H' => Same H3 H' ∧ H' D = some (.lst (anJ zs rs t i k))) ⟨same_upd hD, upd_same⟩ (fun k H' _ h => .inl (.inl (h.1 _ _ km))) (fun k v H' hx ⟨sm, kD⟩ => ?_) (fun H' ⟨sm, kD⟩ => ?_)⟩
    · have hk := (List.getElem?_eq_some_iff.mp hx).1
      rw [lenL] at hk
      unfold leJ at hx
      rw [List.getElem?_map, List.getElem?_range hk] at hx
      obtain rfl := Option.some.inj hx
      refine ⟨rfl, tagV (lft zs rs t i k), rfl, rfl, _, rfl, ?_⟩
      cases hl : lft zs rs t i k with
      | none => exact iteF ⟨sm, by rw [kD, anJ_no hl]⟩
      | some b =>
        have c1 : (!decide (tagV (some b) = V.non)) = true := by
          rw [decide_eq_false (show ¬ tagV (some b) = V.non from fun z => by cases z)]
          rfl
        rw [c1]
        refine iteT ⟨_, rfl, _, kD, ?_, same_of sm hD, ?_⟩
        · rw [anJ_len, sizeLine_eq]
          have := cntM_le (anB zs rs t i) k
          omega
        · dsimp only
          rw [upd_same, hl, anJ_yes hl]
    · rw [lenL] at kD
      exact q H' D (smB.trans sm) (Same.free smB hD) kD
def nSm : List Str := ["plan", "state", "parcel", "count", "start", "shelves", "index"]
theorem scStamps : FnScope ["plan", "state", "parcel", "count", "start", "shelves", "index"] ["plan", "state", "parcel", "count"] (defScope sStamps) := ⟨rfl, rfl, rfl, by decide +kernel, rfl, by decide +kernel, by decide +kernel⟩
def spStamps (K : PySem.W.Frag) (C CS CU CC : Addr) : Sp := fun vs H Q E => ∃ (p s : Addr) (zs : List Int) (rs : List Ro) (t x c : Int) (L : Lay Int), vs = [.ref p, .ref s, .int x, .int c] ∧ PlanAt K H p zs rs ∧ Small zs rs ∧ StateAt K H s t L ∧ PreE C CS CU zs rs t x L H E ∧
  (bad zs rs = none → StOk zs rs t L → x ∈ join L → ¬ (0 ≤ c ∧ c ≤ 200) → ∀ H', Same H H' → E (.ref CC) none H') ∧
  (bad zs rs = none → StOk zs rs t L → (0 ≤ c ∧ c ≤ 200) → ∀ i : Nat, (join L)[i]? = some x → ∀ H' f xs, Same H H' → H f = none → H' f = some (.lst xs) → StampsV (lft zs rs t i) c.toNat xs → Q (.ref f) H')
theorem ok_stamps (T : Bd P K mg) : FnOk P w K mg base (L2.CX P w) 6 T.aStamps T.dStamps ["plan", "state", "parcel", "count"] (spStamps K T.C T.CS T.CUr T.CC) := by
  have GI : FnOk P w K mg base CX0 3 T.aLap T.dLap ["self", "plan", "time"] (spLapInit K T.CLap) := ok_lapInit T
  have GT : FnOk P w K mg base (L2.CX P w) 5 T.aStartOf T.dStartOf ["plan", "state", "parcel"] (spStart K T.C T.CS T.CUr) := ok_startOf T
  have GB : FnOk P w K mg base (L2.CX P w) 2 T.aCheckBetween T.dCheckBetween ["number", "low", "high"] (spCheckBetween T.CC) := ok_checkBetween T
  have GS : FnOk P w K mg base CX0 5 T.aStampsJ T.dStampsJ ["plan", "state", "start"] (spStampsJ K) := ok_stampsJ T
  obtain ⟨tms, hmst⟩ := T.mst
  refine T.Stamps.F.okX scStamps (fun vs H Q E h => ?_) (fun cdv A outer s H vs Q E hr h => ?_)
  · obtain ⟨p, s, zs, rs, t, x, c, L, rfl, _⟩ := h
    rfl
  · obtain ⟨p, s, zs, rs, t, x, c, L, rfl, hp, hs, hst, ⟨q1, q2, q3⟩, q4, q5⟩ := h
    refine ⟨_, (pss_cons (ps_set (i := 4) scStamps.nd rfl (Or.inl rfl) (pe_call (E := E) GT (hr.mono (by decide)) (by rfl) T.StartOf.g T.StartOf.F.kp T.StartOf.b .nil (passes_call (takes_of rfl rfl rfl rfl) fun _ _ _ _ h => h) (pa_cons (pv 0) (pa_cons (pv 1) (pa_cons (pv 2) pa_nil)))))
      (pss_cons (ps_expr (pe_call (E := E) GB (hr.mono (by decide)) (by rfl) T.CheckBetween.g T.CheckBetween.F.kp T.CheckBetween.b .nil (passes_call (takes_of rfl rfl rfl rfl) fun _ _ _ _ h => h) (pa_cons (pv 3) (pa_cons pe_int (pa_cons (pe_glob (v := .int 200) (by rfl) hmst ⟨_, rfl⟩) pa_nil)))))
      (pss_cons (ps_set (i := 5) scStamps.nd rfl (Or.inr rfl) (pe_call (E := E0) GS (hr.mono (by decide)) (by rfl) T.StampsJ.g T.StampsJ.F.kp T.StampsJ.b .nil pass0 (pa_cons (pv 0) (pa_cons (pv 1) (pa_cons (pv 4) pa_nil)))))
      (pss_cons (ps_if (pt_not (pt_truth (pv 5) (fun _ => rfl))) (pss_one (ps_ret (pe_lst pa_nil))) pss_nil)
      (pss_one (ps_ret (pe_lc (own := [("index", 6)]) (g := gName 6) (tt := tYes) (te := tOp (rIxL K) (tVar 5) (tOp rFmod (tInt (tVar 6)) (tLenS K (tVar 5)))) rfl scStamps.nd (pi_range1 (by rfl) T.bt.range (pa_cons (pv 3) pa_nil)) (blkOk_by (N := nSm) (sc := defScope sStamps) (by decide +kernel)) (fun _ _ _ _ _ => pg_name (i := 6) scStamps.nd rfl (Or.inl rfl)) (fun _ _ _ _ _ => pts_nil) (fun _ _ _ _ _ => pe_ix ix_list (pv 5) (pe_op op_modN (pe_callTy call_int1 (by rfl) T.bt.int b_int (pa_cons (pv 6) pa_nil)) (pe_callB call_len_seq (by rfl) T.bt.len b_len (pa_cons (pv 5) pa_nil))) (fun _ _ => rfl))))))))), ?_⟩
    refine ⟨.ref p, rfl, .ref s, rfl, .int x, rfl, p, s, zs, rs, t, x, L, rfl, hp, hs, hst, q1, q2, fun e1 hok i hi H1 sm1 => ?_, q3⟩
    have hv := val_of e1
    have n120 := hv.num120
    have hxm := List.mem_of_getElem? hi
    have jl := join_len hok.f
    have il := (List.getElem?_eq_some_iff.mp hi).1
    have hi' : i < rs.length + sumN zs := by omega
    obtain ⟨l1, l60⟩ := lc_le hv.r2
    have wl := wh_len rs.length zs rs t
    have we := wh_eff rs.length zs rs t
    have pp := per_pos we (show i < (wh rs.length zs rs t).length by omega)
    have ple := (per_spec we (show i < (wh rs.length zs rs t).length by omega)).2.2.2
    have Wp : 0 < per (wh rs.length zs rs t) i * lc rs := Nat.mul_pos (by omega) (by omega)
    have Wl : per (wh rs.length zs rs t) i * lc rs ≤ 120 * 60 := Nat.mul_le_mul (by omega) l60
    refine ⟨.int c, rfl, c, 0, 200, rfl, fun hc => ?_, fun hc => q4 e1 hok hxm hc H1 sm1⟩
    obtain ⟨cn, rfl⟩ : ∃ cn : Nat, c = (cn : Int) := ⟨c.toNat, (Int.toNat_of_nonneg hc.1).symm⟩
    have q := q5 e1 hok hc i hi
    rw [Int.toNat_natCast] at q
    have hc2 := hc.2
    refine ⟨.ref p, rfl, .ref s, rfl, .int (i : Nat), rfl, p, s, zs, rs, t, L, i, rfl, hp.same sm1, hv, hst.same sm1, hi', fun H2 f sm2 nf kf => ?_⟩
    have smA := sm1.trans sm2
    have pern := anB_per hv t hi'
    have lper := lft_per hv t hi' (Nat.dvd_refl _)
    generalize per (wh rs.length zs rs t) i * lc rs = W at kf Wp Wl pern lper
    have lenT := anJ_len zs rs t i W
    refine ⟨.ref f, rfl, _, .inl ⟨_, .inl (.inl kf), rfl⟩, ?_⟩
    by_cases h0 : cntM (anB zs rs t i) W = 0
    · have en : anJ zs rs t i W = [] := List.eq_nil_of_length_eq_zero (lenT.trans h0)
      rw [en]
      exact iteT ⟨Nat.zero_le _, fun m hm => q _ m [] (smA.trans (same_upd hm)) (Same.free smA hm) upd_same (.inl ⟨rfl, cnt_none Wp pern h0⟩)⟩
    · have en : (anJ zs rs t i W).isEmpty = false := by
        cases hT : anJ zs rs t i W with
        | nil => rw [hT] at lenT; exact absurd lenT.symm h0
        | cons a b => rfl
      rw [en]
      have cle := cntM_le (anB zs rs t i) W
      have zlen : ((anJ zs rs t i W).length : Int) ≠ 0 := by rw [lenT]; omega
      have at1 : ∀ nn : Nat, ∃ z, (anJ zs rs t i W)[nn % cntM (anB zs rs t i) W]? = some z ∧ StV (lft zs rs t i) nn z := fun nn => by
        have hlt : nn % cntM (anB zs rs t i) W < ((List.range W).filter (anB zs rs t i)).length := Nat.mod_lt _ (by omega)
        obtain ⟨m0, hm0⟩ : ∃ m0, ((List.range W).filter (anB zs rs t i))[nn % cntM (anB zs rs t i) W]? = some m0 := ⟨_, List.getElem?_eq_getElem hlt⟩
        obtain ⟨r1, r2⟩ := nth_round pern nn hm0
        refine ⟨tagV (lft zs rs t i m0), ?_, nn / cntM (anB zs rs t i) W * W + m0, r1, r2, ?_⟩
        · unfold anJ
          rw [List.getElem?_map, hm0]
          rfl
        · rw [lft_tm lper (nn / cntM (anB zs rs t i) W) m0]
      have ef : ∀ nn : Nat, Int.fmod (nn : Nat) ((anJ zs rs t i W).length : Nat) = ((nn % cntM (anB zs rs t i) W : Nat) : Int) := fun nn => by
        rw [lenT, Int.fmod_eq_emod_of_nonneg _ (by omega)]
        rfl
      have b62 : (200 : Int) < 2 ^ 62 := by decide
      refine iteF ⟨.int (cn : Nat), rfl, (cn : Nat), rfl, by omega, by omega, fun D hD => ?_⟩
      rw [Int.toNat_natCast]
      refine lc_range (lo := 0) (n := cn) (fun k H' => Same H2 H' ∧ ∃ xs, H' D = some (.lst xs) ∧ xs.length = k ∧ ∀ j z, xs[j]? = some z → StV (lft zs rs t i) j z) ⟨same_upd hD, [], upd_same, rfl, fun j z hz => by cases hz⟩ (fun k H' hk ⟨sm, xs, kD, xl, xz⟩ => ?_) (fun H' ⟨sm, xs, kD, xl, xz⟩ => ?_)
      · have ei : (0 : Int) + (k : Nat) = (k : Nat) := by omega
        rw [ei]
        obtain ⟨z, hz1, hz2⟩ := at1 k
        refine ⟨rfl, yes_go ⟨.ref f, rfl, .int (k : Nat), rfl, .inl ⟨_, rfl, .ref f, rfl, f, _, rfl, .inl (.inl (.inl (sm _ _ kf))), _, _, rfl, rfl, zlen, f, _, _, z, rfl, rfl, .inl (.inl (sm _ _ kf)), by rw [ef]; exact atI_nat hz1, xs, kD, ?_, same_of sm hD, xs ++ [z], upd_same, by rw [List.length_append, xl]; rfl, fun j y hj => ?_⟩⟩⟩
        · rw [xl]
          exact small1000 (by omega)
        · by_cases hjk : j < k
          · rw [List.getElem?_append_left (by omega)] at hj
            exact xz j y hj
          · rw [List.getElem?_append_right (by omega)] at hj
            have hl := (List.getElem?_eq_some_iff.mp hj).1
            rw [List.length_cons, List.length_nil] at hl
            have ejk : j = k := by omega
            subst ejk
            rw [xl, Nat.sub_self] at hj
            rw [← Option.some.inj hj]
            exact hz2
      · exact q H' D xs (smA.trans sm) (Same.free smA hD) kD (.inr ⟨xl, xz⟩)
end
end Sv
set_option maxHeartbeats 4000000
namespace Sv
/-- where the shelf q stands when the first k are put behind the others -/
def rix (n k q : Nat) : Nat := if k ≤ q then q - k else q + n - k
theorem rix_mod {n k q : Nat} (hk : k < n) (hq : q < n) : ((q : Int) - (k : Int)) % (n : Int) = ((rix n k q : Nat) : Int) := by
  unfold rix
  by_cases h : k ≤ q
  · rw [if_pos h, Int.emod_eq_of_lt (by omega) (by omega)]
    omega
  · rw [if_neg h]
    have : (q : Int) - (k : Int) = ((q + n - k : Nat) : Int) + (n : Int) * (-1) := by omega
    rw [this, Int.add_mul_emod_self_left, Int.emod_eq_of_lt (by omega) (by omega)]
theorem rix_lt {n k q : Nat} (hk : k < n) (hq : q < n) : rix n k q < n := by
  unfold rix
  split <;> omega
theorem rix_inj {n k p q : Nat} (hk : k < n) (hp : p < n) (hq : q < n) (h : rix n k p = rix n k q) : p = q := by
  unfold rix at h
  split at h <;> split at h <;> omega
def rotl {α : Type} (k : Nat) (l : List α) : List α := l.drop k ++ l.take k
theorem rotl_len {α : Type} (k : Nat) (l : List α) : (rotl k l).length = l.length := by
  unfold rotl
  rw [List.length_append, List.length_drop, List.length_take]
  omega
theorem rotl_at {α : Type} {k q : Nat} {l : List α} (hk : k < l.length) (hq : q < l.length) : (rotl k l)[rix l.length k q]? = l[q]? := by
  unfold rotl rix
  by_cases h : k ≤ q
  · rw [if_pos h, List.getElem?_append_left (by rw [List.length_drop]; omega), List.getElem?_drop]
    congr 1
    omega
  · rw [if_neg h, List.getElem?_append_right (by rw [List.length_drop]; omega), List.length_drop, List.getElem?_take_of_lt (by omega)]
    congr 1
    omega
theorem rix_sur {n k p : Nat} (hk : k < n) (hp : p < n) : ∃ q, q < n ∧ rix n k q = p := by
  by_cases h : p + k < n
  · refine ⟨p + k, h, ?_⟩
    unfold rix
    rw [if_pos (by omega)]
    omega
  · refine ⟨p + k - n, by omega, ?_⟩
    unfold rix
    rw [if_neg (by omega)]
    omega
theorem rotl_set {α : Type} {k q : Nat} {l : List α} (x : α) (hk : k < l.length) (hq : q < l.length) : (rotl k l).set (rix l.length k q) x = rotl k (l.set q x) := by
  refine List.ext_getElem? fun p => ?_
  by_cases hp : p < l.length
  · obtain ⟨m, hm, rfl⟩ := rix_sur hk hp
    have e2 := rotl_at (l := l.set q x) (k := k) (q := m) (by rw [List.length_set]; exact hk) (by rw [List.length_set]; exact hm)
    rw [List.length_set] at e2
    rw [e2]
    by_cases e : m = q
    · rw [e, List.getElem?_set_self (by rw [rotl_len]; exact rix_lt hk hq), List.getElem?_set_self hq]
    · rw [List.getElem?_set_ne (fun z => e (rix_inj hk hm hq z.symm)), List.getElem?_set_ne (Ne.symm e), rotl_at hk hm]
  · rw [List.getElem?_eq_none (by rw [List.length_set, rotl_len]; omega), List.getElem?_eq_none (by rw [rotl_len, List.length_set]; omega)]
def rotL {α : Type} (k : Nat) (L : Lay α) : Lay α := (L.1, rotl k L.2)
theorem step1_rot {α : Type} {L : Lay α} {k : Nat} (hk : k < L.2.length) (p : Nat × Nat) (hp : p.2 < L.2.length) : step1 (rotL k L) (p.1, rix L.2.length k p.2) = rotL k (step1 L p) := by
  unfold step1 rotL
  show (match L.1[p.1]?, (rotl k L.2)[rix L.2.length k p.2]? with
    | some x, some row => (L.1.set p.1 (row.headD x), (rotl k L.2).set (rix L.2.length k p.2) (row ++ [x]).tail)
    | _, _ => (L.1, rotl k L.2)) = _
  rw [rotl_at hk hp]
  cases L.1[p.1]? with
  | none => rfl
  | some x =>
    cases L.2[p.2]? with
    | none => rfl
    | some row =>
      show (_, _) = (_, rotl k (L.2.set p.2 (row ++ [x]).tail))
      rw [rotl_set _ hk hp]
theorem step1_many {α : Type} (L : Lay α) (p : Nat × Nat) : (step1 L p).2.length = L.2.length := by
  unfold step1
  cases L.1[p.1]? with
  | none => rfl
  | some x =>
    cases L.2[p.2]? with
    | none => rfl
    | some row => exact List.length_set
theorem steps_rot {α : Type} {k n : Nat} (hk : k < n) : ∀ (ps : List (Nat × Nat)) (L : Lay α), L.2.length = n → (∀ p ∈ ps, p.2 < n) → steps (ps.map fun p => (p.1, rix n k p.2)) (rotL k L) = rotL k (steps ps L)
  | [], _, _, _ => rfl
  | p :: ps, L, hl, h => by
    show steps (ps.map fun p => (p.1, rix n k p.2)) (step1 (rotL k L) (p.1, rix n k p.2)) = rotL k (steps ps (step1 L p))
    subst hl
    rw [step1_rot hk p (h p (List.mem_cons_self ..))]
    have e := step1_many L p
    have := steps_rot (k := k) (n := L.2.length) hk ps (step1 L p) e fun q hq => h q (List.mem_cons_of_mem _ hq)
    exact this
/-- the plan's routes for the shelves in that order -/
def rotR (n k : Nat) (rs : List Ro) : List Ro := rs.map fun r => r.map (Option.map fun z => (z - (k : Int)) % (n : Int))
theorem ent_rot {n k : Nat} (r : Ro) (m : Int) : ent (r.map (Option.map fun z => (z - (k : Int)) % (n : Int))) m = (ent r m).map fun z => (z - (k : Int)) % (n : Int) := by
  unfold ent
  rw [List.length_map, List.getD_eq_getElem?_getD, List.getD_eq_getElem?_getD, List.getElem?_map]
  cases r[(m % (r.length : Int)).toNat]? with
  | none => rfl
  | some e => rfl
theorem prs_rot {n k : Nat} (rs : List Ro) (m : Int) : ∀ K, prs (rotR n k rs) m K = (prs rs m K).map fun p => (p.1, (p.2 - (k : Int)) % (n : Int))
  | 0 => rfl
  | K + 1 => by
    unfold prs
    rw [prs_rot rs m K, List.map_append]
    congr 1
    unfold rotR
    rw [List.getElem?_map]
    cases rs[K]? with
    | none => rfl
    | some r =>
      show (match ent (r.map (Option.map fun z => (z - (k : Int)) % (n : Int))) m with | some z => [(K, z)] | none => []) = List.map (fun p : Nat × Int => (p.1, (p.2 - (k : Int)) % (n : Int))) (match ent r m with | some z => [(K, z)] | none => [])
      rw [ent_rot]
      cases ent r m with
      | none => rfl
      | some z => rfl
theorem prs_okT {n : Nat} {rs : List Ro} (h : ∀ r ∈ rs, ∀ e ∈ r, okE n e = true) (m : Int) : ∀ K, ∀ p ∈ prs rs m K, 0 ≤ p.2 ∧ p.2 < (n : Int)
  | 0, p, hp => by cases hp
  | K + 1, p, hp => by
    unfold prs at hp
    rcases List.mem_append.mp hp with hp | hp
    · exact prs_okT h m K p hp
    · cases hr : rs[K]? with
      | none => rw [hr] at hp; cases hp
      | some r =>
        rw [hr] at hp
        cases he : ent r m with
        | none => simp only [he] at hp; cases hp
        | some z =>
          simp only [he] at hp
          rw [List.mem_singleton.mp hp]
          have hm : some z ∈ r := by
            unfold ent at he
            rw [List.getD_eq_getElem?_getD] at he
            cases hq : r[(m % (r.length : Int)).toNat]? with
            | none => rw [hq] at he; cases he
            | some e =>
              rw [hq] at he
              have he : e = some z := he
              rw [← he]
              exact List.mem_of_getElem? hq
          have := of_decide_eq_true (h r (List.mem_of_getElem? hr) _ hm)
          exact ⟨this.1, by have := this.2; omega⟩
theorem vis_rot {n k : Nat} (hk : k < n) {rs : List Ro} (h : ∀ r ∈ rs, ∀ e ∈ r, okE n e = true) (t : Int) : vis (rotR n k rs) t = (vis rs t).map fun p => (p.1, rix n k p.2) := by
  unfold vis
  have hl : (rotR n k rs).length = rs.length := by unfold rotR; rw [List.length_map]
  rw [hl, prs_rot, List.map_map, List.map_map]
  refine List.map_congr_left fun p hp => ?_
  obtain ⟨h1, h2⟩ := prs_okT h t rs.length p hp
  obtain ⟨q, hq⟩ := Int.eq_ofNat_of_zero_le h1
  show (p.1, ((p.2 - (k : Int)) % (n : Int)).toNat) = (p.1, rix n k p.2.toNat)
  rw [hq, rix_mod hk (by omega)]
  rfl
theorem vis_lt {n : Nat} {rs : List Ro} (h : ∀ r ∈ rs, ∀ e ∈ r, okE n e = true) (t : Int) : ∀ p ∈ vis rs t, p.2 < n := fun p hp => by
  unfold vis at hp
  obtain ⟨q, hq, rfl⟩ := List.mem_map.mp hp
  have := prs_okT h t rs.length q hq
  show q.2.toNat < n
  omega
theorem steps_many {α : Type} : ∀ (ps : List (Nat × Nat)) (L : Lay α), (steps ps L).2.length = L.2.length
  | [], _ => rfl
  | p :: ps, L => by
    show (steps ps (step1 L p)).2.length = _
    rw [steps_many ps, step1_many]
theorem tick_rot {α : Type} {n k : Nat} (hk : k < n) {rs : List Ro} (h : ∀ r ∈ rs, ∀ e ∈ r, okE n e = true) (t : Int) {L : Lay α} (hl : L.2.length = n) : tickL (rotR n k rs) t (rotL k L) = rotL k (tickL rs t L) := by
  unfold tickL
  rw [vis_rot hk h]
  exact steps_rot hk _ L hl (vis_lt h t)
theorem run_many {α : Type} (rs : List Ro) (t : Int) : ∀ (c : Nat) (L : Lay α), (run rs t c L).2.length = L.2.length
  | 0, _ => rfl
  | c + 1, L => by
    show (steps _ (run rs t c L)).2.length = _
    rw [steps_many, run_many rs t c]
/-- the ticks, with the shelves in another order -/
theorem run_rot {α : Type} {n k : Nat} (hk : k < n) {rs : List Ro} (h : ∀ r ∈ rs, ∀ e ∈ r, okE n e = true) (t : Int) : ∀ (c : Nat) {L : Lay α}, L.2.length = n → run (rotR n k rs) t c (rotL k L) = rotL k (run rs t c L)
  | 0, _, _ => rfl
  | c + 1, L, hl => by
    show tickL (rotR n k rs) (t + (c : Nat)) (run (rotR n k rs) t c (rotL k L)) = rotL k (tickL rs (t + (c : Nat)) (run rs t c L))
    rw [run_rot hk h t c hl]
    exact tick_rot hk h _ (by rw [run_many]; exact hl)
end Sv
set_option maxHeartbeats 1000000
namespace Sv
theorem rotl_map {α β : Type} (f : α → β) (k : Nat) (l : List α) : rotl k (l.map f) = (rotl k l).map f := by
  unfold rotl
  rw [List.map_append, List.map_drop, List.map_take]
theorem fits_rot {α : Type} {n k : Nat} {zs : List Int} {L : Lay α} (h : Fits n zs L) : Fits n (rotl k zs) (rotL k L) := by
  refine ⟨h.1, ?_⟩
  show (rotl k L.2).map List.length = (rotl k zs).map Int.toNat
  rw [← rotl_map, ← rotl_map, h.2]
theorem rotl_inj {α : Type} {k : Nat} {l m : List α} (hl : l.length = m.length) (e : rotl k l = rotl k m) : l = m := by
  unfold rotl at e
  have h := List.append_inj e (by rw [List.length_drop, List.length_drop, hl])
  rw [← List.take_append_drop k l, ← List.take_append_drop k m, h.1, h.2]
theorem rotR_len (n k : Nat) (rs : List Ro) : (rotR n k rs).length = rs.length := by unfold rotR; rw [List.length_map]
theorem rot_map {α β : Type} (f : α → β) (r : List α) (k : Nat) : rot (r.map f) k = (rot r k).map f := by
  unfold rot
  simp [List.map_drop, List.map_take]
theorem map_inj_on {α β : Type} {f : α → β} : ∀ {a b : List α}, (∀ x ∈ a, ∀ y ∈ b, f x = f y → x = y) → a.map f = b.map f → a = b
  | [], [], _, _ => rfl
  | [], _ :: _, _, h => by cases h
  | _ :: _, [], _, h => by cases h
  | x :: a, y :: b, i, h => by
    rw [List.map_cons, List.map_cons] at h
    injection h with h1 h2
    rw [i x (List.mem_cons_self ..) y (List.mem_cons_self ..) h1, map_inj_on (fun x hx y hy => i x (List.mem_cons_of_mem _ hx) y (List.mem_cons_of_mem _ hy)) h2]
theorem rot_mem {α : Type} {r : List α} {k : Nat} : ∀ x ∈ rot r k, x ∈ r := fun x hx => by
  unfold rot at hx
  rcases List.mem_append.mp hx with h | h
  · exact List.mem_of_mem_drop h
  · exact List.mem_of_mem_take h
theorem rtp_map {α β : Type} {f : α → β} {r : List α} (hr : r ≠ []) (inj : ∀ a ∈ r, ∀ b ∈ r, f a = f b → a = b) : rtp (r.map f) = rtp r := by
  obtain ⟨a1, a2, a3, _⟩ := rtp_spec (r := r) hr
  obtain ⟨b1, b2, b3, _⟩ := rtp_spec (r := r.map f) (fun z => hr (List.map_eq_nil_iff.mp z))
  have h1 : ¬ rtp r < rtp (r.map f) := fun h => b3 _ a1 h (by rw [rot_map, a2])
  have h2 : ¬ rtp (r.map f) < rtp r := fun h => a3 _ b1 h (by
    rw [rot_map] at b2
    exact map_inj_on (fun x hx y hy => inj x (rot_mem x hx) y hy) b2)
  omega
def shE (n k : Nat) : Option Int → Option Int := Option.map fun z => (z - (k : Int)) % (n : Int)
theorem shE_inj {n k : Nat} (hk : k < n) {a b : Option Int} (ha : okE n a = true) (hb : okE n b = true) (h : shE n k a = shE n k b) : a = b := by
  cases a with
  | none => cases b with
    | none => rfl
    | some y => cases h
  | some x => cases b with
    | none => cases h
    | some y =>
      have h1 := of_decide_eq_true ha
      have h2 := of_decide_eq_true hb
      obtain ⟨p, rfl⟩ := Int.eq_ofNat_of_zero_le h1.1
      obtain ⟨q, rfl⟩ := Int.eq_ofNat_of_zero_le h2.1
      have h := Option.some.inj h
      have h : ((p : Int) - (k : Int)) % (n : Int) = ((q : Int) - (k : Int)) % (n : Int) := h
      rw [rix_mod hk (by omega), rix_mod hk (by omega)] at h
      have := rix_inj hk (p := p) (q := q) (by omega) (by omega) (by omega)
      rw [this]
theorem rtp_shE {n k : Nat} (hk : k < n) {r : Ro} (hr : r ≠ []) (h : ∀ e ∈ r, okE n e = true) : rtp (r.map (shE n k)) = rtp r := rtp_map hr fun a ha b hb => shE_inj hk (h a ha) (h b hb)
theorem lc_rot {n k : Nat} (hk : k < n) {rs : List Ro} (hr : ∀ r ∈ rs, r ≠ [] ∧ ∀ e ∈ r, okE n e = true) : lc (rotR n k rs) = lc rs := by
  refine Nat.dvd_antisymm (lc_dvd.mpr fun r hm => ?_) (lc_dvd.mpr fun r hm => ?_)
  · unfold rotR at hm
    obtain ⟨q, hq, rfl⟩ := List.mem_map.mp hm
    have := rtp_shE hk (hr q hq).1 (hr q hq).2
    show rtp (q.map (shE n k)) ∣ _
    rw [this]
    exact lc_dvd.mp (Nat.dvd_refl _) q hq
  · have h1 := lc_dvd.mp (Nat.dvd_refl (lc (rotR n k rs))) (r.map (shE n k)) (by
      unfold rotR
      exact List.mem_map_of_mem (f := fun r : Ro => r.map (Option.map fun z => (z - (k : Int)) % (n : Int))) hm)
    rwa [rtp_shE hk (hr r hm).1 (hr r hm).2] at h1
section
variable {n k : Nat} {zs : List Int} {rs : List Ro}
/-- many ticks, with the shelves in another order -/
theorem adv_rot {α : Type} (d : α) (hz : zs.length = n) (hk : k < n) (hr : ∀ r ∈ rs, r ≠ [] ∧ ∀ e ∈ r, okE n e = true) (hp : 1 ≤ lc rs) (t : Int) (c : Nat) {L : Lay α} (hf : Fits rs.length zs L) : advA d (rotl k zs) (rotR n k rs) t (c : Nat) (rotL k L) = rotL k (advA d zs rs t (c : Nat) L) := by
  have ne2 : ∀ r ∈ rotR n k rs, r ≠ [] := fun r hm => by
    unfold rotR at hm
    obtain ⟨q, hq, rfl⟩ := List.mem_map.mp hm
    exact fun z => (hr q hq).1 (List.map_eq_nil_iff.mp z)
  have f2 : Fits (rotR n k rs).length (rotl k zs) (rotL k L) := by rw [rotR_len]; exact fits_rot hf
  have l2 : L.2.length = n := by
    have := congrArg List.length hf.2
    rw [List.length_map, List.length_map] at this
    omega
  rw [advA_nat d (rotl k zs) ne2 (by rw [lc_rot hk hr]; exact hp) t c f2, advA_nat d zs (fun r hm => (hr r hm).1) hp t c hf]
  exact run_rot hk (fun r hm => (hr r hm).2) t c l2
theorem join_rot {α : Type} (k : Nat) (L : Lay α) : (join (rotL k L)).Perm (join L) := by
  unfold join rotL rotl
  show (L.1 ++ (L.2.drop k ++ L.2.take k).flatten).Perm (L.1 ++ L.2.flatten)
  refine List.Perm.append_left _ ?_
  have e : L.2.flatten = (L.2.take k).flatten ++ (L.2.drop k).flatten := by rw [← List.flatten_append, List.take_append_drop]
  rw [e, List.flatten_append]
  exact List.perm_append_comm
theorem ord_iff (h : ∀ r ∈ rs, r ≠ []) (hp : 1 ≤ lc rs) (t : Int) (m : Nat) {L : Lay Nat} (hf : Fits rs.length zs L) (nd : (join L).Nodup) : ord (wh rs.length zs rs t) ∣ m ↔ advA 0 zs rs t ((m : Int) * (lc rs : Int)) L = L := by
  constructor
  · rintro ⟨q, rfl⟩
    have e := adv_period 0 zs h hp t (q : Int) hf
    unfold perT at e
    rw [← e]
    rw [e]
    have : ((ord (wh rs.length zs rs t) * q : Nat) : Int) * (lc rs : Int) = (q : Int) * ((lc rs * ord (wh rs.length zs rs t) : Nat) : Int) := by
      rw [Int.natCast_mul, Int.natCast_mul, Int.mul_comm (ord (wh rs.length zs rs t) : Int) (q : Int), Int.mul_assoc, Int.mul_comm (ord (wh rs.length zs rs t) : Int) (lc rs : Int)]
    rw [this]
    exact e
  · intro z
    have hl : (wh rs.length zs rs t).length = rs.length + sumN zs := wh_len ..
    refine rep_id_dvd (wh_eff rs.length zs rs t) ?_
    refine ext_ap (by rw [rep_len, List.length_range]) fun p hp2 => ?_
    rw [rep_len] at hp2
    have hi : p < rs.length + sumN zs := by omega
    have e := loc_mul 0 zs h hp t (m : Int) hf hi
    rw [z] at e
    rw [rep_ap hp2, range_ap hp2]
    have jl := join_len hf
    have r1 : rp (wh rs.length zs rs t) (m : Int) p < (join L).length := by
      have := rp_lt (wh_eff rs.length zs rs t) (c := (m : Int)) hp2
      omega
    rw [List.getElem?_eq_getElem r1, List.getElem?_eq_getElem (by omega)] at e
    exact (List.getElem_inj nd).mp (Option.some.inj e)
/-- the period does not see the order of the shelves -/
theorem perT_rot (hz : zs.length = n) (hk : k < n) (hr : ∀ r ∈ rs, r ≠ [] ∧ ∀ e ∈ r, okE n e = true) (hp : 1 ≤ lc rs) (t : Int) : perT (rotl k zs) (rotR n k rs) t = perT zs rs t := by
  have ne2 : ∀ r ∈ rotR n k rs, r ≠ [] := fun r hm => by
    unfold rotR at hm
    obtain ⟨q, hq, rfl⟩ := List.mem_map.mp hm
    exact fun z => (hr q hq).1 (List.map_eq_nil_iff.mp z)
  have hf := idx_fits rs.length zs
  have nd : (join (idx rs.length zs)).Nodup := by rw [join_idx]; exact List.nodup_range
  have f2 : Fits (rotR n k rs).length (rotl k zs) (rotL k (idx rs.length zs)) := by rw [rotR_len]; exact fits_rot hf
  have nd2 : (join (rotL k (idx rs.length zs))).Nodup := (join_rot k _).nodup_iff.mpr nd
  have hl := lc_rot hk hr
  have key : ∀ m : Nat, ord (wh (rotR n k rs).length (rotl k zs) (rotR n k rs) t) ∣ m ↔ ord (wh rs.length zs rs t) ∣ m := fun m => by
    rw [ord_iff ne2 (by rw [hl]; exact hp) t m f2 nd2, ord_iff (fun r hm => (hr r hm).1) hp t m hf nd, hl]
    have e : (m : Int) * (lc rs : Int) = ((m * lc rs : Nat) : Int) := (Int.natCast_mul ..).symm
    rw [e, adv_rot 0 hz hk hr hp t (m * lc rs) hf]
    constructor
    · intro z
      have h1 := congrArg Prod.fst z
      have h2 := congrArg Prod.snd z
      have l1 := (advA_fits 0 zs (rs := rs) t ((m * lc rs : Nat) : Int) (idx rs.length zs)).2
      have l2 := hf.2
      have ll : (advA 0 zs rs t ((m * lc rs : Nat) : Int) (idx rs.length zs)).2.length = (idx rs.length zs).2.length := by
        have := congrArg List.length (l1.trans l2.symm)
        rwa [List.length_map, List.length_map] at this
      exact Prod.ext h1 (rotl_inj ll h2)
    · intro z
      rw [z]
  unfold perT
  rw [hl]
  congr 1
  exact Nat.dvd_antisymm ((key _).mpr (Nat.dvd_refl _)) ((key _).mp (Nat.dvd_refl _))
end
end Sv
set_option maxHeartbeats 4000000
namespace Sv
open PySem PySem.Spec PyProof.Rows L2
theorem vsh_rot {N n k : Nat} (hk : k < n) {rs : List Ro} (h : ∀ r ∈ rs, ∀ e ∈ r, okE n e = true) (m : Int) (q : Nat) : vsh N (rotR n k rs) m q = (vsh N rs m q).map (rix n k) := by
  unfold vsh
  by_cases hq : q < N
  · rw [if_pos hq, if_pos hq, vis_rot hk h, List.find?_map]
    show Option.map _ (Option.map _ (List.find? (fun p : Nat × Nat => decide (p.1 = q)) (vis rs m))) = _
    cases List.find? (fun p : Nat × Nat => decide (p.1 = q)) (vis rs m) with
    | none => rfl
    | some p => rfl
  · rw [if_neg hq, if_neg hq]
    rfl
theorem vsh_no {N : Nat} (rs : List Ro) (m : Int) {q : Nat} (h : N ≤ q) : vsh N rs m q = none := by
  unfold vsh
  rw [if_neg (by omega)]
section
variable {n k : Nat} {zs : List Int} {rs : List Ro}
theorem pos_rot (hz : zs.length = n) (hk : k < n) (hr : ∀ r ∈ rs, r ≠ [] ∧ ∀ e ∈ r, okE n e = true) (hp : 1 ≤ lc rs) (t : Int) (c : Nat) {L : Lay Int} (hf : Fits rs.length zs L) (nd : (join L).Nodup) {i : Nat} (hi : i < rs.length) :
    pos (rotl k zs) (rotR n k rs) t c i = pos zs rs t c i ∨ (rs.length ≤ pos zs rs t c i ∧ rs.length ≤ pos (rotl k zs) (rotR n k rs) t c i) := by
  have f2 : Fits (rotR n k rs).length (rotl k zs) (rotL k L) := by rw [rotR_len]; exact fits_rot hf
  have e := adv_rot (0 : Int) hz hk hr hp t c hf
  have hx : ∃ x, L.1[i]? = some x := ⟨_, List.getElem?_eq_getElem (by rw [hf.1]; exact hi)⟩
  obtain ⟨x, hx⟩ := hx
  have j1 : (join L)[i]? = some x := by
    unfold join
    rw [List.getElem?_append_left (by rw [hf.1]; exact hi)]
    exact hx
  have j2 : (join (rotL k L))[i]? = some x := by
    unfold join rotL
    show (L.1 ++ (rotl k L.2).flatten)[i]? = some x
    rw [List.getElem?_append_left (by rw [hf.1]; exact hi)]
    exact hx
  have a1 := loc_at (t := t) (c := (c : Nat)) hf j1
  have a2 := loc_at (t := t) (c := (c : Nat)) f2 j2
  rw [e] at a2
  have n1 : (join (advA 0 zs rs t (c : Nat) L)).Nodup := (advA_perm t (c : Nat) hf).nodup_iff.mpr nd
  have n2 : (join (rotL k (advA 0 zs rs t (c : Nat) L))).Nodup := (join_rot k _).nodup_iff.mpr n1
  have l1 : (advA 0 zs rs t (c : Nat) L).1.length = rs.length := (advA_fits 0 zs (rs := rs) t (c : Nat) L).1
  have one : ∀ (l : List Int) (a b : Nat), l.Nodup → l[a]? = some x → l[b]? = some x → a = b := fun l a b nd ha hb => by
    obtain ⟨q1, q2⟩ := List.getElem?_eq_some_iff.mp ha
    obtain ⟨q3, q4⟩ := List.getElem?_eq_some_iff.mp hb
    exact (List.getElem_inj nd).mp (q2.trans q4.symm)
  have first : ∀ {q : Nat}, q < rs.length → (join (rotL k (advA 0 zs rs t (c : Nat) L)))[q]? = (join (advA 0 zs rs t (c : Nat) L))[q]? := fun {q} hq => by
    unfold join rotL
    show ((advA 0 zs rs t (c : Nat) L).1 ++ _)[q]? = _
    rw [List.getElem?_append_left (by rw [l1]; exact hq), List.getElem?_append_left (by rw [l1]; exact hq)]
  have p1 : (join (advA 0 zs rs t (c : Nat) L))[pos zs rs t c i]? = some x := a1
  have p2 : (join (rotL k (advA 0 zs rs t (c : Nat) L)))[pos (rotl k zs) (rotR n k rs) t c i]? = some x := a2
  by_cases h1 : pos zs rs t c i < rs.length
  · exact .inl (one _ _ _ n2 p2 (by rw [first h1]; exact p1))
  · by_cases h2 : pos (rotl k zs) (rotR n k rs) t c i < rs.length
    · rw [first h2] at p2
      exact .inl (one _ _ _ n1 p2 p1)
    · exact .inr ⟨by omega, by omega⟩
/-- the shelf that it is left on, in the other order -/
theorem lft_rot (hz : zs.length = n) (hk : k < n) (hr : ∀ r ∈ rs, r ≠ [] ∧ ∀ e ∈ r, okE n e = true) (hp : 1 ≤ lc rs) (t : Int) (c : Nat) {L : Lay Int} (hf : Fits rs.length zs L) (nd : (join L).Nodup) {i : Nat} (hi : i < rs.length) :
    lft (rotl k zs) (rotR n k rs) t i c = (lft zs rs t i c).map (rix n k) := by
  unfold lft
  rw [rotR_len, vsh_rot hk (fun r hm => (hr r hm).2)]
  rcases pos_rot hz hk hr hp t c hf nd hi with h | ⟨h1, h2⟩
  · rw [h]
  · rw [vsh_no rs _ h1, vsh_no rs _ h2]
end
end Sv
set_option maxHeartbeats 4000000
namespace Sv
open PySem PySem.Spec PyProof.Rows L2
theorem firstV_one {f : Nat → Bool} {v w : V} (h1 : FirstV f v) (h2 : FirstV f w) : v = w := by
  rcases h1 with ⟨k, rfl, a, b⟩ | ⟨rfl, a⟩
  · rcases h2 with ⟨m, rfl, c, d⟩ | ⟨rfl, c⟩
    · have n1 : ¬ k < m := fun h => by rw [d k h] at a; cases a
      have n2 : ¬ m < k := fun h => by rw [b m h] at c; cases c
      have : k = m := by omega
      rw [this]
    · rw [c k] at a; cases a
  · rcases h2 with ⟨m, rfl, c, d⟩ | ⟨rfl, c⟩
    · rw [a m] at c; cases c
    · rfl
theorem cntM_lt {f : Nat → Bool} {a b : Nat} (h : a < b) (ha : f a = true) : cntM f a < cntM f b := by
  obtain ⟨d, rfl⟩ : ∃ d, b = a + (1 + d) := ⟨b - a - 1, by omega⟩
  rw [cntM_add, cntM_add]
  have : cntM (fun j => f (a + j)) 1 = 1 := by
    unfold cntM
    show (([0] : List Nat).filter fun j => f (a + j)).length = 1
    rw [List.filter_cons_of_pos (by show f (a + 0) = true; exact ha)]
    rfl
  omega
theorem stV_one {F : Nat → Option Nat} {n : Nat} {v w : V} (h1 : StV F n v) (h2 : StV F n w) : v = w := by
  obtain ⟨a, b, c, rfl⟩ := h1
  obtain ⟨p, q, r, rfl⟩ := h2
  have n1 : ¬ a < p := fun h => by have := cntM_lt h (f := fun k => (F k).isSome) b; omega
  have n2 : ¬ p < a := fun h => by have := cntM_lt h (f := fun k => (F k).isSome) q; omega
  have : a = p := by omega
  rw [this]
theorem stV_map {F : Nat → Option Nat} {g : Nat → Nat} {n : Nat} {v : V} (h : StV (fun k => (F k).map g) n v) : ∃ q : Nat, StV F n (.int (q : Nat)) ∧ v = .int ((g q : Nat) : Int) := by
  obtain ⟨m, a, b, rfl⟩ := h
  have e : (fun k => ((F k).map g).isSome) = fun k => (F k).isSome := by
    funext k
    cases F k <;> rfl
  cases hF : F m with
  | none => simp only [hF] at a; cases a
  | some q =>
    refine ⟨q, ⟨m, by rw [hF]; rfl, ?_, by rw [hF]; rfl⟩, ?_⟩
    · rw [← b]
      exact (congrArg (fun f => cntM f m) e).symm
    · show tagV ((F m).map g) = _
      rw [hF]
      rfl
theorem stampsV_map {F : Nat → Option Nat} {g : Nat → Nat} {c : Nat} {xs ys : List V} (h1 : StampsV F c xs) (h2 : StampsV (fun k => (F k).map g) c ys) : ys.length = xs.length ∧ ∀ (j : Nat) (y : V), ys[j]? = some y → ∃ q : Nat, xs[j]? = some (.int (q : Nat)) ∧ y = .int ((g q : Nat) : Int) := by
  have noF : (∀ k, (F k).isSome = false) ↔ ∀ k, ((F k).map g).isSome = false := by
    refine forall_congr' fun k => ?_
    cases F k <;> exact Iff.rfl
  have none1 : ∀ {xs : List V} {G : Nat → Option Nat}, (∀ k, (G k).isSome = false) → (xs.length = c ∧ ∀ j z, xs[j]? = some z → StV G j z) → xs = [] := fun {xs G} hG hx => by
    cases xs with
    | nil => rfl
    | cons x xs =>
      obtain ⟨m, a, _⟩ := hx.2 0 x rfl
      rw [hG m] at a
      cases a
  rcases h1 with ⟨rfl, hn⟩ | h1
  · have : ys = [] := by
      rcases h2 with ⟨rfl, _⟩ | h2
      · rfl
      · exact none1 (noF.mp hn) h2
    subst this
    exact ⟨rfl, fun j y h => by simp at h⟩
  · rcases h2 with ⟨rfl, hn⟩ | h2
    · have := none1 (noF.mpr hn) h1
      subst this
      exact ⟨rfl, fun j y h => by simp at h⟩
    · refine ⟨by rw [h1.1, h2.1], fun j y hy => ?_⟩
      obtain ⟨q, s1, s2⟩ := stV_map (h2.2 j y hy)
      have jl := (List.getElem?_eq_some_iff.mp hy).1
      obtain ⟨x, hx⟩ : ∃ x, xs[j]? = some x := ⟨_, List.getElem?_eq_getElem (by omega)⟩
      refine ⟨q, ?_, s2⟩
      rw [hx, stV_one (h1.2 j x hx) s1]
/-- leaving the shelf y, in the other order -/
theorem lfB_rot {n k : Nat} {zs : List Int} {rs : List Ro} (hz : zs.length = n) (hk : k < n) (hr : ∀ r ∈ rs, r ≠ [] ∧ ∀ e ∈ r, okE n e = true) (hp : 1 ≤ lc rs) (t : Int) (c : Nat) {L : Lay Int} (hf : Fits rs.length zs L) (nd : (join L).Nodup) {i : Nat} (hi : i < rs.length) {y : Nat} (hy : y < n) :
    lfB (rotl k zs) (rotR n k rs) t i ((rix n k y : Nat) : Int) c = lfB zs rs t i (y : Nat) c := by
  unfold lfB
  rw [lft_rot hz hk hr hp t c hf nd hi]
  rw [decide_eq_decide]
  cases hF : lft zs rs t i c with
  | none => exact ⟨(fun h => nomatch h), (fun h => nomatch h)⟩
  | some q =>
    have hq : q < n := by
      unfold lft vsh at hF
      split at hF
      · cases hv : List.find? (fun p : Nat × Nat => decide (p.1 = pos zs rs t c i)) (vis rs (t + (c : Nat))) with
        | none => rw [hv] at hF; cases hF
        | some p =>
          rw [hv] at hF
          have hF : p.2 = q := Option.some.inj hF
          rw [← hF]
          exact vis_lt (fun r hm => (hr r hm).2) _ p (List.mem_of_find?_eq_some hv)
      · cases hF
    show (V.int ((rix n k q : Nat) : Int) = .int ((rix n k y : Nat) : Int)) ↔ (V.int (q : Int) = .int (y : Int))
    constructor
    · intro h
      have h := V.int.inj h
      rw [rix_inj hk hq hy (by omega)]
    · intro h
      have h := V.int.inj h
      have : q = y := by omega
      rw [this]
end Sv
set_option maxHeartbeats 1000000
namespace Sv
/-- f so many times -/
def itF (f : Nat → Nat) : Nat → Nat → Nat
  | 0, x => x
  | k + 1, x => f (itF f k x)
theorem itF_add (f : Nat → Nat) (a : Nat) : ∀ b x, itF f (a + b) x = itF f a (itF f b x) := by
  induction a with
  | zero => intro b x; rw [Nat.zero_add]; rfl
  | succ a ih =>
    intro b x
    rw [show a + 1 + b = (a + b) + 1 by omega]
    show f (itF f (a + b) x) = f (itF f a (itF f b x))
    rw [ih]
theorem itF_succ (f : Nat → Nat) (k x : Nat) : itF f (k + 1) x = itF f k (f x) := itF_add f k 1 x
def Orb (f : Nat → Nat) (p q : Nat) : Prop := ∃ k, itF f k p = q
theorem Orb.refl (f : Nat → Nat) (p : Nat) : Orb f p p := ⟨0, rfl⟩
theorem Orb.step (f : Nat → Nat) (p : Nat) : Orb f p (f p) := ⟨1, rfl⟩
theorem Orb.trans {f : Nat → Nat} {p q r : Nat} : Orb f p q → Orb f q r → Orb f p r
  | ⟨a, ha⟩, ⟨b, hb⟩ => ⟨b + a, by rw [itF_add, ha, hb]⟩
/-- one to one below n -/
structure Pm (n : Nat) (f : Nat → Nat) : Prop where
  lt : ∀ p, p < n → f p < n
  inj : ∀ p q, p < n → q < n → f p = f q → p = q
theorem itF_lt {n : Nat} {f : Nat → Nat} (h : Pm n f) : ∀ (k : Nat) {p : Nat}, p < n → itF f k p < n
  | 0, _, hp => hp
  | k + 1, _, hp => h.lt _ (itF_lt h k hp)
theorem itF_inj {n : Nat} {f : Nat → Nat} (h : Pm n f) : ∀ (k : Nat) {p q : Nat}, p < n → q < n → itF f k p = itF f k q → p = q
  | 0, _, _, _, _, e => e
  | k + 1, _, _, hp, hq, e => itF_inj h k hp hq (h.inj _ _ (itF_lt h k hp) (itF_lt h k hq) e)
theorem itF_back {n : Nat} {f : Nat → Nat} (h : Pm n f) {p : Nat} (hp : p < n) : ∃ k, 1 ≤ k ∧ itF f k p = p := by
  refine Classical.byContradiction fun hn => ?_
  have nd : ((List.range (n + 1)).map fun k => itF f k p).Nodup := map_nodup fun i j hij _ e => hn ⟨j - i, by omega, by
    have : itF f j p = itF f i (itF f (j - i) p) := by rw [← itF_add]; congr 1; omega
    rw [this] at e
    exact (itF_inj h i (itF_lt h _ hp) hp e.symm)⟩
  have := below_len (n := n) nd fun x hx => by
    obtain ⟨k, _, rfl⟩ := List.mem_map.mp hx
    exact itF_lt h k hp
  rw [List.length_map, List.length_range] at this
  omega
theorem itF_mul {f : Nat → Nat} {k p : Nat} (h : itF f k p = p) : ∀ m, itF f (m * k) p = p
  | 0 => by rw [Nat.zero_mul]; rfl
  | m + 1 => by rw [Nat.succ_mul, itF_add, h, itF_mul h m]
theorem Orb.symm {n : Nat} {f : Nat → Nat} (h : Pm n f) {p q : Nat} (hp : p < n) : Orb f p q → Orb f q p := by
  rintro ⟨k, rfl⟩
  obtain ⟨m, hm, e⟩ := itF_back h hp
  refine ⟨k * m - k, ?_⟩
  have hk : k ≤ k * m := Nat.le_mul_of_pos_right k (by omega)
  rw [← itF_add, show k * m - k + k = k * m by omega]
  exact itF_mul e k
section
open Classical
noncomputable def cn (n : Nat) (A : Nat → Prop) : Nat := ((List.range n).filter fun p => decide (A p)).length
theorem cn_succ (n : Nat) (A : Nat → Prop) : cn (n + 1) A = cn n A + if A n then 1 else 0 := by
  unfold cn
  rw [List.range_succ, List.filter_append, List.length_append]
  congr 1
  by_cases h : A n <;> simp [h]
/-- not more representatives on one side than on the other -/
theorem cn_le {n : Nat} {A B : Nat → Prop} {R S : Nat → Nat → Prop} (φ : Nat → Nat) (hφ : ∀ p, p < n → φ p < n) (hA : ∀ p q, p < n → q < n → A p → A q → R p q → p = q) (hB : ∀ q, q < n → ∃ b, b < n ∧ B b ∧ S q b)
    (hS : ∀ p q b, p < n → q < n → S (φ p) b → S (φ q) b → R p q) : cn n A ≤ cn n B := by
  unfold cn
  have hc : ∀ p : Nat, ∃ b, p < n → b < n ∧ B b ∧ S (φ p) b := fun p => by
    by_cases hp : p < n
    · obtain ⟨b, h⟩ := hB (φ p) (hφ p hp)
      exact ⟨b, fun _ => h⟩
    · exact ⟨0, fun h => absurd h hp⟩
  have hc2 : ∃ c : Nat → Nat, ∀ p, p < n → c p < n ∧ B (c p) ∧ S (φ p) (c p) := ⟨fun p => choose (hc p), fun p hp => choose_spec (hc p) hp⟩
  obtain ⟨c, hc3⟩ := hc2
  have hmem : ∀ p, p ∈ ((List.range n).filter fun p => decide (A p)) → p < n ∧ A p := fun p hp => by
    have := List.mem_filter.mp hp
    exact ⟨List.mem_range.mp this.1, of_decide_eq_true this.2⟩
  have nd : (((List.range n).filter fun p => decide (A p)).map c).Nodup := by
    have n0 : ((List.range n).filter fun p => decide (A p)).Nodup := List.nodup_range.filter _
    refine List.pairwise_map.mpr ?_
    refine List.Pairwise.imp_of_mem ?_ n0
    intro p q hp hq hne e
    obtain ⟨p1, p2⟩ := hmem p hp
    obtain ⟨q1, q2⟩ := hmem q hq
    have a := (hc3 p p1).2.2
    have b := (hc3 q q1).2.2
    rw [e] at a
    exact hne (hA p q p1 q1 p2 q2 (hS p q _ p1 q1 a b))
  have := nat_sub_len nd (m := (List.range n).filter fun p => decide (B p)) fun x hx => by
    obtain ⟨p, hp, rfl⟩ := List.mem_map.mp hx
    obtain ⟨p1, _⟩ := hmem p hp
    exact List.mem_filter.mpr ⟨List.mem_range.mpr (hc3 p p1).1, decide_eq_true (hc3 p p1).2.1⟩
  rw [List.length_map] at this
  exact this
end
/-- the least of its orbit, the greatest of its orbit -/
def mnP (f : Nat → Nat) (p : Nat) : Prop := ∀ q, Orb f p q → p ≤ q
def mxP (f : Nat → Nat) (p : Nat) : Prop := ∀ q, Orb f p q → q ≤ p
theorem mn_ex {n : Nat} {f : Nat → Nat} (h : Pm n f) {p : Nat} (hp : p < n) : ∃ b, b < n ∧ mnP f b ∧ Orb f p b := by
  obtain ⟨b, hb, hl⟩ := least (P := fun b => Orb f p b) ⟨p, Orb.refl f p⟩
  refine ⟨b, ?_, fun q hq => ?_, hb⟩
  · obtain ⟨k, rfl⟩ := hb
    exact itF_lt h k hp
  · exact Nat.le_of_not_lt fun hlt => hl q hlt (hb.trans hq)
theorem mx_ex {n : Nat} {f : Nat → Nat} (h : Pm n f) {p : Nat} (hp : p < n) : ∃ b, b < n ∧ mxP f b ∧ Orb f p b := by
  obtain ⟨d, ⟨b, hb, hlt, hd⟩, hl⟩ := least (P := fun d => ∃ b, Orb f p b ∧ b < n ∧ d = n - b) ⟨n - p, p, Orb.refl f p, hp, rfl⟩
  refine ⟨b, hlt, fun q hq => ?_, hb⟩
  refine Nat.le_of_not_lt fun hbq => ?_
  have hqn : q < n := by
    obtain ⟨k, rfl⟩ := hq
    exact itF_lt h k hlt
  exact hl (n - q) (by omega) ⟨q, hb.trans hq, hqn, rfl⟩
theorem mn_one {n : Nat} {f : Nat → Nat} (h : Pm n f) {p q : Nat} (hp : p < n) (a : mnP f p) (b : mnP f q) (o : Orb f p q) : p = q := by
  have h1 := a q o
  have h2 := b p (o.symm h hp)
  omega
theorem mx_one {n : Nat} {f : Nat → Nat} (h : Pm n f) {p q : Nat} (hp : p < n) (a : mxP f p) (b : mxP f q) (o : Orb f p q) : p = q := by
  have h1 := a q o
  have h2 := b p (o.symm h hp)
  omega
/-- as many greatest elements of one as least elements of another that is the same with other names -/
theorem cn_conj {n : Nat} {f g : Nat → Nat} (hf : Pm n f) (hg : Pm n g) (φ ψ : Nat → Nat) (h1 : ∀ p, p < n → φ p < n) (h2 : ∀ p, p < n → ψ p < n) (h3 : ∀ p, p < n → φ (ψ p) = p) (h4 : ∀ p, p < n → ψ (φ p) = p) (c : ∀ p, p < n → φ (f p) = g (φ p)) : cn n (mxP f) = cn n (mnP g) := by
  have c1 : ∀ (k p : Nat), p < n → φ (itF f k p) = itF g k (φ p) := fun k => by
    induction k with
    | zero => intro p _; rfl
    | succ k ih =>
      intro p hp
      show φ (f (itF f k p)) = g (itF g k (φ p))
      rw [c _ (itF_lt hf k hp), ih p hp]
  have c2 : ∀ p q, p < n → q < n → (Orb f p q ↔ Orb g (φ p) (φ q)) := fun p q hp hq => by
    constructor
    · rintro ⟨k, rfl⟩
      exact ⟨k, (c1 k p hp).symm⟩
    · rintro ⟨k, e⟩
      refine ⟨k, ?_⟩
      rw [← c1 k p hp] at e
      have := congrArg ψ e
      rwa [h4 _ (itF_lt hf k hp), h4 _ hq] at this
  refine Nat.le_antisymm ?_ ?_
  · refine cn_le (R := Orb f) (S := Orb g) φ h1 (fun p q hp hq a b o => mx_one hf hp a b o) (fun q hq => mn_ex hg hq) (fun p q b hp hq a d => ?_)
    exact (c2 p q hp hq).mpr (a.trans (d.symm hg (h1 q hq)))
  · refine cn_le (R := Orb g) (S := Orb f) ψ h2 (fun p q hp hq a b o => mn_one hg hp a b o) (fun q hq => mx_ex hf hq) (fun p q b hp hq a d => ?_)
    have := (c2 (ψ p) (ψ q) (h2 p hp) (h2 q hq)).mp (a.trans (d.symm hf (h2 q hq)))
    rwa [h3 p hp, h3 q hq] at this
/-- the item at i goes where the wanted one was -/
def skip (f : Nat → Nat) (i : Nat) : Nat → Nat := fun p => if p = i then i else if f p = i then f i else f p
/-- what is still to be moved behind the first i places -/
def gN (g : Nat → Nat) : Nat → Nat → Nat
  | 0 => g
  | i + 1 => skip (gN g i) i
theorem skip_same {f : Nat → Nat} {i : Nat} (h : f i = i) : ∀ p, skip f i p = f p := fun p => by
  unfold skip
  by_cases e : p = i
  · rw [if_pos e, e, h]
  · rw [if_neg e]
    by_cases e2 : f p = i
    · rw [if_pos e2, h, e2]
    · rw [if_neg e2]
structure GI (n : Nat) (g : Nat → Nat) (i : Nat) (f : Nat → Nat) : Prop where
  p : Pm n f
  fx : ∀ q, q < i → f q = q
  o : ∀ p q, i ≤ p → i ≤ q → p < n → q < n → (Orb f p q ↔ Orb g p q)
theorem GI.start {n : Nat} {g : Nat → Nat} (h : Pm n g) : GI n g 0 g := ⟨h, fun q hq => absurd hq (Nat.not_lt_zero _), fun _ _ _ _ _ _ => Iff.rfl⟩
theorem GI.ge {n i : Nat} {g f : Nat → Nat} (h : GI n g i f) {p : Nat} (hp : i ≤ p) (hn : p < n) : i ≤ f p := by
  refine Nat.le_of_not_lt fun hlt => ?_
  have e := h.fx _ hlt
  have := h.p.inj _ _ (h.p.lt p hn) hn e
  omega
theorem GI.fix_iff {n i : Nat} {g f : Nat → Nat} (h : GI n g i f) (hi : i < n) (hg : Pm n g) : f i = i ↔ mxP g i := by
  constructor
  · intro e q hq
    refine Nat.le_of_not_lt fun hlt => ?_
    have hqn : q < n := by
      obtain ⟨k, rfl⟩ := hq
      exact itF_lt hg k hi
    obtain ⟨k, hk⟩ := (h.o i q (Nat.le_refl _) (by omega) hi hqn).mpr hq
    have : ∀ k, itF f k i = i := fun k => by
      induction k with
      | zero => rfl
      | succ k ih => show f (itF f k i) = i; rw [ih, e]
    rw [this k] at hk
    omega
  · intro hm
    have h1 := h.ge (Nat.le_refl i) hi
    have h2 := hm (f i) ((h.o i (f i) (Nat.le_refl _) h1 hi (h.p.lt i hi)).mp (Orb.step f i))
    omega
theorem GI.next {n i : Nat} {g f : Nat → Nat} (h : GI n g i f) (hi : i < n) : GI n g (i + 1) (skip f i) := by
  have sp : ∀ p, p ≠ i → skip f i p = if f p = i then f i else f p := fun p hp => by unfold skip; rw [if_neg hp]
  have si : skip f i i = i := by unfold skip; rw [if_pos rfl]
  have pm : Pm n (skip f i) := by
    refine ⟨fun p hp => ?_, fun p q hp hq e => ?_⟩
    · by_cases e : p = i
      · rw [e, si]; exact hi
      · rw [sp p e]
        by_cases e2 : f p = i
        · rw [if_pos e2]; exact h.p.lt i hi
        · rw [if_neg e2]; exact h.p.lt p hp
    · have key : ∀ p, p < n → p ≠ i → skip f i p ≠ i := fun p hp hne z => by
        rw [sp p hne] at z
        by_cases e2 : f p = i
        · rw [if_pos e2] at z
          exact hne (h.p.inj p i hp hi (e2.trans z.symm))
        · rw [if_neg e2] at z
          exact e2 z
      by_cases ep : p = i
      · by_cases eq : q = i
        · rw [ep, eq]
        · rw [ep, si] at e
          exact (key q hq eq e.symm).elim
      · by_cases eq : q = i
        · rw [eq, si] at e
          exact (key p hp ep e).elim
        · rw [sp p ep, sp q eq] at e
          by_cases a : f p = i
          · by_cases b : f q = i
            · exact h.p.inj p q hp hq (a.trans b.symm)
            · rw [if_pos a, if_neg b] at e
              exact (eq (h.p.inj q i hq hi e.symm)).elim
          · by_cases b : f q = i
            · rw [if_neg a, if_pos b] at e
              exact (ep (h.p.inj p i hp hi e)).elim
            · rw [if_neg a, if_neg b] at e
              exact h.p.inj p q hp hq e
  refine ⟨pm, fun q hq => ?_, fun p q hp hq hpn hqn => ?_⟩
  · by_cases e : q = i
    · rw [e, si]
    · have hlt : q < i := by omega
      rw [sp q e, h.fx q hlt, if_neg (by omega)]
  · rw [← h.o p q (by omega) (by omega) hpn hqn]
    constructor
    · rintro ⟨k, rfl⟩
      induction k with
      | zero => exact Orb.refl f p
      | succ k ih =>
        have hk : i + 1 ≤ itF (skip f i) k p ∧ itF (skip f i) k p < n := by
          clear ih hq hqn
          induction k with
          | zero => exact ⟨hp, hpn⟩
          | succ k ih2 =>
            have g1 : itF (skip f i) (k + 1) p < n := itF_lt pm _ hpn
            refine ⟨?_, g1⟩
            have e1 : itF (skip f i) (k + 1) p = skip f i (itF (skip f i) k p) := rfl
            have hne : itF (skip f i) k p ≠ i := by have := ih2.1; omega
            have h0 := h.ge (p := itF (skip f i) k p) (by have := ih2.1; omega) ih2.2
            rw [e1, sp _ hne]
            by_cases a : f (itF (skip f i) k p) = i
            · rw [if_pos a]
              have h1 := h.ge (Nat.le_refl i) hi
              have h2 : f i ≠ i := fun z => hne (h.p.inj _ _ ih2.2 hi (a.trans z.symm))
              omega
            · rw [if_neg a]
              omega
        have ih' := ih (by omega) hk.2
        refine ih'.trans ?_
        show Orb f (itF (skip f i) k p) (skip f i (itF (skip f i) k p))
        rw [sp _ (by omega)]
        by_cases a : f (itF (skip f i) k p) = i
        · rw [if_pos a]
          exact ⟨2, by show f (f (itF (skip f i) k p)) = f i; rw [a]⟩
        · rw [if_neg a]
          exact Orb.step f _
    · have main : ∀ k p, i + 1 ≤ p → p < n → itF f k p = q → Orb (skip f i) p q := by
        intro k
        induction k using Nat.strongRecOn with
        | _ k ih =>
          intro p hp hpn hk
          match k, hk with
          | 0, hk => exact ⟨0, hk⟩
          | 1, hk =>
            have hk' : f p = q := hk
            refine ⟨1, ?_⟩
            show skip f i p = q
            rw [sp p (by omega), if_neg (by omega)]
            exact hk'
          | k + 2, hk =>
            by_cases a : f p = i
            · have e : itF f k (f i) = q := by
                rw [itF_succ, itF_succ, a] at hk
                exact hk
              have h2 : f i ≠ i := fun z => by
                have := h.p.inj p i hpn hi (a.trans z.symm)
                omega
              have h1 := h.ge (Nat.le_refl i) hi
              have := ih k (by omega) (f i) (by omega) (h.p.lt i hi) e
              have s : skip f i p = f i := by rw [sp p (by omega), if_pos a]
              rw [← s] at this
              exact (Orb.step _ p).trans this
            · have e : itF f (k + 1) (f p) = q := by
                rw [itF_succ] at hk
                exact hk
              have h0 := h.ge (p := p) (by omega) hpn
              have := ih (k + 1) (by omega) (f p) (by omega) (h.p.lt p hpn) e
              have s : skip f i p = f p := by rw [sp p (by omega), if_neg a]
              rw [← s] at this
              exact (Orb.step _ p).trans this
      rintro ⟨k, hk⟩
      exact main k p hp hpn hk
theorem gN_ok {n : Nat} {g : Nat → Nat} (h : Pm n g) : ∀ i, i ≤ n → GI n g i (gN g i)
  | 0, _ => GI.start h
  | i + 1, hi => (gN_ok h i (by omega)).next (by omega)
end Sv
set_option maxHeartbeats 1000000
namespace Sv
def xch (l : List Int) (i j : Nat) : List Int := (l.set i (l.getD j 0)).set j (l.getD i 0)
theorem xch_len (l : List Int) (i j : Nat) : (xch l i j).length = l.length := by unfold xch; rw [List.length_set, List.length_set]
theorem getD_at {l : List Int} {i : Nat} (h : i < l.length) : l[i]? = some (l.getD i 0) := by
  rw [List.getD_eq_getElem?_getD, List.getElem?_eq_getElem h]
  rfl
theorem xch_at {l : List Int} {i j : Nat} (hi : i < l.length) (hj : j < l.length) (q : Nat) : (xch l i j)[q]? = if q = j then some (l.getD i 0) else if q = i then some (l.getD j 0) else l[q]? := by
  unfold xch
  by_cases h : q = j
  · rw [if_pos h, h, List.getElem?_set_self (by rw [List.length_set]; exact hj)]
  · rw [if_neg h, List.getElem?_set_ne (Ne.symm h)]
    by_cases h2 : q = i
    · rw [if_pos h2, h2, List.getElem?_set_self hi]
    · rw [if_neg h2, List.getElem?_set_ne (Ne.symm h2)]
/-- where an item is -/
def ixOf (l : List Int) (x : Int) : Nat := l.idxOf x
theorem ixOf_at {l : List Int} {x : Int} (h : x ∈ l) : l[ixOf l x]? = some x ∧ ixOf l x < l.length := by
  have h1 : l.idxOf x < l.length := List.idxOf_lt_length_of_mem h
  refine ⟨?_, h1⟩
  show l[l.idxOf x]? = some x
  rw [List.getElem?_eq_getElem h1, List.getElem_idxOf h1]
theorem at_one {l : List Int} (nd : l.Nodup) {a b : Nat} {x : Int} (ha : l[a]? = some x) (hb : l[b]? = some x) : a = b := by
  obtain ⟨la, ea⟩ := List.getElem?_eq_some_iff.mp ha
  obtain ⟨lb, eb⟩ := List.getElem?_eq_some_iff.mp hb
  exact (List.getElem_inj nd).mp (ea.trans eb.symm)
/-- what is there, and the swaps so far, behind the first i places -/
def swS (now wanted : List Int) : Nat → List Int × List (Nat × Nat)
  | 0 => (now, [])
  | i + 1 => if (swS now wanted i).1.getD i 0 = wanted.getD i 0 then swS now wanted i else (xch (swS now wanted i).1 i (ixOf (swS now wanted i).1 (wanted.getD i 0)), (swS now wanted i).2 ++ [(i, ixOf (swS now wanted i).1 (wanted.getD i 0))])
section
variable {now wanted : List Int}
/-- the place in now of what is wanted at p -/
def gW (now wanted : List Int) (p : Nat) : Nat := ixOf now (wanted.getD p 0)
theorem gW_pm (nd : now.Nodup) (pm : wanted.Perm now) : Pm now.length (gW now wanted) := by
  have wl : wanted.length = now.length := pm.length_eq
  have mem : ∀ p, p < now.length → wanted.getD p 0 ∈ now := fun p hp => pm.mem_iff.mp (List.mem_of_getElem? (getD_at (by omega)))
  refine ⟨fun p hp => (ixOf_at (mem p hp)).2, fun p q hp hq e => ?_⟩
  have h1 := (ixOf_at (mem p hp)).1
  have h2 := (ixOf_at (mem q hq)).1
  unfold gW at e
  rw [e] at h1
  have e2 : wanted.getD p 0 = wanted.getD q 0 := Option.some.inj (h1.symm.trans h2)
  exact at_one (pm.nodup_iff.mpr nd) (getD_at (by omega)) (by rw [e2]; exact getD_at (by omega))
structure SwI (now wanted : List Int) (i : Nat) (l : List Int) (sw : List (Nat × Nat)) : Prop where
  len : l.length = now.length
  at_ : ∀ p, p < now.length → l[gN (gW now wanted) i p]? = wanted[p]?
  nd : l.Nodup
  cnt : sw.length + cn i (mxP (gW now wanted)) = i
theorem swS_ok (nd : now.Nodup) (pm : wanted.Perm now) : ∀ i, i ≤ now.length → SwI now wanted i (swS now wanted i).1 (swS now wanted i).2
  | 0, _ => ⟨rfl, fun p hp => by
      have h := (ixOf_at (pm.mem_iff.mp (List.mem_of_getElem? (getD_at (l := wanted) (i := p) (by rw [pm.length_eq]; exact hp))))).1
      show now[gW now wanted p]? = _
      unfold gW
      rw [h, getD_at (by rw [pm.length_eq]; exact hp)], nd, rfl⟩
  | i + 1, hi => by
    have wl : wanted.length = now.length := pm.length_eq
    have I := swS_ok nd pm i (by omega)
    have G := gN_ok (gW_pm nd pm) i (by omega)
    have hil : i < now.length := by omega
    have hfi := G.fix_iff hil (gW_pm nd pm)
    generalize hl : (swS now wanted i).1 = l at I
    generalize hs : (swS now wanted i).2 = sw at I
    have e1 : swS now wanted (i + 1) = if l.getD i 0 = wanted.getD i 0 then (l, sw) else (xch l i (ixOf l (wanted.getD i 0)), sw ++ [(i, ixOf l (wanted.getD i 0))]) := by
      show (if (swS now wanted i).1.getD i 0 = wanted.getD i 0 then swS now wanted i else _) = _
      rw [hl, hs, ← hl, ← hs]
    have wi : wanted[i]? = some (wanted.getD i 0) := getD_at (by omega)
    have li : l[i]? = some (l.getD i 0) := getD_at (by rw [I.len]; exact hil)
    have atI := I.at_ i hil
    rw [wi] at atI
    have gi := G.p.lt i hil
    by_cases h : l.getD i 0 = wanted.getD i 0
    · rw [e1, if_pos h]
      have fx : gN (gW now wanted) i i = i := at_one I.nd atI (by rw [← h]; exact li)
      refine ⟨I.len, fun p hp => ?_, I.nd, ?_⟩
      · show l[skip (gN (gW now wanted) i) i p]? = _
        rw [skip_same fx]
        exact I.at_ p hp
      · have := I.cnt
        rw [cn_succ, if_pos (hfi.mp fx)]
        show sw.length + _ = _
        omega
    · rw [e1, if_neg h]
      have ej : ixOf l (wanted.getD i 0) = gN (gW now wanted) i i := at_one I.nd (ixOf_at (List.mem_of_getElem? atI)).1 atI
      have nfx : gN (gW now wanted) i i ≠ i := fun z => by
        rw [z, li] at atI
        exact h (Option.some.inj atI)
      rw [ej]
      have jl : gN (gW now wanted) i i < l.length := by rw [I.len]; exact gi
      have il : i < l.length := by rw [I.len]; exact hil
      generalize hj : gN (gW now wanted) i i = j at *
      have ex := xch_at il jl
      refine ⟨by rw [xch_len]; exact I.len, fun p hp => ?_, ?_, ?_⟩
      · show (xch l i j)[skip (gN (gW now wanted) i) i p]? = _
        rw [ex]
        unfold skip
        by_cases hpi : p = i
        · rw [if_pos hpi, if_neg (Ne.symm nfx), if_pos rfl, hpi, wi]
          congr 1
          have := getD_at jl
          rw [atI] at this
          exact (Option.some.inj this).symm
        · rw [if_neg hpi]
          by_cases h2 : gN (gW now wanted) i p = i
          · rw [if_pos h2, hj, if_pos rfl, ← I.at_ p hp, h2, li]
          · rw [if_neg h2]
            have h3 : gN (gW now wanted) i p ≠ j := fun z => hpi (G.p.inj p i hp hil (by rw [z, hj]))
            rw [if_neg h3, if_neg h2]
            exact I.at_ p hp
      · refine List.pairwise_iff_getElem.mpr fun a b ha hb hab e0 => ?_
        have e : (xch l i j)[a]? = (xch l i j)[b]? := by rw [List.getElem?_eq_getElem ha, List.getElem?_eq_getElem hb, e0]
        clear e0
        rw [xch_len] at ha hb
        rw [ex, ex] at e
        have key : ∀ {c d : Nat}, c < l.length → d < l.length → l[c]? = l[d]? → c = d := fun hc hd e2 => at_one I.nd (e2.trans (getD_at hd)) (getD_at hd)
        rw [← li, ← getD_at jl] at e
        split at e
        · rename_i ha
          split at e
          · omega
          · split at e
            · have := key il jl e; omega
            · have := key il hb e; omega
        · split at e
          · split at e
            · have := key jl il e; omega
            · split at e
              · omega
              · have := key jl hb e; omega
          · split at e
            · have := key (by omega) il e; omega
            · split at e
              · have := key (by omega) jl e; omega
              · have := key (by omega) hb e; omega
      · rw [List.length_append, cn_succ, if_neg fun z => nfx (hfi.mpr z)]
        have := I.cnt
        show sw.length + 1 + _ = _
        omega
theorem swS_cnt (nd : now.Nodup) (pm : wanted.Perm now) : (swS now wanted now.length).2.length + cn now.length (mxP (gW now wanted)) = now.length := (swS_ok nd pm now.length (Nat.le_refl _)).cnt
end
end Sv
set_option maxHeartbeats 4000000
namespace Sv
open PySem PySem.Spec PyProof.Rows L2
def rSortS (K : PySem.W.Frag) : List V → Hp → VK → Prop := fun xs H Q => ∃ (a : Addr) (ks : List Int), xs = [.ref a] ∧ (SqL K H a (ks.map V.int) ∨ SqT K H a (ks.map V.int)) ∧
  ∀ (ys : List Int) (p : Addr), ys.Perm ks → ys.Pairwise (· ≤ ·) → H p = none → Q (.ref p) (upd H p (.lst (ys.map V.int)))
theorem ints_of_vals : ∀ {ks : List Int} {its : List Value}, Vals (ks.map V.int) its → IntsAre its ks
  | [], [], _ => .nil
  | [], _ :: _, h => by cases h
  | _ :: _, [], h => by cases h
  | k :: ks, v :: its, h => by
    cases h with
    | cons r t =>
      obtain ⟨tk, rfl⟩ := r
      exact .cons _ _ (ints_of_vals t)
theorem call_sortedS {X : Cx} (hcalm : X.calm = true) : CallR X (.builtin "sorted") (rSortS X.K) := by
  intro pins s σ H xs us Q I r ⟨a, ks, ex, hq, q⟩
  subst ex
  obtain ⟨u, eu, rx⟩ := vals1 r
  subst eu
  cases rx
  have key : ∃ (its : List Value) (T : String) (o : Obj) (n : Nat), Vals (ks.map V.int) its ∧ its.length ≤ sizeLine ∧ (T = "list" ∨ T = "tuple") ∧ s.heap.get? a = some o ∧ o.cls = .type T ∧ o.data = .seq its.toArray n := by
    rcases hq with hq | hq
    · obtain ⟨its, r', pl, hz⟩ := I.list hq
      obtain ⟨o, ho, hc, n, hd⟩ := pl.isList
      exact ⟨its, "list", o, n, r', by rw [← r'.length]; exact hz, .inl rfl, ho, hc, hd⟩
    · obtain ⟨its, r', pl, hz⟩ := I.tuple hq
      obtain ⟨o, ho, hc, n, hd⟩ := pl
      exact ⟨its, "tuple", o, n, r', by rw [← r'.length]; exact hz, .inr rfl, ho, hc, hd⟩
  obtain ⟨its, T, o, n, rv, hz, hT, ho, hc, hd⟩ := key
  have al : its.length = ks.length := by rw [← rv.length, List.length_map]
  have hI : IntsAre its ks := ints_of_vals rv
  refine Calls.call_function_entry PyProof.Rows.kind_sorted PyProof.Rows.plain_sorted PyProof.Rows.entry_sorted (PyProof.Rows.args_sorted1 _) ?_
  unfold Builtin.«sorted»
  refine wpAny_bind (m := checkCount "sorted" 1 1 _) (wpAny_pure (wpAny_bind (PySem.wpAny_collect_seq (A := X.A.in1) a hT ho hc hd (fun h' kp => ?_) (by simp only [List.size_toArray]; exact hz))))
  have I1 : Inv X pins σ H { s with heap := h' } := I.kept (t' := s.toks) kp
  refine wpAny_bind (wpAny_newList ?_ (by simp only [List.toList_toArray]; exact hz))
  have hoL : (h'.push (seqObj "list" its.toArray.toList.toArray 0)).get? h'.objs.size = some (seqObj "list" its.toArray.toList.toArray 0) := Heap.get?_push_size _ rfl
  show wpAny _ _ _ _ _ { s with heap := h'.push (seqObj "list" its.toArray.toList.toArray 0) }
  simp only [List.toList_toArray] at hoL ⊢
  refine wpAny_bind (wpAny_holding (wpAny_call_entry PyProof.Rows.slot_list_sort ⟨_, hoL, rfl⟩ PyProof.Rows.entry_list_sort
    (SrtO.list_sort_ord SrtO.swo_int hoL hz (fun h2 => SrtO.ints_sortable hI h2) fun out g1 g2 => ⟨_, rfl, ?_⟩) (PyProof.Rows.args_list_sort _)))
  obtain ⟨k1, k2, k3⟩ := SrtO.ints_out hI g1 g2
  obtain ⟨e', he'⟩ := PyProof.Rows.sortedHeap_at (vs := its) (out := out.toArray) hoL
  have hlen : ((out.map SrtO.iv).map V.int).length ≤ sizeLine := by
    rw [List.length_map, k2.length_eq, ← al]
    exact hz
  refine wpAny_pure ⟨_, rfl, .ref h'.objs.size, upd H h'.objs.size (.lst ((out.map SrtO.iv).map V.int)), I1.laid (t' := s.toks) (fun b u e => ?_) (Nat.le_refl _) (show ObjOk X.prog X.w _ _ _ (.lst ((out.map SrtO.iv).map V.int)) from ⟨hlen, out, e', vals_of_ints k1, he'⟩), rfl, q _ _ k2 k3 (I1.hok.fresh (Nat.le_refl _))⟩
  have hb : b < h'.objs.size := Heap.lt_size e
  rw [PyProof.Rows.sortedHeap_old (Nat.ne_of_lt hb) (by rw [size_push']; exact Nat.lt_succ_of_lt hb)]
  exact Heap.get?_push_of_some _ e
end Sv
set_option maxHeartbeats 4000000
namespace Sv
open PySem PySem.Spec PyProof.Rows L2
theorem sorted_one : ∀ {a b : List Int}, a.Pairwise (· ≤ ·) → b.Pairwise (· ≤ ·) → a.Perm b → a = b
  | [], b, _, _, p => p.nil_eq
  | x :: a, [], _, _, p => by have := p.length_eq; simp at this
  | x :: a, y :: b, ha, hb, p => by
    have h1 := List.pairwise_cons.mp ha
    have h2 := List.pairwise_cons.mp hb
    have e : x = y := by
      have a1 : x ∈ y :: b := p.mem_iff.mp (List.mem_cons_self ..)
      have a2 : y ∈ x :: a := p.mem_iff.mpr (List.mem_cons_self ..)
      rcases List.mem_cons.mp a1 with z | z
      · exact z
      · rcases List.mem_cons.mp a2 with w | w
        · exact w.symm
        · have := h2.1 x z
          have := h1.1 y w
          omega
    subst e
    rw [sorted_one h1.2 h2.2 (List.perm_cons x |>.mp p)]
theorem pInts_inj2 {a b : List Int} (h : a.map PyData.int = b.map PyData.int) : a = b := (List.map_inj_right fun x y z => PyData.int.inj z).mp h
theorem neL_go2 {K : PySem.W.Frag} {H : Hp} {a b : Addr} {l m : List Int} {Q : VK} (h1 : H a = some (.lst (l.map V.int))) (h2 : H b = some (.lst (m.map V.int))) (l1 : l.length ≤ 1000) (l2 : m.length ≤ 1000) (q : Q (.bl (!decide (l = m))) H) : qNe K (.ref a) (.ref b) H Q := by
  have d1 : Dp K H (.ref a) (.list (l.map PyData.int)) := .lst (.inl (.inl h1)) (dpAll_int l)
  have d2 : Dp K H (.ref b) (.list (m.map PyData.int)) := .lst (.inl (.inl h2)) (dpAll_int m)
  have p : ∀ l : List Int, pld (.list (l.map PyData.int)) = true := fun l => by unfold pld; exact pldAll_int l
  have o : ∀ l : List Int, l.length ≤ 1000 → okD 1 (.list (l.map PyData.int)) = true := fun l hl => okD_l (by rw [List.length_map]; exact hl) (okDs_int 0 l)
  by_cases e : l = m
  · rw [decide_eq_true e] at q
    subst e
    exact ne_same d1 d2 (p l) (o l l1) (by decide) q
  · rw [decide_eq_false e] at q
    exact ne_diff d1 d2 (p l) (p m) (o l l1) (o m l2) (by decide) (by decide) (fun z => e (by injection z with z; exact pInts_inj2 z)) q
section
variable {P : Program} {w : World} {K : PySem.W.Frag} {mg : Str → Option Value} {base : Heap}
def spParcelsT (K : PySem.W.Frag) : Sp := fun vs H Q _ => ∃ (l : Addr) (ns : List Int), vs = [.ref l] ∧ SqT K H l (ns.map V.int) ∧ ns.length ≤ 2000 ∧ Q (.bl (decide (OkP ns))) H
theorem ok_parcelsT (T : Bd P K mg) : FnOk P w K mg base CX0 2 T.aParcels T.dParcels ["parcels"] (spParcelsT K) := by
  have GW : FnOk P w K mg base CX0 1 T.aWithin T.dWithin ["number", "low", "high"] spWithin := ok_within T.Within.F T.bt.isinstance T.bt.bool T.bt.int
  obtain ⟨tl, hlast⟩ := T.lastP
  refine T.Parcels.F.ok scParcels (fun vs H Q E h => ?_) (fun cdv A outer s H vs Q E hr h => ?_)
  · obtain ⟨l, ns, rfl, _⟩ := h
    rfl
  · obtain ⟨l, ns, rfl, hL, hl, q⟩ := h
    refine ⟨_, pss_cons (ps_for PassesOwn.never rfl (pi_tup (pv 0)) (pg_name (i := 1) scParcels.nd rfl (Or.inl rfl))
        (pss_one (ps_if (pt_not (pt_val (pe_call GW hr (by rfl) T.Within.g T.Within.F.kp T.Within.b .nil pass0 (pa_cons (pv 1) (pa_cons pe_int (pa_cons (pe_glob (v := .int 999) (by rfl) hlast ⟨_, rfl⟩) pa_nil)))))) (pss_one (ps_ret pe_bl)) pss_nil)))
      (pss_one (ps_ret (pe_cmpR op_eq (pe_lenSetT (by rfl) T.bt.len (by rfl) T.bt.set (pv 0)) (pe_callB call_len_seq (by rfl) T.bt.len b_len (pa_cons (pv 0) pa_nil)) (nomark _)))), ?_⟩
    have hlen : (ns.map V.int).length = ns.length := by rw [List.length_map]
    refine ⟨.ref l, rfl, l, rfl, ⟨_, hL⟩, for_tup (xs := ns.map V.int) (fun i σ H' => (∃ y, σ = [some (.ref l), y]) ∧ H' = H ∧ ∀ j x, j < i → ns[j]? = some x → 1 ≤ x ∧ x ≤ 999) ⟨⟨none, rfl⟩, rfl, fun j x hj => by omega⟩ (fun i σ H' _ h => by rw [h.2.1]; exact hL)
      (fun i x σ H' hx ⟨⟨y, es⟩, eH, hok⟩ => ?_) (fun σ H' ⟨⟨y, es⟩, eH, hok⟩ => ?_)⟩
    · subst es
      subst eH
      obtain ⟨n, hn, rfl⟩ := iV_lt hx
      refine ⟨.int n, rfl, n, 1, 999, rfl, _, rfl, ?_⟩
      by_cases h : 1 ≤ n ∧ n ≤ 999
      · rw [decide_eq_true h]
        refine iteF ⟨⟨_, rfl⟩, rfl, fun j x hj e => ?_⟩
        by_cases hji : j = i
        · rw [hji, hn] at e
          rw [← Option.some.inj e]
          exact h
        · exact hok j x (by omega) e
      · rw [decide_eq_false h]
        have e : decide (OkP ns) = false := decide_eq_false fun z => h (z.1 n (List.mem_of_getElem? hn))
        rw [e] at q
        exact iteT q
    · subst es
      subst eH
      rw [hlen] at hok
      refine ⟨.ref l, rfl, l, ns, rfl, hL, by omega, fun c hc hiff => ?_⟩
      refine ⟨.ref l, rfl, l, _, rfl, .inr hL, rfl, ?_⟩
      rw [hlen]
      show Q (.bl (decide (V.int (c : Int) = V.int (ns.length : Nat)))) H'
      rw [int_eqV]
      have h1 : ∀ x ∈ ns, 1 ≤ x ∧ x ≤ 999 := fun x hx => by
        obtain ⟨j, hj⟩ := List.mem_iff_getElem?.mp hx
        exact hok j x (List.getElem?_eq_some_iff.mp hj).1 hj
      have e : decide ((c : Int) = (ns.length : Nat)) = decide (OkP ns) := by
        by_cases h : c = ns.length
        · rw [decide_eq_true (by rw [h]), decide_eq_true ⟨h1, hiff.mp h⟩]
        · rw [decide_eq_false (by omega), decide_eq_false fun z => h (hiff.mpr z.2)]
      rw [e]
      exact q
/-- a tuple that is known to have no attributes of its own -/
def TupF (H : Hp) (u : Addr) (xs : List V) : Prop := ∃ o, H u = some (.frz o (.tup xs)) ∧ o.dict = none
theorem TupF.same {H H' : Hp} {u : Addr} {xs : List V} (e : Same H H') (h : TupF H u xs) : TupF H' u xs := by
  obtain ⟨o, h, d⟩ := h
  exact ⟨o, e _ _ h, d⟩
theorem scCheckArr : FnScope ["parcels", "goal"] ["parcels", "goal"] (defScope sCheckArr) := ⟨rfl, rfl, rfl, by decide +kernel, rfl, by decide +kernel, by decide +kernel⟩
abbrev GoalOk (gs ns : List Int) : Prop := gs.length = ns.length ∧ OkP gs ∧ gs.Perm ns
def spCheckArr (K : PySem.W.Frag) (CA : Addr) : Sp := fun vs H Q E => ∃ (l g : Addr) (ns gs : List Int), vs = [.ref l, .ref g] ∧ SqL K H l (ns.map V.int) ∧ SqT K H g (gs.map V.int) ∧ ns.length ≤ 1000 ∧ gs.length ≤ 1000 ∧
  (GoalOk gs ns → ∀ H', Same H H' → Q .non H') ∧ (¬ GoalOk gs ns → ∀ H', Same H H' → E (.ref CA) none H')
theorem ok_checkArr (T : Bd P K mg) : FnOk P w K mg base (L2.CX P w) 3 T.aCheckArr T.dCheckArr ["parcels", "goal"] (spCheckArr K T.CAr) := by
  have GT : FnOk P w K mg base CX0 1 T.aTupOf T.dTupOf ["row", "length"] (spTupOf K) := ok_tupOf T
  have GQ : FnOk P w K mg base CX0 2 T.aParcels T.dParcels ["parcels"] (spParcelsT K) := ok_parcelsT T
  refine T.CheckArr.F.okX scCheckArr (fun vs H Q E h => ?_) (fun cdv A outer s H vs Q E hr h => ?_)
  · obtain ⟨l, g, ns, gs, rfl, _⟩ := h
    rfl
  · obtain ⟨l, g, ns, gs, rfl, hL, hG, ll, gl, q1, q2⟩ := h
    refine ⟨_, (pss_one (ps_if (pw_or (pt_not (pt_val (pe_call (E := E0) GT (hr.mono (by decide)) (by rfl) T.TupOf.g T.TupOf.F.kp T.TupOf.b .nil pass0 (pa_cons (pv 1) (pa_cons (pe_callB call_len_seq (by rfl) T.bt.len b_len (pa_cons (pv 0) pa_nil)) pa_nil))))) (pw_or (pt_not (pt_val (pe_call (E := E0) GQ (hr.mono (by decide)) (by rfl) T.Parcels.g T.Parcels.F.kp T.Parcels.b .nil pass0 (pa_cons (pv 1) pa_nil)))) (pw_or1 (pt_cmpR (op_neQ hr.units) (pe_callB (call_sortedS rfl) (by rfl) T.bt.sorted (by decide +kernel) (pa_cons (pv 1) pa_nil)) (pe_callB (call_sortedS rfl) (by rfl) T.bt.sorted (by decide +kernel) (pa_cons (pv 0) pa_nil)) (nomark _))))).pt (pss_one (ps_raise rfl (takes_of rfl rfl rfl rfl) (pmk_own PySem.F.excBase_ValueError T.car.x T.car.g T.car.k (raises_own T.car.b T.car.t) rfl))) pss_nil)), ?_⟩
    refine ⟨.ref g, rfl, .ref l, rfl, l, _, rfl, .inl hL, g, _, _, rfl, hG, _, rfl, ?_⟩
    rw [List.length_map, List.length_map]
    by_cases h1 : gs.length = ns.length
    · rw [decide_eq_true (by omega)]
      refine iteF ⟨.ref g, rfl, g, gs, rfl, hG, by omega, _, rfl, ?_⟩
      by_cases h2 : OkP gs
      · rw [decide_eq_true h2]
        refine iteF ⟨.ref g, rfl, g, gs, rfl, .inr hG, fun ys p py sy hp => ?_⟩
        have s1 := same_upd (o := .lst (ys.map V.int)) hp
        have hL1 : SqL K (upd H p (.lst (ys.map V.int))) l (ns.map V.int) := by
          rcases hL with (z | ⟨o, z⟩) | z
          · exact .inl (.inl (s1 _ _ z))
          · exact .inl (.inr ⟨o, s1 _ _ z⟩)
          · exact .inr z
        refine ⟨.ref l, rfl, l, ns, rfl, .inl hL1, fun xs r px sx hr => ?_⟩
        have s2 := same_upd (o := .lst (xs.map V.int)) hr
        have smA := s1.trans s2
        show qNe K _ _ _ _
        refine neL_go2 (s2 _ _ upd_same) upd_same (by rw [py.length_eq]; exact gl) (by rw [px.length_eq]; exact ll) ⟨_, rfl, ?_⟩
        by_cases e : ys = xs
        · rw [decide_eq_true e]
          subst e
          exact iteF (q1 ⟨h1, h2, py.symm.trans px⟩ _ smA)
        · rw [decide_eq_false e]
          exact iteT (q2 (fun z => e (sorted_one sy sx ((py.trans z.2.2).trans px.symm))) _ smA)
      · rw [decide_eq_false h2]
        exact iteT (q2 (fun z => h2 z.2.1) H (Same.refl H))
    · rw [decide_eq_false (by omega)]
      exact iteT (q2 (fun z => h1 z.1) H (Same.refl H))
theorem scExchange : FnScope ["contents", "one", "other"] ["contents", "one", "other"] (defScope sExchange) := ⟨rfl, rfl, rfl, by decide +kernel, rfl, by decide +kernel, by decide +kernel⟩
def spExchange (K : PySem.W.Frag) : Sp := fun vs H Q _ => ∃ (l : Addr) (ns : List Int) (i j : Nat), vs = [.ref l, .int (i : Nat), .int (j : Nat)] ∧ H l = some (.lst (ns.map V.int)) ∧ i < ns.length ∧ j < ns.length ∧
  ∀ H', (∀ b, b ≠ l → ∀ o, H b = some o → H' b = some o) → H' l = some (.lst ((xch ns i j).map V.int)) → Q .non H'
theorem ok_exchange (T : Bd P K mg) : FnOk P w K mg base CX0 1 T.aExchange T.dExchange ["contents", "one", "other"] (spExchange K) := by
  refine T.Exchange.F.ok scExchange (fun vs H Q E h => ?_) (fun cdv A outer s H vs Q E hr h => ?_)
  · obtain ⟨l, ns, i, j, rfl, _⟩ := h
    rfl
  · obtain ⟨l, ns, i, j, rfl, hL, hi, hj, q⟩ := h
    refine ⟨_, (pss_one (ps_asg (pe_tup (pa_cons (pe_ix ix_list (pv 0) (pv 2) (fun _ _ => rfl)) (pa_cons (pe_ix ix_list (pv 0) (pv 1) (fun _ _ => rfl)) pa_nil))) (pg_tup rfl (pgs_cons (pg_sub (pv 0) (pv 1) set_list) (pgs_cons (pg_sub (pv 0) (pv 2) set_list) pgs_nil))))), ?_⟩
    have ai : (ns.map V.int)[i]? = some (V.int (ns.getD i 0)) := by rw [List.getElem?_map, getD_at hi]; rfl
    have aj : (ns.map V.int)[j]? = some (V.int (ns.getD j 0)) := by rw [List.getElem?_map, getD_at hj]; rfl
    refine ⟨.ref l, rfl, .int (j : Nat), rfl, l, _, (j : Nat), .int (ns.getD j 0), rfl, rfl, .inl (.inl hL), atI_nat aj, .ref l, rfl, .int (i : Nat), rfl, l, _, (i : Nat), .int (ns.getD i 0), rfl, rfl, .inl (.inl hL), atI_nat ai, (by show 2 ≤ sizeLine; decide), fun t ht => ?_⟩
    have lt : l ≠ t := ne_of_none hL ht
    refine ⟨t, _, rfl, .inl (.inl upd_same), rfl, _, _, rfl, .ref l, rfl, .int (i : Nat), rfl, l, _, _, i, rfl, rfl, by rw [upd_ne lt]; exact hL, ixN_nat (by rw [List.length_map]; exact hi), ?_⟩
    refine ⟨_, _, rfl, .ref l, rfl, .int (j : Nat), rfl, l, _, _, j, rfl, rfl, upd_same, ixN_nat (by rw [List.length_set, List.length_map]; exact hj), rfl, ?_⟩
    refine q _ (fun b hb o ho => ?_) ?_
    · rw [upd_ne hb, upd_ne hb, upd_ne (ne_of_none ho ht)]
      exact ho
    · rw [upd_same]
      unfold xch
      rw [List.map_set, List.map_set]
end
end Sv
set_option maxHeartbeats 4000000
namespace Sv
open PySem PySem.Spec PyProof.Rows L2
def prA (ps : List Addr) (sw : List (Nat × Nat)) : List (List V) := sw.map fun ij => [V.ref (ps.getD ij.1 0), V.ref (ps.getD ij.2 0)]
theorem refs_at {ps : List Addr} {i : Nat} (h : i < ps.length) : (ps.map V.ref)[i]? = some (V.ref (ps.getD i 0)) := by
  rw [List.getElem?_map, List.getD_eq_getElem?_getD, List.getElem?_eq_getElem h]
  rfl
theorem tupsV_snocC {H : Hp} {q : Addr} {x : List V} (h : H q = some (.tup x)) : ∀ {ps : List Addr} {ts : List (List V)}, TupsV H ps ts → TupsV H (ps ++ [q]) (ts ++ [x])
  | _, _, .nil => .cons h .nil
  | _, _, .cons a t => .cons a (tupsV_snocC h t)
section
variable {P : Program} {w : World} {K : PySem.W.Frag} {mg : Str → Option Value} {base : Heap}
theorem scSwB : FnScope ["found", "parcels", "wanted", "now", "swaps", "place", "parcel", "other"] ["found", "parcels", "wanted"] (defScope sSwapsBetween) := ⟨rfl, rfl, rfl, by decide +kernel, rfl, by decide +kernel, by decide +kernel⟩
def spSwB (K : PySem.W.Frag) : Sp := fun vs H Q _ => ∃ (f l w : Addr) (ns ws : List Int) (ps : List Addr), vs = [.ref f, .ref l, .ref w] ∧ H f = some (.lst (ps.map V.ref)) ∧ H l = some (.lst (ns.map V.int)) ∧ H w = some (.lst (ws.map V.int)) ∧ ws.Perm ns ∧ ns.Nodup ∧ ns.length ≤ 900 ∧ ns.length ≤ ps.length ∧
  ∀ H' r us, Same H H' → H r = none → H' r = some (.lst (us.map V.ref)) → TupsV H' us (prA ps (swS ns ws ns.length).2) → Q (.ref r) H'
theorem ok_swB (T : Bd P K mg) : FnOk P w K mg base CX0 2 T.aSwapsBetween T.dSwapsBetween ["found", "parcels", "wanted"] (spSwB K) := by
  have GX : FnOk P w K mg base CX0 1 T.aExchange T.dExchange ["contents", "one", "other"] (spExchange K) := ok_exchange T
  refine T.SwapsBetween.F.ok scSwB (fun vs H Q E h => ?_) (fun cdv A outer s H vs Q E hr h => ?_)
  · obtain ⟨f, l, w, ns, ws, ps, rfl, _⟩ := h
    rfl
  · obtain ⟨f, l, w', ns, ws, ps, rfl, hf, hl, hw, pm, nd, nl, npl, q⟩ := h
    refine ⟨_, (pss_cons (ps_set (i := 3) scSwB.nd rfl (Or.inl rfl) (pe_callTy call_list_of (by rfl) T.bt.list b_list (pa_cons (pv 1) pa_nil)))
      (pss_cons (ps_set (i := 4) scSwB.nd rfl (Or.inl rfl) (pe_lst pa_nil))
      (pss_cons (ps_for PassesOwn.never rfl (pi_enum (by rfl) T.bt.enumerate (pa_cons (pv 2) pa_nil)) (pg_tup rfl (pgs_cons (pg_name (i := 5) scSwB.nd rfl (.inl rfl)) (pgs_cons (pg_name (i := 6) scSwB.nd rfl (.inl rfl)) pgs_nil))) (pss_one (ps_if (pt_cmpR op_ne (pe_ix ix_list (pv 3) (pv 5) (fun _ _ => rfl)) (pv 6) (nomark _)) (pss_cons (ps_set (i := 7) scSwB.nd rfl (Or.inl rfl) (pe_bm PySem.F.plainAttrs_list PySem.F.slot_list_index PySem.F.type_list_index mt_index (pv 3) (pa_cons (pv 6) pa_nil)))
      (pss_cons (ps_expr (pe_call (E := E0) GX (hr.mono (by decide)) (by rfl) T.Exchange.g T.Exchange.F.kp T.Exchange.b .nil pass0 (pa_cons (pv 3) (pa_cons (pv 5) (pa_cons (pv 7) pa_nil)))))
      (pss_one (ps_expr (pe_bm PySem.F.plainAttrs_list PySem.F.slot_list_append PySem.F.type_list_append mt_append (pv 4) (pa_cons (pe_tup (pa_cons (pe_ix ix_list (pv 0) (pv 5) (fun _ _ => rfl)) (pa_cons (pe_ix ix_list (pv 0) (pv 7) (fun _ _ => rfl)) pa_nil))) pa_nil)))))) pss_nil)))
      (pss_one (ps_ret (pv 4)))))), ?_⟩
    have wl : ws.length = ns.length := pm.length_eq
    refine ⟨.ref l, rfl, l, _, rfl, .inl (.inl (.inl hl)), fun N hN => ⟨Nat.zero_le _, fun S hS => ?_⟩⟩
    have sN := same_upd (o := .lst (ns.map V.int)) hN
    have sS := same_upd (o := .lst []) hS
    have hS0 : H S = none := Same.free sN hS
    have NS : N ≠ S := fun z => by rw [← z, upd_same] at hS; cases hS
    have sm := sN.trans sS
    have kN : (upd (upd H N (.lst (ns.map V.int))) S (.lst [])) N = some (.lst (ns.map V.int)) := by rw [upd_ne NS]; exact upd_same
    have kS : (upd (upd H N (.lst (ns.map V.int))) S (.lst [])) S = some (.lst []) := upd_same
    generalize upd (upd H N (.lst (ns.map V.int))) S (.lst []) = H1 at sm kN kS ⊢
    clear sN sS hS
    refine ⟨.ref w', rfl, w', ws.map V.int, rfl, .inl (.inl (sm _ _ hw)), for_enumL (xs := ws.map V.int) (fun i σ H' => (∃ y5 y6 y7, σ = [some (.ref f), some (.ref l), some (.ref w'), some (.ref N), some (.ref S), y5, y6, y7]) ∧ Same H H' ∧ H' N = some (.lst ((swS ns ws i).1.map V.int)) ∧ ∃ us : List Addr, H' S = some (.lst (us.map V.ref)) ∧ TupsV H' us (prA ps (swS ns ws i).2))
      ⟨⟨_, _, _, rfl⟩, sm, kN, [], kS, .nil⟩ (fun i σ H' _ h => .inl (.inl (h.2.1 _ _ hw))) (fun i y σ H' U hy ⟨⟨y5, y6, y7, es⟩, sm', kN', us, kS', tv⟩ hU => ?_) (fun σ H' ⟨⟨y5, y6, y7, es⟩, sm', kN', us, kS', tv⟩ => ?_)⟩
    · subst es
      clear sm kN kS
      obtain ⟨x, hx, rfl⟩ := iV_lt hy
      have hi := (List.getElem?_eq_some_iff.mp hx).1
      have I := swS_ok nd pm i (by omega)
      have smU : Same H' (upd H' U (.tup [.int (i : Nat), .int x])) := same_upd hU
      have s1 := sm'.trans smU
      have kN1 := smU _ _ kN'
      have kS1 := smU _ _ kS'
      have tv1 := tupsV_same smU tv
      have kU : (upd H' U (.tup [.int (i : Nat), .int x])) U = some (.tup [.int (i : Nat), .int x]) := upd_same
      generalize upd H' U (.tup [.int (i : Nat), .int x]) = H2 at s1 kN1 kS1 tv1 kU ⊢
      clear smU sm' kN' kS' tv hU hy
      have xi : ws.getD i 0 = x := by rw [List.getD_eq_getElem?_getD, hx]; rfl
      have e1 : swS ns ws (i + 1) = if (swS ns ws i).1.getD i 0 = ws.getD i 0 then ((swS ns ws i).1, (swS ns ws i).2) else (xch (swS ns ws i).1 i (ixOf (swS ns ws i).1 (ws.getD i 0)), (swS ns ws i).2 ++ [(i, ixOf (swS ns ws i).1 (ws.getD i 0))]) := rfl
      have swl : (swS ns ws i).2.length ≤ i := by have := I.cnt; omega
      have hxm : x ∈ (swS ns ws i).1 := by
        have := I.at_ i (by omega)
        rw [hx] at this
        exact List.mem_of_getElem? this
      have len := I.len
      have nd1 := I.nd
      rw [e1, xi]
      generalize (swS ns ws i).1 = l1 at *
      generalize (swS ns ws i).2 = sw at *
      have il : i < l1.length := by omega
      refine ⟨U, [.int (i : Nat), .int x], rfl, .inl (.inl kU), rfl, _, _, rfl, _, _, rfl, rfl, ?_⟩
      refine ⟨.ref N, rfl, .int (i : Nat), rfl, N, _, (i : Nat), .int (l1.getD i 0), rfl, rfl, .inl (.inl kN1), atI_nat (by rw [List.getElem?_map, getD_at il]; rfl), .int x, rfl, rfl, _, rfl, ?_⟩
      rw [int_eqV]
      by_cases e : l1.getD i 0 = x
      · rw [decide_eq_true e, if_pos e]
        exact iteF ⟨⟨_, _, _, rfl⟩, s1, kN1, us, kS1, tv1⟩
      · rw [decide_eq_false e, if_neg e]
        obtain ⟨aj, jl⟩ := ixOf_at hxm
        generalize ixOf l1 x = j at aj jl ⊢
        refine iteT ⟨.ref N, rfl, .inl ⟨rfl, _, .inl (.inl kN1)⟩, .int x, rfl, N, _, .int x, j, .int x, rfl, rfl, .inl (.inl kN1), rfl, flat_ints _, by rw [List.getElem?_map, aj]; rfl, by rw [eqV_int]; simp, fun m z hm hz => ?_, ?_⟩
        · obtain ⟨z1, hz1, rfl⟩ := iV_lt hz
          rw [eqV_int]
          refine decide_eq_false fun e2 => ?_
          rw [e2] at hz1
          have := at_one nd1 hz1 aj
          omega
        · refine ⟨.ref N, rfl, .int (i : Nat), rfl, .int (j : Nat), rfl, N, l1, i, j, rfl, kN1, il, jl, fun H3 keep k3 => ?_⟩
          have kS3 := keep S (Ne.symm NS) _ kS1
          have s3 : Same H H3 := fun b o hb => keep b (ne_of_none hb hN) _ (s1 _ _ hb)
          have tv3 : TupsV H3 us (prA ps sw) := tupsV_imp (fun b xs hb => keep b (fun z => by rw [z, kN1] at hb; cases hb) _ hb) tv1
          have ul := tupsV_len tv3
          unfold prA at ul
          rw [List.length_map] at ul
          refine ⟨.ref S, rfl, .inl ⟨rfl, _, .inl (.inl kS3)⟩, .ref f, rfl, .int (i : Nat), rfl, f, _, (i : Nat), .ref (ps.getD i 0), rfl, rfl, .inl (.inl (s3 _ _ hf)), atI_nat (refs_at (by omega)), .ref f, rfl, .int (j : Nat), rfl, f, _, (j : Nat), .ref (ps.getD j 0), rfl, rfl, .inl (.inl (s3 _ _ hf)), atI_nat (refs_at (by omega)), (by show 2 ≤ sizeLine; decide), fun t ht => ?_⟩
          have s4 := same_upd (o := .tup [.ref (ps.getD i 0), .ref (ps.getD j 0)]) ht
          have kS4 := s4 _ _ kS3
          refine ⟨S, _, _, rfl, rfl, kS4, by rw [List.length_map]; exact small1000 (by omega), ⟨_, _, _, rfl⟩, same_of (s3.trans s4) hS0, ?_, us ++ [t], ?_, ?_⟩
          · rw [upd_ne NS]
            exact s4 _ _ k3
          · rw [upd_same, List.map_append]
            rfl
          · have h9 : TupsV (upd H3 t (.tup [.ref (ps.getD i 0), .ref (ps.getD j 0)])) (us ++ [t]) (prA ps (sw ++ [(i, j)])) := by
              unfold prA
              rw [List.map_append]
              exact tupsV_snocC upd_same (tupsV_same s4 tv3)
            refine tupsV_imp (fun b xs hb => ?_) h9
            rw [upd_ne (fun z => by rw [z, kS4] at hb; cases hb)]
            exact hb
    · subst es
      rw [List.length_map, wl] at tv
      exact ⟨.ref S, rfl, q H' S us sm' hS0 kS' tv⟩
end
end Sv
set_option maxHeartbeats 8000000
namespace Sv
open PySem PySem.Spec PyProof.Rows L2 LamX NdefX
theorem tups_paired {K : PySem.W.Frag} {H : Hp} {f : Int → Int} : ∀ {us : List Addr} {ss : List (List Int)}, TupsV H us (ss.map fun l => (l.map f).map V.int) → Paired (fun q s => SqT K H q (s.map V.int)) us (ss.map (List.map f))
  | _, [], h => by cases h; exact .nil
  | _, s :: ss, h => by
    cases h with
    | cons a t => exact .cons (.inl (.inl a)) (tups_paired t)
section
variable {P : Program} {w : World} {K : PySem.W.Frag} {mg : Str → Option Value} {base : Heap}
theorem scTu : FnScope ["_law_row", "_law_by"] ["_law_row", "_law_by"] (defScope sTurned) := ⟨rfl, rfl, rfl, by decide +kernel, rfl, by decide +kernel, by decide +kernel⟩
def spTu (K : PySem.W.Frag) : Sp := fun vs H Q _ => ∃ (r : Addr) (xs : List V) (k : Nat), vs = [.ref r, .int (k : Nat)] ∧ SqT K H r xs ∧ xs.length ≤ 900 ∧ ∀ H' u, Same H H' → SqT K H' u (rotl k xs) → Q (.ref u) H'
theorem ok_tu (T : Bd P K mg) : FnOk P w K mg base CX0 1 T.aLTurned T.dLTurned ["_law_row", "_law_by"] (spTu K) := by
  refine T.LTurned.F.ok scTu (fun vs H Q E h => ?_) (fun cdv A outer s H vs Q E hr h => ?_)
  · obtain ⟨r, xs, k, rfl, _⟩ := h
    rfl
  · obtain ⟨r, xs, k, rfl, hR, hl, q⟩ := h
    refine ⟨_, pss_one (ps_ret (pe_op op_catQ (pe_slice sl_tupQ (pv 0) (po_some (pv 1)) (po_none)) (pe_slice sl_tupQ (pv 0) (po_none) (po_some (pv 1))))), ?_⟩
    refine ⟨.ref r, rfl, .int (k : Nat), rfl, _, rfl, sl_go hR fun H1 a s1 c1 => ?_⟩
    rw [cut_from] at c1
    refine ⟨.ref r, rfl, .int (k : Nat), rfl, _, rfl, sl_go (sqT_same s1 hR) fun H2 b s2 c2 => ?_⟩
    rw [cut_to] at c2
    exact cat_go (sqT_same s2 c1) c2 (by rw [List.length_drop, List.length_take]; omega) fun H3 u s3 c3 => q H3 u ((s1.trans s2).trans s3) c3
def nRn : List Str := ["_law_state_here", "_law_shelves", "_law_shelf", "_law_parcel"]
theorem scRn : FnScope nRn ["_law_state_here"] (defScope sRenamed) := ⟨rfl, rfl, rfl, by decide +kernel, rfl, by decide +kernel, by decide +kernel⟩
def spRn (K : PySem.W.Frag) : Sp := fun vs H Q _ => ∃ (s : Addr) (t : Int) (L : Lay Int), vs = [.ref s] ∧ StateAt K H s t L ∧ LSm L ∧ NewSt K H t (mapL (fun x => 1000 - x) L) Q
theorem ok_rn (T : Bd P K mg) : FnOk P w K mg base CX0 1 T.aLRenamed T.dLRenamed ["_law_state_here"] (spRn K) := by
  refine T.LRenamed.F.ok scRn (fun vs H Q E h => ?_) (fun cdv A outer s H vs Q E hr h => ?_)
  · obtain ⟨s, t, L, rfl, _⟩ := h
    rfl
  · obtain ⟨s, t, L, rfl, hs, hl, q⟩ := h
    refine ⟨_, pss_cons (ps_set (i := 1) scRn.nd rfl (Or.inl rfl) (pe_lst pa_nil))
      (pss_cons (ps_for PassesOwn.never rfl (pi_tup (pe_ix ix_tup (pv 0) (pe_int) (fun _ _ => rfl))) (pg_name (i := 2) scRn.nd rfl (Or.inl rfl))
        (pss_one (ps_expr (pe_bm PySem.F.plainAttrs_list PySem.F.slot_list_append PySem.F.type_list_append mt_append (pv 1) (pa_cons (pe_callTy call_tuple_of (by rfl) T.bt.tuple b_tuple (pa_cons (pe_lc (own := [("_law_parcel", 3)]) (g := gName 3) (tt := tYes) (te := tOp (rI0 fun i j => .int (i - j)) (tC (.int 1000)) (tVar 3)) rfl scRn.nd (pi_tup (pv 2)) (blkOk_by (N := nRn) (sc := defScope sRenamed) (by decide +kernel)) (fun _ _ _ _ _ => pg_name (i := 3) scRn.nd rfl (Or.inl rfl)) (fun _ _ _ _ _ => pts_nil) (fun _ _ _ _ _ => pe_op op_sub (pe_int) (pv 3))) pa_nil)) pa_nil)))))
      (pss_one (ps_ret (pe_tup (pa_cons (pe_ix ix_tup (pv 0) (pe_int) (fun _ _ => rfl)) (pa_cons (pe_callTy call_tuple_of (by rfl) T.bt.tuple b_tuple (pa_cons (pe_lc (own := [("_law_parcel", 3)]) (g := gName 3) (tt := tYes) (te := tOp (rI0 fun i j => .int (i - j)) (tC (.int 1000)) (tVar 3)) rfl scRn.nd (pi_tup (pe_ix ix_tup (pv 0) (pe_int) (fun _ _ => rfl))) (blkOk_by (N := nRn) (sc := defScope sRenamed) (by decide +kernel)) (fun _ _ _ _ _ => pg_name (i := 3) scRn.nd rfl (Or.inl rfl)) (fun _ _ _ _ _ => pts_nil) (fun _ _ _ _ _ => pe_op op_sub (pe_int) (pv 3))) pa_nil)) (pa_cons (pe_callTy call_tuple_of (by rfl) T.bt.tuple b_tuple (pa_cons (pv 1) pa_nil)) pa_nil))))))), ?_⟩
    have eS : L2.start nRn [.ref s] = [some (.ref s), none, none, none] := rfl
    rw [eS]
    obtain ⟨ca, sh, hs1, hL⟩ := hs.ex
    obtain ⟨qs, hS1, hS2⟩ := hL.s
    have hql := segT_len hS2
    refine ⟨Nat.zero_le _, fun D hD => ?_⟩
    have sm0 := same_upd (o := .lst []) hD
    have kD : (upd H D (.lst [])) D = some (.lst (([] : List Addr).map V.ref)) := upd_same
    generalize upd H D (.lst []) = H1 at sm0 kD ⊢
    refine ⟨.ref s, rfl, s, _, 2, .ref sh, rfl, rfl, sqT_same sm0 hs1, rfl, sh, rfl, ⟨_, sqT_same sm0 hS1⟩, for_tup (xs := qs.map V.ref) (fun i σ H' => (∃ y2 y3, σ = [some (.ref s), some (.ref D), y2, y3]) ∧ Same H H' ∧ ∃ us : List Addr, H' D = some (.lst (us.map V.ref)) ∧ TupsV H' us ((L.2.take i).map fun l => (l.map fun x => 1000 - x).map V.int))
      ⟨⟨_, _, rfl⟩, sm0, [], kD, .nil⟩ (fun i σ H' _ h => sqT_same h.2.1 hS1) (fun i v σ H' hv ⟨⟨y2, y3, es⟩, sm, us, kD', tv⟩ => ?_) (fun σ H' ⟨⟨y2, y3, es⟩, sm, us, kD', tv⟩ => ?_)⟩
    · subst es
      obtain ⟨q1, hq1, rfl⟩ := refs_lt hv
      obtain ⟨s1, hs3, hq2⟩ := segT_at hS2 hq1
      have sl := hl.2.2 s1 (List.mem_of_getElem? hs3)
      refine ⟨.ref D, rfl, .inl ⟨rfl, _, .inl (.inl kD')⟩, .ref q1, rfl, q1, rfl, ⟨_, sqT_same sm hq2⟩, fun R hR => lc_tup (xs := s1.map V.int) (fun j H9 => Same H' H9 ∧ H9 R = some (.lst (((s1.take j).map fun x => 1000 - x).map V.int)))
        ⟨same_upd hR, upd_same⟩ (fun j H9 _ h => sqT_same (sm.trans h.1) hq2) (fun j x H9 hx ⟨sm9, kR⟩ => ?_) (fun H9 ⟨sm9, kR⟩ => ?_)⟩
      · obtain ⟨x1, hx1, rfl⟩ := iV_lt hx
        have jl := (List.getElem?_eq_some_iff.mp hx1).1
        refine ⟨rfl, yes_go ⟨.int x1, rfl, _, _, rfl, rfl, _, kR, ?_, same_of sm9 hR, ?_⟩⟩
        · rw [List.length_map, List.length_map, List.length_take]
          exact small1000 (by omega)
        · rw [upd_same, List.take_add_one, hx1, List.map_append, List.map_append]
          rfl
      · rw [List.length_map, List.take_length] at kR
        refine ⟨R, _, rfl, .inl ⟨.inl (.inl kR), fun l hl9 => ?_⟩⟩
        have smU := sm9.trans (same_upd (o := .tup ((s1.map fun x => 1000 - x).map V.int)) hl9)
        have kU : (upd H9 l (.tup ((s1.map fun x => 1000 - x).map V.int))) l = some (.tup ((s1.map fun x => 1000 - x).map V.int)) := upd_same
        generalize upd H9 l (.tup ((s1.map fun x => 1000 - x).map V.int)) = H10 at smU kU ⊢
        have kD9 := smU _ _ kD'
        have ul := tupsV_len tv
        rw [List.length_map, List.length_take] at ul
        have l2 := hl.2.1
        refine ⟨D, _, _, rfl, rfl, kD9, by rw [List.length_map]; exact small1000 (by omega), ⟨_, _, rfl⟩, same_of (sm.trans smU) hD, us ++ [l], by rw [upd_same, List.map_append]; rfl, ?_⟩
        have h9 : TupsV H10 (us ++ [l]) ((L.2.take i).map (fun l => (l.map fun x => 1000 - x).map V.int) ++ [(s1.map fun x => 1000 - x).map V.int]) := tupsV_snocC kU (tupsV_same smU tv)
        have e9 : (L.2.take (i + 1)).map (fun l => (l.map fun x => 1000 - x).map V.int) = (L.2.take i).map (fun l => (l.map fun x => 1000 - x).map V.int) ++ [(s1.map fun x => 1000 - x).map V.int] := by
          rw [List.take_add_one, hs3, List.map_append]
          rfl
        rw [e9]
        refine tupsV_imp (fun b xs hb => ?_) h9
        rw [upd_ne (fun z => by rw [z, kD9] at hb; cases hb)]
        exact hb
    · subst es
      rw [List.length_map, hql, List.take_length] at tv
      refine ⟨.ref s, rfl, s, _, 0, .int t, rfl, rfl, sqT_same sm hs1, rfl, .ref s, rfl, s, _, 1, .ref ca, rfl, rfl, sqT_same sm hs1, rfl, ca, rfl, ⟨_, sqT_same sm hL.c⟩, fun R hR => lc_tup (xs := L.1.map V.int) (fun j H9 => Same H' H9 ∧ H9 R = some (.lst (((L.1.take j).map fun x => 1000 - x).map V.int)))
        ⟨same_upd hR, upd_same⟩ (fun j H9 _ h => sqT_same (sm.trans h.1) hL.c) (fun j x H9 hx ⟨sm9, kR⟩ => ?_) (fun H9 ⟨sm9, kR⟩ => ?_)⟩
      · obtain ⟨x1, hx1, rfl⟩ := iV_lt hx
        have jl := (List.getElem?_eq_some_iff.mp hx1).1
        have l1 := hl.1
        refine ⟨rfl, yes_go ⟨.int x1, rfl, _, _, rfl, rfl, _, kR, ?_, same_of sm9 hR, ?_⟩⟩
        · rw [List.length_map, List.length_map, List.length_take]
          exact small1000 (by omega)
        · rw [upd_same, List.take_add_one, hx1, List.map_append, List.map_append]
          rfl
      · rw [List.length_map, List.take_length] at kR
        refine ⟨R, _, rfl, .inl ⟨.inl (.inl kR), fun l hl9 => ?_⟩⟩
        have smU := sm9.trans (same_upd (o := .tup ((L.1.map fun x => 1000 - x).map V.int)) hl9)
        have kU : (upd H9 l (.tup ((L.1.map fun x => 1000 - x).map V.int))) l = some (.tup ((L.1.map fun x => 1000 - x).map V.int)) := upd_same
        generalize upd H9 l (.tup ((L.1.map fun x => 1000 - x).map V.int)) = H10 at smU kU ⊢
        refine ⟨.ref D, rfl, D, _, rfl, .inl ⟨.inl (.inl (smU _ _ kD')), fun l2 hl2 => ⟨(by show 3 ≤ sizeLine; decide), fun u hu => ?_⟩⟩⟩
        have sm2 := same_upd (o := .tup (us.map V.ref)) hl2
        have sm3 := same_upd (o := .tup [.int t, .ref l, .ref l2]) hu
        have smA := (sm.trans smU).trans (sm2.trans sm3)
        refine q _ u smA (Same.free ((sm.trans smU).trans sm2) hu) ⟨l, l2, .inl (.inl upd_same), ⟨.inl (.inl ((sm2.trans sm3) _ _ kU)), us, .inl (.inl (sm3 _ _ upd_same)), ?_⟩⟩
        exact tups_paired (tupsV_same (smU.trans (sm2.trans sm3)) tv)
end
end Sv
set_option maxHeartbeats 4000000
namespace Sv
open PySem PySem.Spec PyProof.Rows L2
/-- what should be there ahead of the ticks -/
noncomputable def wanL (zs : List Int) (rs : List Ro) (t c : Int) (gs : List Int) : List Int := (effT rs.length zs rs t c).map fun i => gs.getD i 0
theorem eff_range {e : List Nat} (E : Eff e) : e.Perm (List.range e.length) := by
  refine (List.perm_ext_iff_of_nodup E.2 List.nodup_range).mpr fun x => ⟨fun hx => List.mem_range.mpr (E.1 x hx), fun hx => ?_⟩
  have hx' := List.mem_range.mp hx
  have h1 := ap_at (e := e) (x := ap (inv e) x) (by
    have := ap_lt (inv_eff E) (x := x) (by rw [inv_len]; exact hx')
    rwa [inv_len] at this)
  rw [ap_inv E hx'] at h1
  exact List.mem_of_getElem? h1
theorem wanL_perm {zs : List Int} {rs : List Ro} {t c : Int} {gs : List Int} (h : gs.length = rs.length + sumN zs) : (wanL zs rs t c gs).Perm gs := by
  unfold wanL
  have p := (eff_range (effT_eff rs.length zs rs t c)).map fun i => gs.getD i 0
  rw [effT_len, ← h, map_getD 0 gs] at p
  exact p
/-- a list of swaps: pairs of places -/
structure SwAt (H : Hp) (r : Addr) (sw : List (Nat × Nat)) (zs : List Int) (n : Nat) : Prop where
  ex : ∃ us ps : List Addr, H r = some (.lst (us.map V.ref)) ∧ TupsV H us (prA ps sw) ∧ TupsV H ps (placesV zs n)
theorem SwAt.same {H H' : Hp} {r : Addr} {sw : List (Nat × Nat)} {zs : List Int} {n : Nat} (h : SwAt H r sw zs n) (e : Same H H') : SwAt H' r sw zs n := by
  obtain ⟨us, ps, h1, h2, h3⟩ := h.ex
  exact ⟨us, ps, e _ _ h1, tupsV_same e h2, tupsV_same e h3⟩
noncomputable def swL (zs : List Int) (rs : List Ro) (t c : Int) (L : Lay Int) (gs : List Int) : List (Nat × Nat) := (swS (join L) (wanL zs rs t c gs) (join L).length).2
section
variable {P : Program} {w : World} {K : PySem.W.Frag} {mg : Str → Option Value} {base : Heap}
theorem scPlS : FnScope ["plan", "state", "goal", "count", "parcels", "effect", "target"] ["plan", "state", "goal", "count"] (defScope sPlanSwaps) := ⟨rfl, rfl, rfl, by decide +kernel, rfl, by decide +kernel, by decide +kernel⟩
def spPlS (K : PySem.W.Frag) (C CS CA CC : Addr) : Sp := fun vs H Q E => ∃ (p s g : Addr) (zs : List Int) (rs : List Ro) (t c : Int) (L : Lay Int) (gs : List Int), vs = [.ref p, .ref s, .ref g, .int c] ∧ PlanAt K H p zs rs ∧ Small zs rs ∧ StateAt K H s t L ∧ SqT K H g (gs.map V.int) ∧ gs.length ≤ 1000 ∧ BadE C zs rs H E ∧
  (bad zs rs = none → ¬ StOk zs rs t L → ∀ H', Same H H' → E (.ref CS) none H') ∧
  (bad zs rs = none → StOk zs rs t L → ¬ GoalOk gs (join L) → ∀ H', Same H H' → E (.ref CA) none H') ∧
  (bad zs rs = none → StOk zs rs t L → GoalOk gs (join L) → ¬ CtOk c → ∀ H', Same H H' → E (.ref CC) none H') ∧
  (bad zs rs = none → StOk zs rs t L → GoalOk gs (join L) → CtOk c → ∀ H' r, Same H H' → H r = none → SwAt H' r (swL zs rs t c L gs) zs rs.length → Q (.ref r) H')
theorem ok_plS (T : Bd P K mg) : FnOk P w K mg base (L2.CX P w) 6 T.aPlanSwaps T.dPlanSwaps ["plan", "state", "goal", "count"] (spPlS K T.C T.CS T.CAr T.CC) := by
  have GP : FnOk P w K mg base (L2.CX P w) 4 T.aCheckPlan T.dCheckPlan ["plan"] (spCheckPlan K T.C) := ok_checkPlan T
  have GS : FnOk P w K mg base (L2.CX P w) 3 T.aCheckState T.dCheckState ["plan", "state"] (spCheckState K T.CS) := ok_checkState T
  have GI : FnOk P w K mg base CX0 2 T.aParcelsIn T.dParcelsIn ["state"] (spParcelsIn K) := ok_parcelsIn T
  have GK : FnOk P w K mg base (L2.CX P w) 3 T.aCheckArr T.dCheckArr ["parcels", "goal"] (spCheckArr K T.CAr) := ok_checkArr T
  have GC : FnOk P w K mg base (L2.CX P w) 3 T.aCheckCount T.dCheckCount ["count"] (spCheckCount T.CC) := ok_checkCount T
  have GF : FnOk P w K mg base CX0 5 T.aEffectTicks T.dEffectTicks ["plan", "time", "count"] (spEffectTicks K) := ok_effectTicks T
  have GO : FnOk P w K mg base CX0 1 T.aPlacesOf T.dPlacesOf ["plan"] (spPlacesOf K) := ok_placesOf T
  have GB : FnOk P w K mg base CX0 2 T.aSwapsBetween T.dSwapsBetween ["found", "parcels", "wanted"] (spSwB K) := ok_swB T
  refine T.PlanSwaps.F.okX scPlS (fun vs H Q E h => ?_) (fun cdv A outer s H vs Q E hr h => ?_)
  · obtain ⟨p, s, g, zs, rs, t, c, L, gs, rfl, _⟩ := h
    rfl
  · obtain ⟨p, s, g, zs, rs, t, c, L, gs, rfl, hp, hs, hst, hG, gl, q1, q2, q3, q4, q5⟩ := h
    refine ⟨_, (pss_cons (ps_expr (pe_call (E := E) GP (hr.mono (by decide)) (by rfl) T.CheckPlan.g T.CheckPlan.F.kp T.CheckPlan.b .nil (passes_call (takes_of rfl rfl rfl rfl) fun _ _ _ _ h => h) (pa_cons (pv 0) pa_nil)))
      (pss_cons (ps_expr (pe_call (E := E) GS (hr.mono (by decide)) (by rfl) T.CheckState.g T.CheckState.F.kp T.CheckState.b .nil (passes_call (takes_of rfl rfl rfl rfl) fun _ _ _ _ h => h) (pa_cons (pv 0) (pa_cons (pv 1) pa_nil))))
      (pss_cons (ps_set (i := 4) scPlS.nd rfl (Or.inl rfl) (pe_call (E := E0) GI (hr.mono (by decide)) (by rfl) T.ParcelsIn.g T.ParcelsIn.F.kp T.ParcelsIn.b .nil pass0 (pa_cons (pv 1) pa_nil)))
      (pss_cons (ps_expr (pe_call (E := E) GK (hr.mono (by decide)) (by rfl) T.CheckArr.g T.CheckArr.F.kp T.CheckArr.b .nil (passes_call (takes_of rfl rfl rfl rfl) fun _ _ _ _ h => h) (pa_cons (pv 4) (pa_cons (pv 2) pa_nil))))
      (pss_cons (ps_expr (pe_call (E := E) GC (hr.mono (by decide)) (by rfl) T.CheckCount.g T.CheckCount.F.kp T.CheckCount.b .nil (passes_call (takes_of rfl rfl rfl rfl) fun _ _ _ _ h => h) (pa_cons (pv 3) pa_nil)))
      (pss_cons (ps_set (i := 5) scPlS.nd rfl (Or.inl rfl) (pe_call (E := E0) GF hr (by rfl) T.EffectTicks.g T.EffectTicks.F.kp T.EffectTicks.b .nil pass0 (pa_cons (pv 0) (pa_cons (pe_ix ix_tup (pv 1) pe_int (fun _ _ => rfl)) (pa_cons (pv 3) pa_nil)))))
      (pss_one (ps_ret (pe_call (E := E0) GB (hr.mono (by decide)) (by rfl) T.SwapsBetween.g T.SwapsBetween.F.kp T.SwapsBetween.b .nil pass0 (pa_cons (pe_call (E := E0) GO (hr.mono (by decide)) (by rfl) T.PlacesOf.g T.PlacesOf.F.kp T.PlacesOf.b .nil pass0 (pa_cons (pv 0) pa_nil)) (pa_cons (pv 4) (pa_cons (pe_lc (own := [("target", 6)]) (g := gName 6) (tt := tYes) (te := tOp (rIxT K) (tVar 2) (tVar 6)) rfl scPlS.nd (pi_tup (pv 5)) (blkOk_by (N := ["plan", "state", "goal", "count", "parcels", "effect", "target"]) (sc := defScope sPlanSwaps) (by decide +kernel)) (fun _ _ _ _ _ => pg_name (i := 6) scPlS.nd rfl (Or.inl rfl)) (fun _ _ _ _ _ => pts_nil) (fun _ _ _ _ _ => (pe_ix ix_tup (pv 2) (pv 6) (fun _ _ => rfl)))) pa_nil)))))))))))), ?_⟩
    refine ⟨.ref p, rfl, p, zs, rs, rfl, hp, hs, fun e1 H1 sm1 => ?_, q1⟩
    have hv := val_of e1
    have hn := hv.num
    refine ⟨.ref p, rfl, .ref s, rfl, p, s, zs, rs, t, L, rfl, hp.same sm1, hv, hst.same sm1, fun hok H2 sm2 => ?_, fun hno H2 sm2 => q2 e1 hno H2 (sm1.trans sm2)⟩
    have smA := sm1.trans sm2
    have jl := join_len hok.f
    refine ⟨.ref s, rfl, s, t, L, rfl, hst.same smA, by omega, fun H3 f sm3 nf kf => ?_⟩
    have smB := smA.trans sm3
    refine ⟨.ref f, rfl, .ref g, rfl, f, g, join L, gs, rfl, .inl (.inl kf), sqT_same smB hG, by omega, gl, fun hgo H4 sm4 => ?_, fun hno H4 sm4 => q3 e1 hok hno H4 (smB.trans sm4)⟩
    have smC := smB.trans sm4
    refine ⟨.int c, rfl, c, rfl, fun hc => ?_, fun hc => q4 e1 hok hgo hc H4 smC⟩
    obtain ⟨ca, sh, hs1, hL⟩ := (hst.same smC).ex
    refine ⟨.ref p, rfl, .ref s, rfl, s, _, 0, .int t, rfl, rfl, hs1, rfl, .int c, rfl, p, t, c, zs, rs, rfl, hp.same smC, hv, .inl fun H5 ef sm5 nef kef => ?_⟩
    have smD := smC.trans sm5
    refine ⟨.ref p, rfl, p, zs, rs, rfl, hp.same smD, hv.toGood, fun H6 fo sm6 nfo tlo => ?_⟩
    obtain ⟨ps, kfo, tvo⟩ := tlo.ex
    have smE := smD.trans sm6
    have kef6 := sm6 _ _ kef
    have el := effT_len rs.length zs rs t c
    have eE := effT_eff rs.length zs rs t c
    have gl2 := hgo.1
    refine ⟨.ref f, rfl, .ref ef, rfl, ef, rfl, ⟨_, .inl (.inl kef6)⟩, fun D hD => lc_tup (xs := vN (effT rs.length zs rs t c)) (fun i H' => Same H6 H' ∧ H' D = some (.lst (((wanL zs rs t c gs).take i).map V.int))) ⟨same_upd hD, upd_same⟩ (fun i H' _ h => .inl (.inl (h.1 _ _ kef6))) (fun i x H' hx ⟨sm, kD⟩ => ?_) (fun H' ⟨sm, kD⟩ => ?_)⟩
    · obtain ⟨hi, rfl⟩ := vN_lt hx
      have hlt := ap_lt eE hi
      have hgi : gs[ap (effT rs.length zs rs t c) i]? = some (gs.getD (ap (effT rs.length zs rs t c) i) 0) := getD_at (by omega)
      refine ⟨rfl, yes_go ⟨.ref g, rfl, .int (ap (effT rs.length zs rs t c) i : Nat), rfl, g, _, (ap (effT rs.length zs rs t c) i : Nat), .int (gs.getD (ap (effT rs.length zs rs t c) i) 0), rfl, rfl, sqT_same (smE.trans sm) hG, atI_nat (by rw [List.getElem?_map, hgi]; rfl), _, kD, ?_, same_of sm hD, ?_⟩⟩
      · rw [List.length_map, List.length_take]
        exact small1000 (by unfold wanL; rw [List.length_map]; omega)
      · have : (wanL zs rs t c gs)[i]? = some (gs.getD (ap (effT rs.length zs rs t c) i) 0) := by
          unfold wanL
          rw [List.getElem?_map, ap_at hi]
          rfl
        rw [upd_same, List.take_add_one, this, List.map_append]
        rfl
    · have wll : (vN (effT rs.length zs rs t c)).length = (wanL zs rs t c gs).length := by unfold wanL; rw [vN_len, List.length_map]
      rw [wll, List.take_length] at kD
      have kf9 := sm _ _ (sm6 _ _ (sm5 _ _ (sm4 _ _ kf)))
      have pl := placesV_len zs rs.length fun z hz => (hv.z2 z hz).1
      have tl := tupsV_len tvo
      refine ⟨fo, f, D, join L, wanL zs rs t c gs, ps, rfl, sm _ _ kfo, kf9, kD, (wanL_perm (by rw [gl2, jl])).trans hgo.2.2, hok.p.2, by omega, by omega, fun H9 r us sm9 nr kr tv => ?_⟩
      exact q5 e1 hok hgo hc H9 r (smE.trans (sm.trans sm9)) (Same.free smE (Same.free sm nr)) ⟨us, ps, kr, tv, tupsV_same (sm.trans sm9) tvo⟩
theorem scFew : FnScope ["plan", "state", "goal", "count"] ["plan", "state", "goal", "count"] (defScope sFewest) := ⟨rfl, rfl, rfl, by decide +kernel, rfl, by decide +kernel, by decide +kernel⟩
def spFew (K : PySem.W.Frag) (C CS CA CC : Addr) : Sp := fun vs H Q E => ∃ (p s g : Addr) (zs : List Int) (rs : List Ro) (t c : Int) (L : Lay Int) (gs : List Int), vs = [.ref p, .ref s, .ref g, .int c] ∧ PlanAt K H p zs rs ∧ Small zs rs ∧ StateAt K H s t L ∧ SqT K H g (gs.map V.int) ∧ gs.length ≤ 1000 ∧ BadE C zs rs H E ∧
  (bad zs rs = none → ¬ StOk zs rs t L → ∀ H', Same H H' → E (.ref CS) none H') ∧
  (bad zs rs = none → StOk zs rs t L → ¬ GoalOk gs (join L) → ∀ H', Same H H' → E (.ref CA) none H') ∧
  (bad zs rs = none → StOk zs rs t L → GoalOk gs (join L) → ¬ CtOk c → ∀ H', Same H H' → E (.ref CC) none H') ∧
  (bad zs rs = none → StOk zs rs t L → GoalOk gs (join L) → CtOk c → ∀ H', Same H H' → Q (.int ((swL zs rs t c L gs).length : Nat)) H')
theorem ok_few (T : Bd P K mg) : FnOk P w K mg base (L2.CX P w) 7 T.aFewest T.dFewest ["plan", "state", "goal", "count"] (spFew K T.C T.CS T.CAr T.CC) := by
  have GP : FnOk P w K mg base (L2.CX P w) 6 T.aPlanSwaps T.dPlanSwaps ["plan", "state", "goal", "count"] (spPlS K T.C T.CS T.CAr T.CC) := ok_plS T
  refine T.Fewest.F.okX scFew (fun vs H Q E h => ?_) (fun cdv A outer s H vs Q E hr h => ?_)
  · obtain ⟨p, s, g, zs, rs, t, c, L, gs, rfl, _⟩ := h
    rfl
  · obtain ⟨p, s, g, zs, rs, t, c, L, gs, rfl, hp, hs, hst, hG, gl, q1, q2, q3, q4, q5⟩ := h
    refine ⟨_, (pss_one (ps_ret (pe_callB call_len_seq (by rfl) T.bt.len b_len (pa_cons (pe_call (E := E) GP (hr.mono (by decide)) (by rfl) T.PlanSwaps.g T.PlanSwaps.F.kp T.PlanSwaps.b .nil (passes_call (takes_of rfl rfl rfl rfl) fun _ _ _ _ h => h) (pa_cons (pv 0) (pa_cons (pv 1) (pa_cons (pv 2) (pa_cons (pv 3) pa_nil))))) pa_nil)))), ?_⟩
    refine ⟨.ref p, rfl, .ref s, rfl, .ref g, rfl, .int c, rfl, p, s, g, zs, rs, t, c, L, gs, rfl, hp, hs, hst, hG, gl, q1, q2, q3, q4, fun e1 hok hgo hc H1 r sm nr sw => ?_⟩
    obtain ⟨us, ps, kr, tv, _⟩ := sw.ex
    have ul := tupsV_len tv
    unfold prA at ul
    rw [List.length_map] at ul
    refine ⟨r, _, rfl, .inl (.inl (.inl kr)), ?_⟩
    rw [List.length_map, ul]
    exact q5 e1 hok hgo hc H1 sm
end
end Sv
set_option maxHeartbeats 4000000
set_option exponentiation.threshold 2000
namespace Sv
open PySem PySem.Spec PyProof.Rows L2 NdefX
section
variable {P : Program} {w : World} {K : PySem.W.Frag} {mg : Str → Option Value} {base : Heap}
/-- what is wanted where InvalidSwap(i) is raised -/
def SwapE (C : Addr) (H : Hp) (i : Int) (Q : XK) : Prop := ∀ (H' : Hp) (dd : Addr) (fs : List (Str × V)), Same H H' → H' dd = some (.xd fs) → fs.lookup ("index" : Str) = some (V.int i) → Q (.ref C) (some dd) H'
theorem SwapE.imp {C : Addr} {H H1 : Hp} {i : Int} {Q : XK} (h : SwapE C H i Q) (e : Same H H1) : SwapE C H1 i Q := fun H' dd fs sm => h H' dd fs (e.trans sm)
end
end Sv
set_option maxHeartbeats 4000000
namespace Sv
open PySem PySem.Spec PyProof.Rows L2
/-- a value that should be a swap: the numbers of its places, or none -/
def SwV (K : PySem.W.Frag) (H : Hp) (ts : List (List V)) (v : V) : Option (Nat × Nat) → Prop
  | some ij => ∃ (u a b : Addr) (pa pb : List V), v = .ref u ∧ SqT K H u [.ref a, .ref b] ∧ SqT K H a pa ∧ SqT K H b pb ∧ ts[ij.1]? = some pa ∧ ts[ij.2]? = some pb ∧ pa ≠ pb
  | none => (v = .non ∨ (∃ (a : Addr) (xs : List V), v = .ref a ∧ SqL K H a xs) ∨ ∃ (a : Addr) (xs : List V), v = .ref a ∧ SqT K H a xs ∧ xs.length ≠ 2) ∨
    ∃ (u a b : Addr) (pa pb : List V), v = .ref u ∧ SqT K H u [.ref a, .ref b] ∧ SqT K H a pa ∧ SqT K H b pb ∧ FlP pa ∧ FlP pb ∧ ¬ (pa ∈ ts ∧ pb ∈ ts ∧ pa ≠ pb)
theorem sqL_same2 {K : PySem.W.Frag} {H H' : Hp} (e : Same H H') {a : Addr} {xs : List V} (h : SqL K H a xs) : SqL K H' a xs := by
  rcases h with (z | ⟨o, z⟩) | z
  · exact .inl (.inl (e _ _ z))
  · exact .inl (.inr ⟨o, e _ _ z⟩)
  · exact .inr z
theorem SwV.same {K : PySem.W.Frag} {H H' : Hp} (e : Same H H') {ts : List (List V)} {v : V} : ∀ {o : Option (Nat × Nat)}, SwV K H ts v o → SwV K H' ts v o
  | some ij, ⟨u, a, b, pa, pb, h1, h2, h3, h4, h5⟩ => ⟨u, a, b, pa, pb, h1, sqT_same e h2, sqT_same e h3, sqT_same e h4, h5⟩
  | none, h => by
    rcases h with (h | ⟨a, xs, h1, h2⟩ | ⟨a, xs, h1, h2, h3⟩) | ⟨u, a, b, pa, pb, h1, h2, h3, h4, h5⟩
    · exact .inl (.inl h)
    · exact .inl (.inr (.inl ⟨a, xs, h1, sqL_same2 e h2⟩))
    · exact .inl (.inr (.inr ⟨a, xs, h1, sqT_same e h2, h3⟩))
    · exact .inr ⟨u, a, b, pa, pb, h1, sqT_same e h2, sqT_same e h3, sqT_same e h4, h5⟩
end Sv
set_option maxHeartbeats 8000000
namespace Sv
open PySem PySem.Spec PyProof.Rows L2 LamX NdefX
/-- the lambda at f, told by the maker's names js -/
def LamIs (X : Cx) (k : Nat) (H : Hp) (f : Addr) (js : List Nat) (tl : List (Option V) → XK → Hp → VK → Prop) : Prop :=
  ∃ (L : LF) (fr : List Str) (dvs : List V), H f = some (LamO f L) ∧ H L.c = some (CodeO L.c L.qual) ∧ DflAt H L.dV dvs ∧ LOk X.prog X.w X.K X.mg X.base k f L fr dvs tl ∧ (X.Ok → Caps X L.cl fr js)
theorem DflAt.ext {H H1 : Hp} {dV : Value} {dvs : List V} (d : DflAt H dV dvs) (e : ExtN H H1) : DflAt H1 dV dvs := by
  rcases d with ⟨a, b⟩ | ⟨a, T, b, c⟩
  · exact .inl ⟨a, b⟩
  · exact .inr ⟨a, T, b, e _ _ c (fun ps z => nomatch z)⟩
theorem LamIs.ext {X : Cx} {k : Nat} {H H1 : Hp} {f : Addr} {js : List Nat} {tl : List (Option V) → XK → Hp → VK → Prop} (h : LamIs X k H f js tl) (e : ExtN H H1) : LamIs X k H1 f js tl := by
  obtain ⟨L, fr, dvs, h1, h2, h3, h4, h5⟩ := h
  exact ⟨L, fr, dvs, e _ _ h1 (fun ps => lamO_tbl ps), e _ _ h2 codeO_ne, h3.ext e, h4, h5⟩
end Sv
set_option maxHeartbeats 8000000
namespace Sv
open PySem PySem.Spec PyProof.Rows L2 LamX NdefX
/-- all but lists and tables stay -/
def ExtL (H H1 : Hp) : Prop := ∀ b o, H b = some o → (∀ xs, o ≠ .lst xs) → (∀ ps, o ≠ .tbl ps) → H1 b = some o
theorem ExtL.refl (H : Hp) : ExtL H H := fun _ _ e _ _ => e
theorem ExtL.trans {H H1 H2 : Hp} (a : ExtL H H1) (b : ExtL H1 H2) : ExtL H H2 := fun c o e n m => b c o (a c o e n m) n m
theorem ExtL.n {H H1 : Hp} (e : ExtN H H1) : ExtL H H1 := fun b o h _ m => e b o h m
theorem ExtL.s {H H1 : Hp} (e : Same H H1) : ExtL H H1 := fun b o h _ _ => e b o h
theorem ExtL.x {H H1 : Hp} {h l : Addr} (L : LawH H h l) (e : SameX h l H H1) : ExtL H H1 := fun b o hb n _ => by
  obtain ⟨m, i, cs, e1, e2, _⟩ := L.ex
  refine e b o (fun z => ?_) (fun z => ?_) hb
  · rw [z, e1] at hb
    exact n _ (Option.some.inj hb).symm
  · rw [z, e2] at hb
    exact n _ (Option.some.inj hb).symm
theorem ExtL.upd {H : Hp} {p : Addr} {xs : List V} {o : HO} (h : H p = some (.lst xs)) : ExtL H (L2.upd H p o) := fun b u e n _ => by
  rw [upd_ne (fun z => by rw [z, h] at e; exact n _ (Option.some.inj e).symm)]
  exact e
/-- the law's source and its table -/
structure LS (T : List (Addr × Str)) (h l : Addr) (H : Hp) : Prop where
  law : LawH H h l
  tabs : Tabs T H
theorem LawH.ext {H H' : Hp} {h l : Addr} (x : LawH H h l) (e : ExtN H H') : LawH H' h l := by
  obtain ⟨m, i, cs, e1, e2, e3⟩ := x.ex
  exact ⟨m, i, cs, e _ _ e1 (fun _ z => nomatch z), e _ _ e2 (fun _ z => nomatch z), e3⟩
theorem tabs_x {T : List (Addr × Str)} {H H1 : Hp} {h l : Addr} (t : Tabs T H) (L : LawH H h l) (e : SameX h l H H1) : Tabs T H1 := fun p hp => by
  obtain ⟨ps, h1, h2, h3⟩ := t p hp
  obtain ⟨m, i, cs, e1, e2, _⟩ := L.ex
  refine ⟨ps, e _ _ (fun z => ?_) (fun z => ?_) h1, h2, fun pos cv hc => ?_⟩
  · rw [z, e1] at h1
    cases h1
  · rw [z, e2] at h1
    cases h1
  · obtain ⟨c, q1, q2⟩ := h3 pos cv hc
    exact ⟨c, q1, ExtL.x L e _ _ q2 (fun _ z => by unfold CodeO at z; cases z) codeO_ne⟩
theorem LS.x {T : List (Addr × Str)} {h l : Addr} {H H1 : Hp} (a : LS T h l H) (L : LawH H1 h l) (e : SameX h l H H1) : LS T h l H1 := ⟨L, tabs_x a.tabs a.law e⟩
theorem LS.s {T : List (Addr × Str)} {h l : Addr} {H H1 : Hp} (a : LS T h l H) (e : Same H H1) : LS T h l H1 := ⟨a.law.same e, a.tabs.ext e⟩
theorem LS.e {T : List (Addr × Str)} {h l : Addr} {H H1 : Hp} (a : LS T h l H) (e : ExtN H H1) (t : Tabs T H1) : LS T h l H1 := ⟨a.law.ext e, t⟩
end Sv
set_option maxHeartbeats 4000000
namespace Sv
open PySem PySem.Spec PyProof.Rows L2 LamX NdefX
/-- as many swaps as there are parcels without the wheels -/
theorem sw_wheels {zs : List Int} {rs : List Ro} {t c : Int} {L : Lay Int} {gs : List Int} (hf : Fits rs.length zs L) (nd : (join L).Nodup) (pm : gs.Perm (join L)) :
    (swL zs rs t c L gs).length + cn gs.length (mnP fun p => ixOf (join (advA 0 zs rs t c L)) (gs.getD p 0)) = gs.length := by
  have jl := join_len hf
  have gl : gs.length = rs.length + sumN zs := by rw [pm.length_eq, jl]
  have wp : (wanL zs rs t c gs).Perm (join L) := (wanL_perm gl).trans pm
  have wl : (wanL zs rs t c gs).length = rs.length + sumN zs := by rw [wp.length_eq, jl]
  have E := effT_eff rs.length zs rs t c
  have el := effT_len rs.length zs rs t c
  have lp : (join (advA 0 zs rs t c L)).Perm (join L) := advA_perm t c hf
  have ndl : (join (advA 0 zs rs t c L)).Nodup := lp.nodup_iff.mpr nd
  have ll : (join (advA 0 zs rs t c L)).length = rs.length + sumN zs := join_len (advA_fits ..)
  have P1 := gW_pm nd wp
  have pl : gs.Perm (join (advA 0 zs rs t c L)) := pm.trans lp.symm
  have P2 := gW_pm ndl pl
  have cnt := swS_cnt nd wp
  rw [jl] at P1 cnt
  rw [ll] at P2
  have inv1 := inv_eff E
  have key : cn (rs.length + sumN zs) (mxP (gW (join L) (wanL zs rs t c gs))) = cn (rs.length + sumN zs) (mnP (gW (join (advA 0 zs rs t c L)) gs)) := by
    refine cn_conj P1 P2 (ap (effT rs.length zs rs t c)) (ap (inv (effT rs.length zs rs t c))) (fun p hp => ?_) (fun p hp => ?_) (fun p hp => ap_inv E (by rw [el]; exact hp)) (fun p hp => ?_) (fun p hp => ?_)
    · have := ap_lt E (x := p) (by rw [el]; exact hp)
      rwa [el] at this
    · have := ap_lt inv1 (x := p) (by rw [inv_len, el]; exact hp)
      rwa [inv_len, el] at this
    · have hq : ap (effT rs.length zs rs t c) p < rs.length + sumN zs := by
        have := ap_lt E (x := p) (by rw [el]; exact hp)
        rwa [el] at this
      have h1 := ap_inv E (q := ap (effT rs.length zs rs t c) p) (by rw [el]; exact hq)
      refine ap_inj E ?_ (by rw [el]; exact hp) h1
      have := ap_lt inv1 (x := ap (effT rs.length zs rs t c) p) (by rw [inv_len, el]; exact hq)
      rwa [inv_len] at this
    · have hq : ap (effT rs.length zs rs t c) p < rs.length + sumN zs := by
        have := ap_lt E (x := p) (by rw [el]; exact hp)
        rwa [el] at this
      have wat : (wanL zs rs t c gs).getD p 0 = gs.getD (ap (effT rs.length zs rs t c) p) 0 := by
        rw [List.getD_eq_getElem?_getD]
        unfold wanL
        rw [List.getElem?_map, ap_at (by rw [el]; exact hp)]
        rfl
      have gm : gs.getD (ap (effT rs.length zs rs t c) p) 0 ∈ join L := pm.mem_iff.mp (List.mem_of_getElem? (getD_at (by omega)))
      have a1 := (ixOf_at gm).1
      have a2 := loc_at (t := t) (c := c) hf a1
      have a3 := (ixOf_at (lp.mem_iff.mpr gm)).1
      show ap (effT rs.length zs rs t c) (ixOf (join L) ((wanL zs rs t c gs).getD p 0)) = ixOf (join (advA 0 zs rs t c L)) (gs.getD (ap (effT rs.length zs rs t c) p) 0)
      rw [wat]
      exact at_one ndl a2 a3
  rw [key] at cnt
  unfold swL
  rw [jl, gl]
  exact cnt
@[irreducible] def qFew (K : PySem.W.Frag) (C CS CA CC : Addr) : Sp := spFew K C CS CA CC
section
variable {P : Program} {w : World} {K : PySem.W.Frag} {mg : Str → Option Value} {base : Heap}
theorem few_ok7 (T : Bd P K mg) : FnOk P w K mg base (L2.CX P w) 7 T.aFewest T.dFewest ["plan", "state", "goal", "count"] (qFew K T.C T.CS T.CAr T.CC) := by
  unfold qFew
  exact ok_few T
theorem few_ok (T : Bd P K mg) : FnOk P w K mg base (L2.CX P w) 12 T.aFewest T.dFewest ["plan", "state", "goal", "count"] (qFew K T.C T.CS T.CAr T.CC) := (few_ok7 T).mono (by decide)
end
section
variable {K : PySem.W.Frag} {H : Hp} {p s g r : Addr} {zs : List Int} {rs : List Ro} {t c : Int} {L : Lay Int} {gs : List Int} {Q : VK} {E : XK} {C CS CA CC CW : Addr}
theorem go_few (X : PS0 K H p s zs rs t L) (hg : SqT K H g (gs.map V.int)) (gl : gs.length ≤ 1000) (q1 : ¬ GoalOk gs (join L) → ∀ H', Same H H' → E (.ref CA) none H') (q2 : GoalOk gs (join L) → ¬ CtOk c → ∀ H', Same H H' → E (.ref CC) none H')
    (q3 : GoalOk gs (join L) → CtOk c → ∀ H', Same H H' → Q (.int ((swL zs rs t c L gs).length : Nat)) H') : qFew K C CS CA CC [.ref p, .ref s, .ref g, .int c] H Q E := by
  unfold qFew
  exact ⟨p, s, g, zs, rs, t, c, L, gs, rfl, X.p, X.v.small, X.s, hg, gl, (fun part i e => by rw [X.v.bad] at e; cases e), fun _ h => absurd X.o h, fun _ _ => q1, fun _ _ => q2, fun _ _ => q3⟩
end
end Sv
set_option maxHeartbeats 1000000
namespace Sv
def widL {α : Type} (a b : α) (L : Lay α) : Lay α := (L.1 ++ [a], L.2 ++ [[b]])
theorem step1_wid {α : Type} {a b : α} {L : Lay α} {p : Nat × Nat} (h1 : p.1 < L.1.length) (h2 : p.2 < L.2.length) : step1 (widL a b L) p = widL a b (step1 L p) := by
  unfold step1 widL
  show (match (L.1 ++ [a])[p.1]?, (L.2 ++ [[b]])[p.2]? with
    | some x, some row => ((L.1 ++ [a]).set p.1 (row.headD x), (L.2 ++ [[b]]).set p.2 (row ++ [x]).tail)
    | _, _ => (L.1 ++ [a], L.2 ++ [[b]])) = _
  rw [List.getElem?_append_left h1, List.getElem?_append_left h2, List.getElem?_eq_getElem h1, List.getElem?_eq_getElem h2]
  show (_, _) = (_, _)
  rw [List.set_append_left _ _ h1, List.set_append_left _ _ h2]
theorem step1_carT {α : Type} (L : Lay α) (p : Nat × Nat) : (step1 L p).1.length = L.1.length := by
  unfold step1
  cases L.1[p.1]? with
  | none => rfl
  | some x =>
    cases L.2[p.2]? with
    | none => rfl
    | some row => exact List.length_set
theorem steps_widT {α : Type} {a b : α} : ∀ (ps : List (Nat × Nat)) {L : Lay α}, (∀ p ∈ ps, p.1 < L.1.length ∧ p.2 < L.2.length) → steps ps (widL a b L) = widL a b (steps ps L)
  | [], _, _ => rfl
  | p :: ps, L, h => by
    show steps ps (step1 (widL a b L) p) = widL a b (steps ps (step1 L p))
    obtain ⟨h1, h2⟩ := h p (List.mem_cons_self ..)
    rw [step1_wid h1 h2]
    exact steps_widT ps fun q hq => by rw [step1_carT, step1_many]; exact h q (List.mem_cons_of_mem _ hq)
theorem prs_app (rs xs : List Ro) (m : Int) : ∀ K, K ≤ rs.length → prs (rs ++ xs) m K = prs rs m K
  | 0, _ => rfl
  | K + 1, h => by
    unfold prs
    rw [prs_app rs xs m K (by omega), List.getElem?_append_left (by omega)]
theorem vis_wid (rs : List Ro) (m : Int) : vis (rs ++ [[none]]) m = vis rs m := by
  unfold vis
  congr 1
  rw [List.length_append, List.length_singleton]
  show prs (rs ++ [[none]]) m rs.length ++ (match (rs ++ [[none]])[rs.length]? with | some r => (match ent r m with | some z => [(rs.length, z)] | none => []) | none => []) = _
  rw [prs_app rs _ m _ (Nat.le_refl _), List.getElem?_append_right (Nat.le_refl _), Nat.sub_self]
  have e : ent [none] m = none := by
    unfold ent
    rw [List.getD_eq_getElem?_getD]
    cases h : ([none] : Ro)[(m % (([none] : Ro).length : Int)).toNat]? with
    | none => rfl
    | some e =>
      have := List.mem_of_getElem? h
      rw [List.mem_singleton.mp this]
      rfl
  show prs rs m rs.length ++ (match ent [none] m with | some z => [(rs.length, z)] | none => []) = _
  rw [e]
  exact List.append_nil _
theorem vis_lt1 (rs : List Ro) (m : Int) : ∀ p ∈ vis rs m, p.1 < rs.length := fun p hp => by
  unfold vis at hp
  obtain ⟨q, hq, rfl⟩ := List.mem_map.mp hp
  exact prs_lt rs m _ q hq
theorem run_carT {α : Type} (rs : List Ro) (t : Int) : ∀ (c : Nat) (L : Lay α), (run rs t c L).1.length = L.1.length
  | 0, _ => rfl
  | c + 1, L => by
    show (steps _ (run rs t c L)).1.length = _
    have : ∀ (ps : List (Nat × Nat)) (M : Lay α), (steps ps M).1.length = M.1.length := fun ps => by
      induction ps with
      | nil => intro M; rfl
      | cons p ps ih =>
        intro M
        show (steps ps (step1 M p)).1.length = _
        rw [ih, step1_carT]
    rw [this, run_carT rs t c]
theorem run_wid {α : Type} {a b : α} {n : Nat} {rs : List Ro} (h : ∀ r ∈ rs, ∀ e ∈ r, okE n e = true) (t : Int) : ∀ (c : Nat) {L : Lay α}, L.1.length = rs.length → L.2.length = n → run (rs ++ [[none]]) t c (widL a b L) = widL a b (run rs t c L)
  | 0, _, _, _ => rfl
  | c + 1, L, h1, h2 => by
    show steps (vis (rs ++ [[none]]) (t + (c : Nat))) (run (rs ++ [[none]]) t c (widL a b L)) = widL a b (steps (vis rs (t + (c : Nat))) (run rs t c L))
    rw [run_wid h t c h1 h2, vis_wid]
    exact steps_widT _ fun p hp => ⟨by rw [run_carT, h1]; exact vis_lt1 rs _ p hp, by rw [run_many, h2]; exact vis_lt h _ p hp⟩
theorem lc_wid (rs : List Ro) : lc (rs ++ [[none]]) = lc rs := by
  rw [lc_snoc]
  have e : rtp ([none] : Ro) = 1 := by
    obtain ⟨a, _, _, d⟩ := rtp_spec (r := ([none] : Ro)) (fun z => nomatch z)
    have : ([none] : Ro).length = 1 := rfl
    omega
  rw [e, Nat.lcm_one_right]
theorem fits_wid {α : Type} {a b : α} {n : Nat} {zs : List Int} {L : Lay α} (h : Fits n zs L) : Fits (n + 1) (zs ++ [1]) (widL a b L) := by
  refine ⟨?_, ?_⟩
  · show (L.1 ++ [a]).length = _
    rw [List.length_append, List.length_singleton, h.1]
  · show (L.2 ++ [[b]]).map List.length = (zs ++ [1]).map Int.toNat
    rw [List.map_append, List.map_append, h.2]
    rfl
/-- many ticks, with them -/
theorem adv_wid {α : Type} (d : α) {a b : α} {zs : List Int} {rs : List Ro} (hr : ∀ r ∈ rs, r ≠ [] ∧ ∀ e ∈ r, okE zs.length e = true) (hp : 1 ≤ lc rs) (t : Int) (c : Nat) {L : Lay α} (hf : Fits rs.length zs L) : advA d (zs ++ [1]) (rs ++ [[none]]) t (c : Nat) (widL a b L) = widL a b (advA d zs rs t (c : Nat) L) := by
  have ne2 : ∀ r ∈ rs ++ [[none]], r ≠ [] := fun r hm => by
    rcases List.mem_append.mp hm with h | h
    · exact (hr r h).1
    · rw [List.mem_singleton.mp h]
      exact fun z => nomatch z
  have f2 : Fits (rs ++ [[none]]).length (zs ++ [1]) (widL a b L) := by rw [List.length_append, List.length_singleton]; exact fits_wid hf
  have l2 : L.2.length = zs.length := by
    have := congrArg List.length hf.2
    rwa [List.length_map, List.length_map] at this
  rw [advA_nat d (zs ++ [1]) ne2 (by rw [lc_wid]; exact hp) t c f2, advA_nat d zs (fun r hm => (hr r hm).1) hp t c hf]
  exact run_wid (fun r hm => (hr r hm).2) t c hf.1 l2
theorem adv_map {α β : Type} (f : α → β) (d : α) (d2 : β) {zs : List Int} {rs : List Ro} (hr : ∀ r ∈ rs, r ≠ []) (hp : 1 ≤ lc rs) (t : Int) (c : Nat) {L : Lay α} (hf : Fits rs.length zs L) : advA d2 zs rs t (c : Nat) (mapL f L) = mapL f (advA d zs rs t (c : Nat) L) := by
  have f2 : Fits rs.length zs (mapL f L) := by
    refine ⟨by show (L.1.map f).length = _; rw [List.length_map, hf.1], ?_⟩
    show (L.2.map (List.map f)).map List.length = _
    rw [List.map_map, ← hf.2]
    exact List.map_congr_left fun l _ => List.length_map f
  rw [advA_nat d2 zs hr hp t c f2, advA_nat d zs hr hp t c hf]
  exact run_map ..
theorem adv_shift {α : Type} (d : α) {zs : List Int} {rs : List Ro} (hr : ∀ r ∈ rs, r ≠ []) (hp : 1 ≤ lc rs) (t : Int) {s : Int} (hs : (lc rs : Int) ∣ s) (c : Int) (L : Lay α) : advA d zs rs (t + s) c L = advA d zs rs t c L := by
  unfold advA
  rw [effT_mod rs.length zs hr hp (m := t + s) (m' := t) (by rw [show t + s - t = s by omega]; exact hs) c]
end Sv
set_option maxHeartbeats 4000000
set_option maxHeartbeats 4000000
set_option maxHeartbeats 4000000
namespace Sv
open PySem PySem.Spec PyProof.Rows L2
theorem idx_at2 {l : List Int} (nd : l.Nodup) {i : Nat} {x : Int} (h : l[i]? = some x) : l.idxOf x = i := by
  obtain ⟨hi, e⟩ := List.getElem?_eq_some_iff.mp h
  have h1 : l.idxOf x < l.length := List.idxOf_lt_length_iff.mpr (List.mem_of_getElem? h)
  have h2 : l[l.idxOf x] = x := List.getElem_idxOf h1
  exact (List.getElem_inj nd).mp (h2.trans e.symm)
/-- the family of a parcel: those at the places of its cycle -/
noncomputable def famX (cs : List Int) (b : List Nat) (x : Int) : List Int := (cyc b (cs.idxOf x)).map fun q => cs.getD q 0
theorem famX_len (cs : List Int) (b : List Nat) (x : Int) : (famX cs b x).length = per b (cs.idxOf x) := by
  unfold famX
  rw [List.length_map, cyc_len]
open Classical in
noncomputable def famS (cs : List Int) (b : List Nat) (acc : List (List Int)) (x : Int) : List (List Int) := if x ∈ acc.flatten then acc else acc ++ [famX cs b x]
noncomputable def fams (cs : List Int) (b : List Nat) (xs : List Int) : List (List Int) := xs.foldl (famS cs b) []
theorem fams_snoc (cs : List Int) (b : List Nat) (xs : List Int) (x : Int) : fams cs b (xs ++ [x]) = famS cs b (fams cs b xs) x := by
  unfold fams
  rw [List.foldl_append]
  rfl
theorem fams_take {cs : List Int} {b : List Nat} {xs : List Int} {i : Nat} {x : Int} (h : xs[i]? = some x) : fams cs b (xs.take (i + 1)) = famS cs b (fams cs b (xs.take i)) x := by
  rw [List.take_add_one, h]
  exact fams_snoc _ _ _ _
theorem famS_yes {cs : List Int} {b : List Nat} {acc : List (List Int)} {x : Int} (h : x ∈ acc.flatten) : famS cs b acc x = acc := by
  unfold famS
  rw [if_pos h]
theorem famS_no {cs : List Int} {b : List Nat} {acc : List (List Int)} {x : Int} (h : x ∉ acc.flatten) : famS cs b acc x = acc ++ [famX cs b x] := by
  unfold famS
  rw [if_neg h]
theorem fams_len (cs : List Int) (b : List Nat) : ∀ xs : List Int, (fams cs b xs).length ≤ xs.length := by
  intro xs
  refine snoc_ind (P := fun xs => (fams cs b xs).length ≤ xs.length) (Nat.le_refl _) (fun l a ih => ?_) xs
  rw [fams_snoc, List.length_append]
  unfold famS
  split
  · exact Nat.le_succ_of_le ih
  · rw [List.length_append]
    exact Nat.succ_le_succ ih
theorem fams_mem (cs : List Int) (b : List Nat) : ∀ xs : List Int, ∀ r ∈ fams cs b xs, ∃ x ∈ xs, r = famX cs b x := by
  intro xs
  refine snoc_ind (P := fun xs => ∀ r ∈ fams cs b xs, ∃ x ∈ xs, r = famX cs b x) (fun r h => by cases h) (fun l a ih r hr => ?_) xs
  rw [fams_snoc] at hr
  unfold famS at hr
  split at hr
  · obtain ⟨x, h1, h2⟩ := ih r hr
    exact ⟨x, List.mem_append_left _ h1, h2⟩
  · rcases List.mem_append.mp hr with h | h
    · obtain ⟨x, h1, h2⟩ := ih r h
      exact ⟨x, List.mem_append_left _ h1, h2⟩
    · exact ⟨a, by simp, List.mem_singleton.mp h⟩
/-- a list of lists of numbers -/
def RowsI (H : Hp) (f : Addr) (ss : List (List Int)) : Prop := ∃ rw : List Addr, H f = some (.lst (rw.map V.ref)) ∧ RowV H rw (ss.map (List.map V.int)) ∧ f ∉ rw
theorem RowsI.push {H : Hp} {f l : Addr} {ss : List (List Int)} {r : List Int} (h : RowsI H f ss) (hl : H l = some (.lst (r.map V.int))) (n : l ≠ f) : ∃ acc, H f = some (.lst acc) ∧ acc.length = ss.length ∧ RowsI (upd H f (.lst (acc ++ [.ref l]))) f (ss ++ [r]) := by
  obtain ⟨rw, h1, h2, h3⟩ := h
  have e := rowV_len h2
  rw [List.length_map] at e
  refine ⟨rw.map V.ref, h1, by rw [List.length_map, e], rw ++ [l], ?_, ?_, ?_⟩
  · rw [upd_same, List.map_append]
    rfl
  · rw [List.map_append]
    refine rowV_snoc (by rw [upd_ne n]; exact hl) (rowV_imp (fun q hq o ho => ?_) h2)
    rw [upd_ne (fun z => h3 (by rw [← z]; exact hq))]
    exact ho
  · intro hm
    rcases List.mem_append.mp hm with hm | hm
    · exact h3 hm
    · exact n (List.mem_singleton.mp hm).symm
theorem RowsI.dk {H : Hp} {f d : Addr} {ss : List (List Int)} {kvs : List (Key × V)} {o : HO} (h : RowsI H f ss) (hd : H d = some (.dK kvs)) : RowsI (upd H d o) f ss := by
  obtain ⟨rw, h1, h2, h3⟩ := h
  refine ⟨rw, by rw [upd_ne (fun z => by rw [z, hd] at h1; cases h1)]; exact h1, rowV_imp (fun q hq o ho => ?_) h2, h3⟩
  obtain ⟨xs, hx⟩ := rowV_mem h2 hq
  rw [upd_ne (fun z => by rw [z, hd] at hx; cases hx)]
  exact ho
theorem RowsI.same {H H' : Hp} {f : Addr} {ss : List (List Int)} (h : RowsI H f ss) (e : Same H H') : RowsI H' f ss := by
  obtain ⟨rw, h1, h2, h3⟩ := h
  exact ⟨rw, e _ _ h1, rowV_imp (fun q _ o ho => e _ _ ho) h2, h3⟩
section
variable {P : Program} {w : World} {K : PySem.W.Frag} {mg : Str → Option Value} {base : Heap}
theorem scFamilies : FnScope ["plan", "state", "parcels", "back", "found", "done", "parcel", "family", "member", "place"] ["plan", "state"] (defScope sFamilies) := ⟨rfl, rfl, rfl, by decide +kernel, rfl, by decide +kernel, by decide +kernel⟩
def nFm : List Str := ["plan", "state", "parcels", "back", "found", "done", "parcel", "family", "member", "place"]
def spFamilies (K : PySem.W.Frag) (C CS : Addr) : Sp := fun vs H Q E => ∃ (p s : Addr) (zs : List Int) (rs : List Ro) (t : Int) (L : Lay Int), vs = [.ref p, .ref s] ∧ PlanAt K H p zs rs ∧ Small zs rs ∧ StateAt K H s t L ∧ BadE C zs rs H E ∧
  (bad zs rs = none → ¬ StOk zs rs t L → ∀ H', Same H H' → E (.ref CS) none H') ∧
  (bad zs rs = none → StOk zs rs t L → ∀ ys : List Int, ys.Perm (join L) → ys.Pairwise (· ≤ ·) → ∀ H' f, Same H H' → RowsI H' f (fams (join L) (inv (wh rs.length zs rs t)) ys) → Q (.ref f) H')
theorem ok_families (T : Bd P K mg) : FnOk P w K mg base (L2.CX P w) 6 T.aFamilies T.dFamilies ["plan", "state"] (spFamilies K T.C T.CS) := by
  have GP : FnOk P w K mg base (L2.CX P w) 4 T.aCheckPlan T.dCheckPlan ["plan"] (spCheckPlan K T.C) := ok_checkPlan T
  have GS : FnOk P w K mg base (L2.CX P w) 3 T.aCheckState T.dCheckState ["plan", "state"] (spCheckState K T.CS) := ok_checkState T
  have GI : FnOk P w K mg base CX0 3 T.aLap T.dLap ["self", "plan", "time"] (spLapInit K T.CLap) := ok_lapInit T
  have GI2 : FnOk P w K mg base CX0 2 T.aParcelsIn T.dParcelsIn ["state"] (spParcelsIn K) := ok_parcelsIn T
  have GV : FnOk P w K mg base CX0 1 T.aInverse T.dInverse ["effect"] (spInverse K) := ok_inverse T
  have GC : FnOk P w K mg base CX0 1 T.aCycleFrom T.dCycleFrom ["effect", "start"] (spCycleFrom K) := ok_cycleFrom T
  refine T.Families.F.okX scFamilies (fun vs H Q E h => ?_) (fun cdv A outer s H vs Q E hr h => ?_)
  · obtain ⟨p, s, zs, rs, t, L, rfl, _⟩ := h
    rfl
  · obtain ⟨p, s, zs, rs, t, L, rfl, hp, hs, hst, q1, q2, q3⟩ := h
    have hr1 : Room 4 _ := hr.mono (by decide)
    refine ⟨_, (pss_cons (ps_expr (pe_call (E := E) GP (hr.mono (by decide)) (by rfl) T.CheckPlan.g T.CheckPlan.F.kp T.CheckPlan.b .nil (passes_call (takes_of rfl rfl rfl rfl) fun _ _ _ _ h => h) (pa_cons (pv 0) pa_nil)))
      (pss_cons (ps_expr (pe_call (E := E) GS (hr.mono (by decide)) (by rfl) T.CheckState.g T.CheckState.F.kp T.CheckState.b .nil (passes_call (takes_of rfl rfl rfl rfl) fun _ _ _ _ h => h) (pa_cons (pv 0) (pa_cons (pv 1) pa_nil))))
      (pss_cons (ps_set (i := 2) scFamilies.nd rfl (Or.inr rfl) (pe_call (E := E0) GI2 (hr.mono (by decide)) (by rfl) T.ParcelsIn.g T.ParcelsIn.F.kp T.ParcelsIn.b .nil pass0 (pa_cons (pv 1) pa_nil)))
      (pss_cons (ps_set (i := 3) scFamilies.nd rfl (Or.inl rfl) (pe_call (E := E0) GV (hr.mono (by decide)) (by rfl) T.Inverse.g T.Inverse.F.kp T.Inverse.b .nil pass0 (pa_cons (pe_fld (pe_make T.lap.m GI hr1 (by rfl) T.lap.g T.lap.b .nil pass0 (pa_cons (pv 0) (pa_cons (pe_ix ix_tup (pv 1) pe_int (fun _ _ => rfl)) pa_nil))) rfl) pa_nil)))
      (pss_cons (ps_set (i := 4) scFamilies.nd rfl (Or.inl rfl) (pe_lst pa_nil))
      (pss_cons (ps_set (i := 5) scFamilies.nd rfl (Or.inl rfl) pe_dnewK)
      (pss_cons (ps_for (passes_of rfl) rfl (pi_list (pe_callB cr_sortedI (by rfl) T.bt.sorted (by decide +kernel) (pa_cons (pv 2) pa_nil))) (pg_name (i := 6) scFamilies.nd rfl (.inl rfl)) (pss_one (ps_if (pt_cmp (pc_dnotin (hu_of hr) (pv 6) (pv 5))) (pss_cons (ps_setLc (i := 7) (own := [("place", 9)]) (g := gName 9) (tt := tYes) (te := tOp (rIxL K) (tVar 2) (tVar 9)) rfl scFamilies.nd rfl rfl (sw_true rfl rfl rfl (by decide +kernel)) (pi_tup (pe_call (E := E0) GC (hr.mono (by decide)) (by rfl) T.CycleFrom.g T.CycleFrom.F.kp T.CycleFrom.b .nil pass0 (pa_cons (pv 3) (pa_cons (pe_bm PySem.F.plainAttrs_list PySem.F.slot_list_index PySem.F.type_list_index mt_index (pv 2) (pa_cons (pv 6) pa_nil)) pa_nil)))) (blkOk_by (N := nFm) (sc := defScope sFamilies) (by decide +kernel)) (fun _ _ _ _ _ => pg_name (i := 9) scFamilies.nd rfl (Or.inl rfl)) (fun _ _ _ _ _ => pts_nil) (fun _ _ _ _ _ => pe_ix ix_list (pv 2) (pv 9) (fun _ _ => rfl)))
      (pss_cons (ps_for (passes_of rfl) rfl (pi_list (pv 7)) (pg_name (i := 8) scFamilies.nd rfl (.inl rfl)) (pss_one (ps_dput (hu_of hr) (pv 5) (pv 8) pe_bl rfl)))
      (pss_one (ps_expr (pe_bm PySem.F.plainAttrs_list PySem.F.slot_list_append PySem.F.type_list_append mt_append (pv 4) (pa_cons (pv 7) pa_nil)))))) pss_nil)))
      (pss_one (ps_ret (pv 4)))))))))), ?_⟩
    refine ⟨.ref p, rfl, p, zs, rs, rfl, hp, hs, fun e1 H1 sm1 => ?_, q1⟩
    have hv := val_of e1
    have n120 := hv.num120
    refine ⟨.ref p, rfl, .ref s, rfl, p, s, zs, rs, t, L, rfl, hp.same sm1, hv, hst.same sm1, fun hok H2 sm2 => ?_, fun hno H2 sm2 => q2 e1 hno H2 (sm1.trans sm2)⟩
    have q := q3 e1 hok
    have smA := sm1.trans sm2
    have jl := join_len hok.f
    have nd := hok.p.2
    have wl := wh_len rs.length zs rs t
    have we := wh_eff rs.length zs rs t
    have ie := inv_eff we
    have il := inv_len (wh rs.length zs rs t)
    refine ⟨.ref s, rfl, s, t, L, rfl, hst.same smA, by omega, fun H3 g sm3 ng kg => ?_⟩
    have smB := smA.trans sm3
    obtain ⟨ca, sh, hs1, hL⟩ := (hst.same smB).ex
    refine ⟨.ref p, rfl, .ref s, rfl, s, _, 0, .int t, rfl, rfl, hs1, rfl, fun la dl n1 n2 ne => ⟨la, dl, p, t, zs, rs, rfl, upd_same, (hp.same smB).same (same_of (same_upd n2) n1), hv, fun HL o lap => ⟨rfl, ?_⟩⟩⟩
    have smL := same_make n1 n2 o
    obtain ⟨dx, st, le, ef, fs, srw, lrw, h1, h2, h3, h4, h5, h6, h7, h8, h9, h10⟩ := lap.ex
    refine ⟨la, T.CLap, dx, fs, _, rfl, h1, T.lap.c, T.lap.n4, h5, ef, wh rs.length zs rs t, rfl, .inl (.inl h10), we, by omega, fun H4 bk sm4 nb kb => ?_⟩
    have smC := smL.trans sm4
    have smD := smB.trans smC
    have kg4 := smC _ _ kg
    clear h1 h2 h3 h4 h5 h6 h7 h8 h9 h10 lap o n1 n2 ne hs1 hL
    refine ⟨Nat.zero_le _, fun f hf => fun dn hdn => ⟨.ref g, rfl, g, join L, rfl, .inl (.inl ?_), fun ys r pm so hr => ?_⟩⟩
    · exact (same_of (same_upd hf) (Same.free (same_upd hf) hdn)) _ _ kg4
    · have fdn : f ≠ dn := ne_of_none (upd_same (H := H4) (a := f) (o := .lst [])) hdn
      have kf : (upd (upd (upd H4 f (.lst [])) dn (.dK [])) r (.lst (ys.map V.int))) f = some (.lst []) := by
        have e1 : (upd (upd H4 f (.lst [])) dn (.dK [])) f = some (.lst []) := by rw [upd_ne fdn]; exact upd_same
        rw [upd_ne (ne_of_none e1 hr)]
        exact e1
      have kd : (upd (upd (upd H4 f (.lst [])) dn (.dK [])) r (.lst (ys.map V.int))) dn = some (.dK []) := by
        rw [upd_ne (ne_of_none (upd_same (H := upd H4 f (.lst [])) (a := dn) (o := .dK [])) hr)]
        exact upd_same
      have sm5 : Same H4 (upd (upd (upd H4 f (.lst [])) dn (.dK [])) r (.lst (ys.map V.int))) := ((same_upd hf).trans (same_upd hdn)).trans (same_upd hr)
      have kr : (upd (upd (upd H4 f (.lst [])) dn (.dK [])) r (.lst (ys.map V.int))) r = some (.lst (ys.map V.int)) := upd_same
      have rf : r ≠ f := fun z => by
        have e1 : (upd (upd H4 f (.lst [])) dn (.dK [])) f = some (.lst []) := by rw [upd_ne fdn]; exact upd_same
        rw [z, e1] at hr; cases hr
      have hdn0 : H4 dn = none := by
        have := hdn
        rw [upd_ne (Ne.symm fdn)] at this
        exact this
      generalize upd (upd (upd H4 f (.lst [])) dn (.dK [])) r (.lst (ys.map V.int)) = H5 at kf kd sm5 kr ⊢
      have d0 : ∀ x : Int, (valV ([] : List (Key × V)) (Sum.inl x)).isSome = true ↔ x ∈ (fams (join L) (inv (wh rs.length zs rs t)) (ys.take 0)).flatten := fun x => by simp [fams, valV]
      have ysl : ys.length ≤ 120 := by rw [pm.length_eq]; omega
      refine ⟨r, rfl, ⟨_, .inl (.inl kr)⟩, for_list (xs := ys.map V.int) (fun j σ H' => (∃ x6 x7 x8 x9, σ = [some (.ref p), some (.ref s), some (.ref g), some (.ref bk), some (.ref f), some (.ref dn), x6, x7, x8, x9]) ∧ Same H4 H' ∧ H' r = some (.lst (ys.map V.int)) ∧ RowsI H' f (fams (join L) (inv (wh rs.length zs rs t)) (ys.take j)) ∧
          ∃ kvs, H' dn = some (.dK kvs) ∧ (∀ x, (valV kvs (Sum.inl x)).isSome = true ↔ x ∈ (fams (join L) (inv (wh rs.length zs rs t)) (ys.take j)).flatten) ∧ kvs.length ≤ j * 120)
        ⟨⟨_, _, _, _, rfl⟩, sm5, kr, ⟨[], kf, .nil, by simp⟩, [], kd, d0, Nat.zero_le _⟩ (fun j σ H' _ h => .inl (.inl h.2.2.1)) (fun j v σ H' hv2 ⟨⟨x6, x7, x8, x9, es⟩, sm, kr', rw', kvs, kd', dmem, dlen⟩ => ?_) (fun σ H' ⟨⟨x6, x7, x8, x9, es⟩, sm, kr', rw', kvs, kd', dmem, dlen⟩ => ?_)⟩
      · subst es
        obtain ⟨x, hx, rfl⟩ := iV_lt hv2
        have hjl := (List.getElem?_eq_some_iff.mp hx).1
        refine ⟨.int x, rfl, .ref dn, rfl, dn, _, rfl, .inl ⟨kvs, .inl x, .inl kd', rfl, rfl⟩, _, rfl, ?_⟩
        rw [fams_take hx]
        by_cases hm : x ∈ (fams (join L) (inv (wh rs.length zs rs t)) (ys.take j)).flatten
        · rw [(dmem x).mpr hm, famS_yes hm]
          exact iteF ⟨⟨_, _, _, _, rfl⟩, sm, kr', rw', kvs, kd', dmem, by omega⟩
        · rw [show (valV kvs (Sum.inl x)).isSome = false from Bool.eq_false_iff.mpr fun e => hm ((dmem x).mp e), famS_no hm]
          refine iteT ?_
          obtain ⟨i, hi⟩ := List.mem_iff_getElem?.mp (pm.mem_iff.mp (List.mem_of_getElem? hx))
          have hii := (List.getElem?_eq_some_iff.mp hi).1
          have eix := idx_at2 nd hi
          have kg' := sm _ _ kg4
          have kb' := sm _ _ kb
          have hib : i < (inv (wh rs.length zs rs t)).length := by omega
          have ple := (per_spec ie hib).2.2.2
          refine ⟨.ref bk, rfl, .ref g, rfl, .inl ⟨rfl, _, .inl (.inl kg')⟩, .int x, rfl, g, _, .int x, i, .int x, rfl, rfl, .inl (.inl kg'), rfl, flat_ints _, by rw [List.getElem?_map, hi]; rfl, by rw [eqV_int]; exact decide_eq_true rfl, fun m z hm2 hz => ?_, bk, inv (wh rs.length zs rs t), i, rfl, .inl (.inl kb'), ie, hib, by omega, fun H6 c sm6 nc kc => ?_⟩
          · obtain ⟨y, hy, rfl⟩ := iV_lt hz
            rw [eqV_int]
            refine decide_eq_false fun e => ?_
            rw [e] at hy
            have := nodup_ix nd hy hi
            omega
          have kg6 := sm6 _ _ kg'
          refine ⟨c, rfl, ⟨_, .inl (.inl kc)⟩, fun D hD => lc_tup (xs := vN (cyc (inv (wh rs.length zs rs t)) i)) (fun m G => Same H6 G ∧ G D = some (.lst (((cyc (inv (wh rs.length zs rs t)) i).take m).map fun q => V.int ((join L).getD q 0)))) ⟨same_upd hD, upd_same⟩ (fun m G _ h => .inl (.inl (h.1 _ _ kc))) (fun m v G hv3 ⟨smg, kD⟩ => ?_) (fun G ⟨smg, kD⟩ => ?_)⟩
          · obtain ⟨hml, rfl⟩ := vN_lt hv3
            have hml2 := hml
            rw [cyc_len] at hml2
            have eit : ap (cyc (inv (wh rs.length zs rs t)) i) m = it (inv (wh rs.length zs rs t)) m i := by
              unfold ap
              rw [List.getD_eq_getElem?_getD, cyc_at hml2]
              rfl
            have hlt := it_lt ie (k := m) hib
            rw [eit]
            have hat : (join L)[it (inv (wh rs.length zs rs t)) m i]? = some ((join L).getD (it (inv (wh rs.length zs rs t)) m i) 0) := by
              rw [List.getD_eq_getElem?_getD, List.getElem?_eq_getElem (by omega)]
              rfl
            refine ⟨rfl, yes_go ⟨.ref g, rfl, .int (it (inv (wh rs.length zs rs t)) m i : Nat), rfl, g, _, _, .int ((join L).getD (it (inv (wh rs.length zs rs t)) m i) 0), rfl, rfl, .inl (.inl (smg _ _ kg6)), atI_nat (by rw [List.getElem?_map, hat]; rfl), _, kD, ?_, same_of smg hD, ?_⟩⟩
            · rw [List.length_map, List.length_take, cyc_len]
              exact small1000 (by omega)
            · rw [upd_same, List.take_add_one, cyc_at hml2, Option.toList_some, List.map_append]
              rfl
          rw [vN_len, List.take_length] at kD
          have eD : ((cyc (inv (wh rs.length zs rs t)) i).map fun q => V.int ((join L).getD q 0)) = (famX (join L) (inv (wh rs.length zs rs t)) x).map V.int := by
            unfold famX
            rw [eix, List.map_map]
            rfl
          rw [eD] at kD
          have fxl := famX_len (join L) (inv (wh rs.length zs rs t)) x
          rw [eix] at fxl
          have smG := sm6.trans smg
          have rwG := rw'.same smG
          have kdG := smG _ _ kd'
          have krG := smG _ _ kr'
          have Dn : D ≠ dn := fun z => by rw [z, sm6 _ _ kd'] at hD; cases hD
          have Df : D ≠ f := fun z => by
            obtain ⟨rw1, q1', _, _⟩ := rw'
            rw [z, sm6 _ _ q1'] at hD
            cases hD
          generalize famX (join L) (inv (wh rs.length zs rs t)) x = fx at kD fxl ⊢
          refine ⟨.ref D, rfl, D, rfl, ⟨_, .inl (.inl kD)⟩, for_list (xs := fx.map V.int) (fun m σ H2 => (∃ x8 x9, σ = [some (.ref p), some (.ref s), some (.ref g), some (.ref bk), some (.ref f), some (.ref dn), some (.int x), some (.ref D), x8, x9]) ∧ Same H4 H2 ∧ H2 r = some (.lst (ys.map V.int)) ∧ H2 D = some (.lst (fx.map V.int)) ∧ RowsI H2 f (fams (join L) (inv (wh rs.length zs rs t)) (ys.take j)) ∧
              ∃ kvs, H2 dn = some (.dK kvs) ∧ (∀ x, (valV kvs (Sum.inl x)).isSome = true ↔ x ∈ (fams (join L) (inv (wh rs.length zs rs t)) (ys.take j)).flatten ∨ x ∈ fx.take m) ∧ kvs.length ≤ j * 120 + m)
            ⟨⟨_, _, rfl⟩, sm.trans smG, krG, kD, rwG, kvs, kdG, (fun x => by rw [dmem]; simp), dlen⟩ (fun m σ H2 _ h => .inl (.inl h.2.2.2.1)) (fun m v σ H2 hv4 ⟨⟨x8, x9, es⟩, s1, s2, s3, s4, kv2, s5, s6, s7⟩ => ?_) (fun σ H2 ⟨⟨x8, x9, es⟩, s1, s2, s3, s4, kv2, s5, s6, s7⟩ => ?_)⟩
          · subst es
            obtain ⟨z, hz, rfl⟩ := iV_lt hv4
            have hml := (List.getElem?_eq_some_iff.mp hz).1
            have rn : r ≠ dn := fun z => by rw [z, s5] at s2; cases s2
            refine ⟨.ref dn, rfl, .int z, rfl, dn, _, rfl, DPut.k (k := Sum.inl z) s5 ?_, ⟨_, _, rfl⟩, ?_, by rw [upd_ne rn]; exact s2, by rw [upd_ne Dn]; exact s3, s4.dk s5, _, upd_same, fun x' => ?_, ?_⟩
            · have : j * 120 ≤ 120 * 120 := Nat.mul_le_mul (by omega) (Nat.le_refl _)
              rw [sizeLine_eq]
              omega
            · exact same_of s1 hdn0
            · rw [valV_put]
              have tk : fx.take (m + 1) = fx.take m ++ [z] := by rw [List.take_add_one, hz]; rfl
              rw [tk, List.mem_append, List.mem_singleton]
              by_cases e : x' = z
              · rw [if_pos (by rw [e])]
                exact ⟨fun _ => .inr (.inr e), fun _ => rfl⟩
              · rw [if_neg (fun h => e (Sum.inl.inj h)), s6]
                simp [e]
            · have := length_putK kv2 (Sum.inl z) (.bl true)
              omega
          · subst es
            rw [List.length_map, List.take_length] at s6
            obtain ⟨acc, a1, a2, a3⟩ := s4.push s3 Df
            have fl := fams_len (join L) (inv (wh rs.length zs rs t)) (ys.take j)
            rw [List.length_take] at fl
            refine ⟨.ref f, rfl, .inl ⟨rfl, _, .inl (.inl a1)⟩, .ref D, rfl, f, acc, _, rfl, rfl, a1, small1000 (by omega), ⟨_, _, _, _, rfl⟩, same_of s1 hf, by rw [upd_ne rf]; exact s2, a3, kv2, by rw [upd_ne (Ne.symm fdn)]; exact s5, fun x' => ?_, ?_⟩
            · rw [s6, List.flatten_append, List.flatten_cons, List.flatten_nil, List.append_nil, List.mem_append]
            · rw [List.length_map] at s7
              omega
      · subst es
        rw [List.length_map, List.take_length] at rw'
        exact ⟨.ref f, rfl, q ys pm so H' f (smD.trans sm) rw'⟩
end
end Sv
set_option maxHeartbeats 4000000
namespace Sv
open PySem PySem.Spec PyProof.Rows L2
section
variable {P : Program} {w : World} {K : PySem.W.Frag} {mg : Str → Option Value} {base : Heap}
/-- whom what is at place a meets in a lap -/
noncomputable def rowM (zs : List Int) (rs : List Ro) (t : Int) (a : Nat) : List Bool := (List.range (rs.length + sumN zs)).map fun b => (lapM zs rs t a b).any id
structure TableAt (H : Hp) (d : Addr) (zs : List Int) (rs : List Ro) (t : Int) (i : Nat) : Prop where
  ex : ∃ kvs : List (Key × V), H d = some (.dK kvs) ∧ ∀ m : Nat, ∃ r, valV kvs (Sum.inl (it (wh rs.length zs rs t) m i : Int) : Key) = some (.ref r) ∧ H r = some (.lst (blV (rowM zs rs t (it (wh rs.length zs rs t) m i))))
theorem TableAt.same {H H' : Hp} {d : Addr} {zs : List Int} {rs : List Ro} {t : Int} {i : Nat} (h : TableAt H d zs rs t i) (e : Same H H') : TableAt H' d zs rs t i := by
  obtain ⟨kvs, h1, h2⟩ := h.ex
  exact ⟨kvs, e _ _ h1, fun m => let ⟨r, a, b⟩ := h2 m; ⟨r, a, e _ _ b⟩⟩
end
end Sv
set_option maxHeartbeats 4000000
namespace Sv
open PySem PySem.Spec PyProof.Rows L2
def vFirst (K : PySem.W.Frag) : Sp := fun vs H Q _ => ∃ (p s : Addr) (zs : List Int) (rs : List Ro) (t x y : Int) (L : Lay Int), vs = [.ref p, .ref s, .int x, .int y] ∧ PS0 K H p s zs rs t L ∧ x ∈ join L ∧ y ∈ join L ∧ ∀ H' v, Same H H' → FirstV (mB zs rs t L x y) v → Q v H'
@[irreducible] def qFirst (K : PySem.W.Frag) : Sp := vFirst K
section
variable {K : PySem.W.Frag} {H : Hp} {Q : VK} {E : XK} {p s : Addr} {zs : List Int} {rs : List Ro} {t x y : Int} {L : Lay Int}
theorem go_first (X : PS0 K H p s zs rs t L) (hx : x ∈ join L) (hy : y ∈ join L) (q : ∀ H' v, Same H H' → FirstV (mB zs rs t L x y) v → Q v H') : qFirst K [.ref p, .ref s, .int x, .int y] H Q E := by
  unfold qFirst
  exact ⟨p, s, zs, rs, t, x, y, L, rfl, X, hx, hy, q⟩
end
abbrev passL {X : Cx} : Passes (L2.CX X.prog X.w) X E0 := passes_call L2.takes0 fun _ _ _ _ h => h
section
variable {P : Program} {w : World} {K : PySem.W.Frag} {mg : Str → Option Value} {base : Heap}
theorem first_ok (T : Bd P K mg) : FnOk P w K mg base (L2.CX P w) 12 T.aFirstMeeting T.dFirstMeeting ["plan", "state", "one", "other"] (qFirst K) := by
  unfold qFirst
  refine ((ok_first T).mono (by decide)).imp fun vs H Q E h => ?_
  obtain ⟨p, s, zs, rs, t, x, y, L, rfl, X, hx, hy, q⟩ := h
  have hb := X.bad
  exact ⟨p, s, zs, rs, t, x, y, L, rfl, X.p, X.v.small, X.s, (fun part i e => by rw [hb] at e; cases e), fun _ h => absurd X.o h, fun _ _ h => absurd hx h, fun _ _ _ h => absurd hy h, fun _ _ _ _ => q⟩
end
end Sv
set_option maxHeartbeats 4000000
namespace Sv
open PySem PySem.Spec PyProof.Rows L2
def vTimesLeft (K : PySem.W.Frag) : Sp := fun vs H Q _ => ∃ (p s : Addr) (zs : List Int) (rs : List Ro) (t x y : Int) (i c : Nat) (L : Lay Int), vs = [.ref p, .ref s, .int x, .int y, .int (c : Nat)] ∧ PS0 K H p s zs rs t L ∧ ((join L)[i]? = some x ∧ (0 ≤ y ∧ y < (zs.length : Nat)) ∧ c ≤ 1000000000000000000) ∧ ∀ H', Same H H' → Q (.int (cntM (lfB zs rs t i y) c : Nat)) H'
@[irreducible] def qTimesLeft (K : PySem.W.Frag) : Sp := vTimesLeft K
def vStamps (K : PySem.W.Frag) : Sp := fun vs H Q _ => ∃ (p s : Addr) (zs : List Int) (rs : List Ro) (t x : Int) (i c : Nat) (L : Lay Int), vs = [.ref p, .ref s, .int x, .int (c : Nat)] ∧ PS0 K H p s zs rs t L ∧ ((join L)[i]? = some x ∧ c ≤ 200) ∧ ∀ H' f xs, Same H H' → H f = none → H' f = some (.lst xs) → StampsV (lft zs rs t i) c xs → Q (.ref f) H'
@[irreducible] def qStamps (K : PySem.W.Frag) : Sp := vStamps K
section
variable {K : PySem.W.Frag} {H : Hp} {Q : VK} {E : XK} {p s : Addr} {zs : List Int} {rs : List Ro} {t : Int} {L : Lay Int} {i : Nat}
theorem go_TimesLeft {x y : Int} {c : Nat} (X : PS0 K H p s zs rs t L) (h : (join L)[i]? = some x ∧ (0 ≤ y ∧ y < (zs.length : Nat)) ∧ c ≤ 1000000000000000000) (q : ∀ H', Same H H' → Q (.int (cntM (lfB zs rs t i y) c : Nat)) H') : qTimesLeft K [.ref p, .ref s, .int x, .int y, .int (c : Nat)] H Q E := by
  unfold qTimesLeft
  exact ⟨p, s, zs, rs, t, x, y, i, c, L, rfl, X, h, q⟩
theorem go_Stamps {x : Int} {c : Nat} (X : PS0 K H p s zs rs t L) (h : (join L)[i]? = some x ∧ c ≤ 200) (q : ∀ H' f xs, Same H H' → H f = none → H' f = some (.lst xs) → StampsV (lft zs rs t i) c xs → Q (.ref f) H') : qStamps K [.ref p, .ref s, .int x, .int (c : Nat)] H Q E := by
  unfold qStamps
  exact ⟨p, s, zs, rs, t, x, i, c, L, rfl, X, h, q⟩
end
section
variable {P : Program} {w : World} {K : PySem.W.Frag} {mg : Str → Option Value} {base : Heap}
theorem timesLeft_ok (T : Bd P K mg) : FnOk P w K mg base (L2.CX P w) 12 T.aTimesLeft T.dTimesLeft ["plan", "state", "parcel", "shelf", "count"] (qTimesLeft K) := by
  unfold qTimesLeft
  refine ((ok_timesLeft T).mono (by decide)).imp fun vs H Q E h => ?_
  obtain ⟨p, s, zs, rs, t, x, y, i, c, L, rfl, X, ⟨hi, hy, hc⟩, q⟩ := h
  have hb := X.bad
  have hx := List.mem_of_getElem? hi
  have ht : TkOk (c : Int) := ⟨by omega, by omega⟩
  exact ⟨p, s, zs, rs, t, x, y, (c : Int), L, rfl, X.p, X.v.small, X.s, ⟨fun part i e => (by rw [hb] at e; cases e), fun _ h => absurd X.o h, fun _ _ h => absurd hx h⟩, fun _ _ _ h => absurd hy h, fun _ _ _ _ h => absurd ht h, fun _ _ _ _ i2 hi2 => by rw [nodup_ix X.o.p.2 hi2 hi, Int.toNat_natCast]; exact q⟩
theorem stamps_ok (T : Bd P K mg) : FnOk P w K mg base (L2.CX P w) 12 T.aStamps T.dStamps ["plan", "state", "parcel", "count"] (qStamps K) := by
  unfold qStamps
  refine ((ok_stamps T).mono (by decide)).imp fun vs H Q E h => ?_
  obtain ⟨p, s, zs, rs, t, x, i, c, L, rfl, X, ⟨hi, hc⟩, q⟩ := h
  have hb := X.bad
  have hx := List.mem_of_getElem? hi
  have ht : 0 ≤ (c : Int) ∧ (c : Int) ≤ 200 := ⟨by omega, by omega⟩
  exact ⟨p, s, zs, rs, t, x, (c : Int), L, rfl, X.p, X.v.small, X.s, ⟨fun part i e => (by rw [hb] at e; cases e), fun _ h => absurd X.o h, fun _ _ h => absurd hx h⟩, fun _ _ _ h => absurd ht h, fun _ _ _ i2 hi2 => by rw [nodup_ix X.o.p.2 hi2 hi, Int.toNat_natCast]; exact q⟩
end
end Sv
set_option maxHeartbeats 4000000
namespace Sv
open PySem PySem.Spec PyProof.Rows L2
theorem val_rot {zs : List Int} {rs : List Ro} {k : Nat} (hv : Val zs rs) (hk : k < zs.length) : Val (rotl k zs) (rotR zs.length k rs) := by
  refine ⟨⟨by rw [rotl_len]; exact hv.z1, fun z hz => hv.z2 z ?_, by rw [rotR_len]; exact hv.r1, fun r hr => ?_⟩, fun r hr e he => ?_⟩
  · unfold rotl at hz
    rcases List.mem_append.mp hz with h | h
    · exact List.mem_of_mem_drop h
    · exact List.mem_of_mem_take h
  · unfold rotR at hr
    obtain ⟨r0, h0, rfl⟩ := List.mem_map.mp hr
    rw [List.length_map]
    exact hv.r2 r0 h0
  · unfold rotR at hr
    obtain ⟨r0, h0, rfl⟩ := List.mem_map.mp hr
    obtain ⟨e0, h1, rfl⟩ := List.mem_map.mp he
    rw [rotl_len]
    cases e0 with
    | none => rfl
    | some z =>
      have a1 := Int.emod_nonneg (z - (k : Int)) (b := (zs.length : Int)) (by omega)
      have a2 := Int.emod_lt_of_pos (z - (k : Int)) (b := (zs.length : Int)) (by omega)
      exact decide_eq_true ⟨a1, by show (z - (k : Int)) % (zs.length : Int) ≤ _; omega⟩
theorem stOk_rot {zs : List Int} {rs : List Ro} {t : Int} {L : Lay Int} (k : Nat) (o : StOk zs rs t L) : StOk (rotl k zs) (rotR zs.length k rs) t (rotL k L) :=
  ⟨o.t, by rw [rotR_len]; exact fits_rot o.f, okP_perm (join_rot k L) o.p⟩
theorem val_wid {zs : List Int} {rs : List Ro} (hv : Val zs rs) (zl : zs.length < 12) (rl : rs.length < 6) : Val (zs ++ [1]) (rs ++ [[none]]) := by
  have z1 := hv.z1
  have r1 := hv.r1
  refine ⟨⟨?_, fun z hz => ?_, ?_, fun r hr => ?_⟩, fun r hr e he => ?_⟩
  · rw [List.length_append, List.length_singleton]
    omega
  · rcases List.mem_append.mp hz with h | h
    · exact hv.z2 z h
    · rw [List.mem_singleton.mp h]
      decide
  · rw [List.length_append, List.length_singleton]
    omega
  · rcases List.mem_append.mp hr with h | h
    · exact hv.r2 r h
    · rw [List.mem_singleton.mp h]
      decide
  · rcases List.mem_append.mp hr with h | h
    · have := hv.e r h e he
      cases e with
      | none => rfl
      | some z =>
        have := of_decide_eq_true this
        refine decide_eq_true ⟨this.1, ?_⟩
        rw [List.length_append, List.length_singleton]
        omega
    · rw [List.mem_singleton.mp h] at he
      rw [List.mem_singleton.mp he]
      rfl
theorem join_wid {α : Type} (a b : α) (L : Lay α) : (join (widL a b L)).Perm (a :: (join L ++ [b])) := by
  unfold join widL
  show ((L.1 ++ [a]) ++ (L.2 ++ [[b]]).flatten).Perm _
  rw [List.flatten_append]
  show ((L.1 ++ [a]) ++ (L.2.flatten ++ [b])).Perm (a :: ((L.1 ++ L.2.flatten) ++ [b]))
  rw [List.append_assoc, List.singleton_append, List.append_assoc]
  exact List.perm_middle
theorem join_wid_at {α : Type} (a b : α) (L : Lay α) : (join (widL a b L))[L.1.length]? = some a := by
  unfold join widL
  show ((L.1 ++ [a]) ++ (L.2 ++ [[b]]).flatten)[L.1.length]? = _
  rw [List.getElem?_append_left (by rw [List.length_append, List.length_singleton]; omega), List.getElem?_append_right (Nat.le_refl _), Nat.sub_self]
  rfl
theorem stOk_wid {zs : List Int} {rs : List Ro} {t : Int} {L : Lay Int} (o : StOk zs rs t L) (h97 : ∀ x ∈ join L, x ≤ 997) : StOk (zs ++ [1]) (rs ++ [[none]]) t (widL 998 999 L) := by
  refine ⟨o.t, by rw [List.length_append, List.length_singleton]; exact fits_wid o.f, okP_perm (join_wid 998 999 L) ⟨fun x hx => ?_, ?_⟩⟩
  · rcases List.mem_cons.mp hx with rfl | h
    · decide
    · rcases List.mem_append.mp h with h | h
      · exact o.p.1 x h
      · rw [List.mem_singleton.mp h]
        decide
  · refine List.nodup_cons.mpr ⟨fun h => ?_, List.nodup_append.mpr ⟨o.p.2, by simp, fun x hx y hy z => ?_⟩⟩
    · rcases List.mem_append.mp h with h | h
      · have := h97 _ h
        omega
      · have := List.mem_singleton.mp h
        omega
    · have h1 := h97 _ hx
      have h2 := List.mem_singleton.mp hy
      omega
theorem cn_all {N : Nat} {A : Nat → Prop} : (∀ p, p < N → A p) → cn N A = N := by
  induction N with
  | zero => intro _; rfl
  | succ N ih =>
    intro h
    rw [cn_succ, ih fun p hp => h p (by omega), if_pos (h N (by omega))]
theorem adv_zero20 {zs : List Int} {rs : List Ro} (hv : Val zs rs) (t : Int) {L : Lay Int} (hf : Fits rs.length zs L) : advA 0 zs rs t 0 L = L :=
  advA_nat 0 zs hv.rne hv.lc1 t 0 hf
theorem few_zero {zs : List Int} {rs : List Ro} (hv : Val zs rs) (t : Int) {L : Lay Int} (hf : Fits rs.length zs L) (nd : (join L).Nodup) : (swL zs rs t 0 L (join L)).length = 0 := by
  have h := sw_wheels (rs := rs) (t := t) (c := 0) hf nd (List.Perm.refl _)
  rw [adv_zero20 hv t hf] at h
  have e : cn (join L).length (mnP fun p => ixOf (join L) ((join L).getD p 0)) = (join L).length := by
    refine cn_all fun p hp q hq => ?_
    have fx : ixOf (join L) ((join L).getD p 0) = p := by
      have h1 := getD_at hp
      exact at_one nd (ixOf_at (List.mem_of_getElem? h1)).1 h1
    obtain ⟨k, rfl⟩ := hq
    have : ∀ k, itF (fun p => ixOf (join L) ((join L).getD p 0)) k p = p := fun k => by
      induction k with
      | zero => rfl
      | succ k ih =>
        rw [itF_succ]
        show itF _ k (ixOf (join L) ((join L).getD p 0)) = p
        rw [fx]
        exact ih
    rw [this k]
    exact Nat.le_refl _
  omega
theorem fams_one {cs : List Int} {b : List Nat} {x : Int} (hx : famX cs b x = [x]) : ∀ xs : List Int, (∀ y ∈ xs, x ∈ famX cs b y → y = x) → x ∈ xs → [x] ∈ fams cs b xs := by
  intro xs
  refine snoc_ind (P := fun xs => (∀ y ∈ xs, x ∈ famX cs b y → y = x) → x ∈ xs → [x] ∈ fams cs b xs) (fun _ h => by cases h) (fun l a ih hs hm => ?_) xs
  have ih2 := ih fun y hy => hs y (List.mem_append_left _ hy)
  rw [fams_snoc]
  by_cases ha : a ∈ (fams cs b l).flatten
  · rw [famS_yes ha]
    rcases List.mem_append.mp hm with h | h
    · exact ih2 h
    · obtain rfl := List.mem_singleton.mp h
      obtain ⟨r, hr, hxr⟩ := List.mem_flatten.mp ha
      obtain ⟨y, hy, rfl⟩ := fams_mem cs b l r hr
      have := hs y (List.mem_append_left _ hy) hxr
      rw [this] at hy
      exact ih2 hy
  · rw [famS_no ha]
    rcases List.mem_append.mp hm with h | h
    · exact List.mem_append_left _ (ih2 h)
    · obtain rfl := List.mem_singleton.mp h
      rw [hx]
      exact List.mem_append_right _ (List.mem_singleton.mpr rfl)
theorem fam_idle {zs : List Int} {rs : List Ro} (hv : Val zs rs) (hw : Val (zs ++ [1]) (rs ++ [[none]])) (t : Int) {L : Lay Int} (hf : Fits rs.length zs L) (nd : (join (widL 998 999 L)).Nodup) {ys : List Int} (pm : ys.Perm (join (widL 998 999 L))) :
    [998] ∈ fams (join (widL 998 999 L)) (inv (wh (rs ++ [[none]]).length (zs ++ [1]) (rs ++ [[none]]) t)) ys := by
  have fw : Fits (rs ++ [[none]]).length (zs ++ [1]) (widL 998 999 L) := by rw [List.length_append, List.length_singleton]; exact fits_wid hf
  have jl := join_len fw
  have E := wh_eff (rs ++ [[none]]).length (zs ++ [1]) (rs ++ [[none]]) t
  have wl := wh_len (rs ++ [[none]]).length (zs ++ [1]) (rs ++ [[none]]) t
  have at0 := join_wid_at (998 : Int) 999 L
  have fl := advA_fits (0 : Int) zs rs t ((lc rs : Nat) : Int) L
  have at1 := join_wid_at (998 : Int) 999 (advA 0 zs rs t ((lc rs : Nat) : Int) L)
  rw [hf.1] at at0
  rw [fl.1] at at1
  have i0 : rs.length < (join (widL 998 999 L)).length := (List.getElem?_eq_some_iff.mp at0).1
  have mv := loc_mul (0 : Int) (zs ++ [1]) hw.rne hw.lc1 t 1 fw (i := rs.length) (by omega)
  rw [Int.one_mul, lc_wid, adv_wid (0 : Int) hv.ro hv.lc1 t (lc rs) hf, at0] at mv
  have nd2 : (join (widL 998 999 (advA 0 zs rs t ((lc rs : Nat) : Int) L))).Nodup := by
    have := (advA_perm t ((lc rs : Nat) : Int) hf (rs := rs)).nodup_iff
    refine (join_wid _ _ _).nodup_iff.mpr ?_
    have h1 := (join_wid _ _ _).nodup_iff.mp nd
    refine List.Perm.nodup_iff (List.Perm.cons _ (List.Perm.append_right _ (advA_perm t ((lc rs : Nat) : Int) hf))) |>.mpr h1
  have fx := nodup_ix nd2 mv at1
  generalize wh (rs ++ [[none]]).length (zs ++ [1]) (rs ++ [[none]]) t = e at E wl fx ⊢
  have ie := inv_eff E
  have il := inv_len e
  have hi : rs.length < e.length := by omega
  have f1 : ap e rs.length = rs.length := by
    have h1 := rp_nat E 1 hi
    rw [show ((1 : Nat) : Int) = 1 from rfl, fx] at h1
    exact h1.symm
  have f2 : ap (inv e) rs.length = rs.length := by
    have := inv_ap E hi
    rwa [f1] at this
  have f3 : ∀ k, it (inv e) k rs.length = rs.length := fun k => by
    induction k with
    | zero => rfl
    | succ k ih =>
      show ap (inv e) (it (inv e) k rs.length) = _
      rw [ih, f2]
  have p1 : per (inv e) rs.length = 1 := Nat.dvd_one.mp ((it_eq_iff ie (by omega) 1).mp (f3 1))
  refine fams_one ?_ ys (fun y hy hm => ?_) (pm.mem_iff.mpr (List.mem_of_getElem? at0))
  · unfold famX
    rw [idx_at2 nd at0]
    unfold cyc
    rw [p1]
    show [(join (widL 998 999 L)).getD rs.length 0] = _
    rw [List.getD_eq_getElem?_getD, at0]
    rfl
  · unfold famX at hm
    obtain ⟨q, hq, eq⟩ := List.mem_map.mp hm
    obtain ⟨j, hj⟩ := List.mem_iff_getElem?.mp (pm.mem_iff.mp hy)
    have jlt := (List.getElem?_eq_some_iff.mp hj).1
    rw [idx_at2 nd hj] at hq
    obtain ⟨k, rfl⟩ := (cyc_mem ie (by omega)).mp hq
    have kl := it_lt ie (k := k) (x := j) (by omega)
    have e2 : (join (widL 998 999 L))[it (inv e) k j]? = some 998 := by
      have h9 := getD_at (l := join (widL 998 999 L)) (i := it (inv e) k j) (by omega)
      rw [eq] at h9
      exact h9
    have e3 := nodup_ix nd e2 at0
    have e4 := it_inj ie (k := k) (x := j) (y := rs.length) (by omega) (by omega) (e3.trans (f3 k).symm)
    rw [e4, at0] at hj
    exact (Option.some.inj hj).symm
theorem mB_shift {zs : List Int} {rs : List Ro} (hv : Val zs rs) (t : Int) {s : Int} (hs : (lc rs : Int) ∣ s) (L : Lay Int) (x y : Int) : mB zs rs (t + s) L x y = mB zs rs t L x y := by
  funext k
  unfold mB
  rw [adv_shift 0 hv.rne hv.lc1 t hs]
theorem wh_shift {zs : List Int} {rs : List Ro} (hv : Val zs rs) (t : Int) {s : Int} (hs : (lc rs : Int) ∣ s) : wh rs.length zs rs (t + s) = wh rs.length zs rs t :=
  wh_mod rs.length zs hv.rne (by rw [show t + s - t = s by omega]; exact hs)
theorem rix_back {n k q : Nat} (hk : k < n) (hq : q < n) : (((rix n k q : Nat) : Int) + (k : Nat)) % (n : Nat) = (q : Nat) := by
  unfold rix
  by_cases h : k ≤ q
  · rw [if_pos h, Int.emod_eq_of_lt (by omega) (by omega)]
    omega
  · rw [if_neg h, show (((q + n - k : Nat) : Int) + (k : Nat)) = (q : Nat) + (n : Nat) * 1 by omega, Int.add_mul_emod_self_left, Int.emod_eq_of_lt (by omega) (by omega)]
def vPeriod (K : PySem.W.Frag) : Sp := fun vs H Q _ => ∃ (p s : Addr) (zs : List Int) (rs : List Ro) (t : Int) (L : Lay Int), vs = [.ref p, .ref s] ∧ PS0 K H p s zs rs t L ∧ ∀ H', Same H H' → Q (.int (perT zs rs t : Nat)) H'
@[irreducible] def qPeriod (K : PySem.W.Frag) : Sp := vPeriod K
def vFamilies (K : PySem.W.Frag) : Sp := fun vs H Q _ => ∃ (p s : Addr) (zs : List Int) (rs : List Ro) (t : Int) (L : Lay Int), vs = [.ref p, .ref s] ∧ PS0 K H p s zs rs t L ∧ ∀ ys : List Int, ys.Perm (join L) → ys.Pairwise (· ≤ ·) → ∀ H' f, Same H H' → RowsI H' f (fams (join L) (inv (wh rs.length zs rs t)) ys) → Q (.ref f) H'
@[irreducible] def qFamilies (K : PySem.W.Frag) : Sp := vFamilies K
def vPattern (K : PySem.W.Frag) : Sp := fun vs H Q _ => ∃ (p : Addr) (zs : List Int) (rs : List Ro), vs = [.ref p] ∧ PlanAt K H p zs rs ∧ Val zs rs ∧ ∀ H', Same H H' → Q (.int (lc rs : Nat)) H'
@[irreducible] def qPattern (K : PySem.W.Frag) : Sp := vPattern K
section
variable {K : PySem.W.Frag} {H : Hp} {Q : VK} {E : XK} {p s : Addr} {zs : List Int} {rs : List Ro} {t x y : Int} {L : Lay Int}
theorem go_period (X : PS0 K H p s zs rs t L) (q : ∀ H', Same H H' → Q (.int (perT zs rs t : Nat)) H') : qPeriod K [.ref p, .ref s] H Q E := by
  unfold qPeriod
  exact ⟨p, s, zs, rs, t, L, rfl, X, q⟩
theorem go_families (X : PS0 K H p s zs rs t L) (q : ∀ ys : List Int, ys.Perm (join L) → ys.Pairwise (· ≤ ·) → ∀ H' f, Same H H' → RowsI H' f (fams (join L) (inv (wh rs.length zs rs t)) ys) → Q (.ref f) H') : qFamilies K [.ref p, .ref s] H Q E := by
  unfold qFamilies
  exact ⟨p, s, zs, rs, t, L, rfl, X, q⟩
theorem go_pattern (hp : PlanAt K H p zs rs) (hv : Val zs rs) (q : ∀ H', Same H H' → Q (.int (lc rs : Nat)) H') : qPattern K [.ref p] H Q E := by
  unfold qPattern
  exact ⟨p, zs, rs, rfl, hp, hv, q⟩
end
section
variable {P : Program} {w : World} {K : PySem.W.Frag} {mg : Str → Option Value} {base : Heap}
theorem per_ok (T : Bd P K mg) : FnOk P w K mg base (L2.CX P w) 12 T.aPeriod T.dPeriod ["plan", "state"] (qPeriod K) := by
  unfold qPeriod
  refine ((ok_period T).mono (by decide)).imp fun vs H Q E h => ?_
  obtain ⟨p, s, zs, rs, t, L, rfl, x, q⟩ := h
  have hb := x.bad
  exact ⟨p, s, zs, rs, t, L, rfl, x.p, x.v.small, x.s, (fun part i e => by rw [hb] at e; cases e), fun _ h => absurd x.o h, fun _ _ => q⟩
theorem families_ok (T : Bd P K mg) : FnOk P w K mg base (L2.CX P w) 12 T.aFamilies T.dFamilies ["plan", "state"] (qFamilies K) := by
  unfold qFamilies
  refine ((ok_families T).mono (by decide)).imp fun vs H Q E h => ?_
  obtain ⟨p, s, zs, rs, t, L, rfl, X, q⟩ := h
  have hb := X.bad
  exact ⟨p, s, zs, rs, t, L, rfl, X.p, X.v.small, X.s, (fun part i e => by rw [hb] at e; cases e), fun _ h => absurd X.o h, fun _ _ => q⟩
theorem pattern_ok (T : Bd P K mg) : FnOk P w K mg base (L2.CX P w) 12 T.aPattern T.dPattern ["plan"] (qPattern K) := by
  unfold qPattern
  refine ((ok_pattern T).mono (by decide)).imp fun vs H Q E h => ?_
  obtain ⟨p, zs, rs, rfl, hp, hv, q⟩ := h
  have hb := hv.bad
  exact ⟨p, zs, rs, rfl, hp, hv.small, fun _ => q, fun part i e => by rw [hb] at e; cases e⟩
end
theorem PS0.same {K : PySem.W.Frag} {H H' : Hp} {p s : Addr} {zs : List Int} {rs : List Ro} {t : Int} {L : Lay Int} (x : PS0 K H p s zs rs t L) (e : Same H H') : PS0 K H' p s zs rs t L := x.imp fun _ _ => sqT_same e
theorem seq_abs {a b : TS} {D : Ends} {σ : L2.St} {H : Hp} (h : ∀ B, B = b → tSeq a B D σ H) : tSeq a b D σ H := h b rfl
theorem ite_no {b : Bool} {A B : Prop} (h : b = false) (g : B) : if b = true then A else B := by
  rw [if_neg (by rw [h]; decide)]
  exact g
theorem ite_yes {b : Bool} {A B : Prop} (h : b = true) (g : A) : if b = true then A else B := by
  rw [if_pos h]
  exact g
end Sv
set_option maxHeartbeats 8000000
namespace Sv
open PySem PySem.Spec PyProof.Rows L2 LamX NdefX
theorem paired_appM {α β : Type} {P : α → β → Prop} : ∀ {xs : List α} {ys : List β} {xs' : List α} {ys' : List β}, Paired P xs ys → Paired P xs' ys' → Paired P (xs ++ xs') (ys ++ ys')
  | _, _, _, _, .nil, h => h
  | _, _, _, _, .cons a t, h => .cons a (paired_appM t h)
theorem paired_dropM {α β : Type} {P : α → β → Prop} : ∀ (k : Nat) {xs : List α} {ys : List β}, Paired P xs ys → Paired P (xs.drop k) (ys.drop k)
  | 0, _, _, h => h
  | _ + 1, _, _, .nil => .nil
  | k + 1, _, _, .cons _ t => paired_dropM k t
theorem paired_takeM {α β : Type} {P : α → β → Prop} : ∀ (k : Nat) {xs : List α} {ys : List β}, Paired P xs ys → Paired P (xs.take k) (ys.take k)
  | 0, _, _, _ => .nil
  | _ + 1, _, _, .nil => .nil
  | k + 1, _, _, .cons a t => .cons a (paired_takeM k t)
theorem paired_rotl {α β : Type} {P : α → β → Prop} (k : Nat) {xs : List α} {ys : List β} (h : Paired P xs ys) : Paired P (rotl k xs) (rotl k ys) :=
  paired_appM (paired_dropM k h) (paired_takeM k h)
theorem rv_ltM {r : Ro} {j : Nat} {v : V} (h : (rV r)[j]? = some v) : ∃ e, r[j]? = some e ∧ v = eV e := by
  unfold rV at h
  rw [List.getElem?_map] at h
  cases e : r[j]? with
  | none => rw [e] at h; cases h
  | some x => rw [e] at h; cases h; exact ⟨x, rfl, rfl⟩
theorem tups_pairedM {K : PySem.W.Frag} {H : Hp} {f : Ro → Ro} : ∀ {us : List Addr} {ss : List Ro}, TupsV H us (ss.map fun l => rV (f l)) → Paired (fun q s => SqT K H q (rV s)) us (ss.map f)
  | _, [], h => by cases h; exact .nil
  | _, s :: ss, h => by
    cases h with
    | cons a t => exact .cons (.inl (.inl a)) (tups_pairedM t)
def rIsNo : R2 := fun x y H Q => y = .non ∧ Q (.bl (decide (x = .non))) H
section
variable {P : Program} {w : World} {K : PySem.W.Frag} {mg : Str → Option Value} {base : Heap}
def nMv20 : List Str := ["_law_plan_here", "_law_state_here", "_law_by", "_law_many", "_law_routes", "_law_route", "_law_entry"]
theorem scMv20 : FnScope nMv20 ["_law_plan_here", "_law_state_here", "_law_by"] (defScope sLawMoved) := ⟨rfl, rfl, rfl, by decide +kernel, rfl, by decide +kernel, by decide +kernel⟩
def spMv (K : PySem.W.Frag) : Sp := fun vs H Q _ => ∃ (p s : Addr) (k : Nat) (zs : List Int) (rs : List Ro) (t : Int) (L : Lay Int), vs = [.ref p, .ref s, .int (k : Nat)] ∧ PlanAt K H p zs rs ∧ zs.length ≤ 900 ∧ rs.length ≤ 900 ∧ (∀ r ∈ rs, r.length ≤ 900) ∧ 1 ≤ zs.length ∧ StateAt K H s t L ∧ L.2.length ≤ 900 ∧
  ∀ H' u o s2, Same H H' → SqT K H' u [.ref o, .ref s2] → PlanAt K H' o (rotl k zs) (rotR zs.length k rs) → StateAt K H' s2 t (rotL k L) → Q (.ref u) H'
theorem ok_mv (T : Bd P K mg) : FnOk P w K mg base CX0 2 T.aLLawMoved T.dLLawMoved ["_law_plan_here", "_law_state_here", "_law_by"] (spMv K) := by
  have GT : FnOk P w K mg base CX0 1 T.aLTurned T.dLTurned ["_law_row", "_law_by"] (spTu K) := ok_tu T
  refine T.LLawMoved.F.ok scMv20 (fun vs H Q E h => ?_) (fun cdv A outer s H vs Q E hr h => ?_)
  · obtain ⟨p, s, k, zs, rs, t, L, rfl, _⟩ := h
    rfl
  · obtain ⟨p, st, k, zs, rs, t, L, rfl, hp, zl, rl, rl2, z0, hs, l2s, q⟩ := h
    refine ⟨_, pss_cons (ps_asg (pe_tup (pa_cons (pe_callB call_len_seq (by rfl) T.bt.len b_len (pa_cons (pe_ix ix_tup (pv 0) (pe_int) (fun _ _ => rfl)) pa_nil)) (pa_cons (pe_lst pa_nil) pa_nil))) (pg_tup rfl (pgs_cons (pg_name (i := 3) scMv20.nd rfl (.inr rfl)) (pgs_cons (pg_name (i := 4) scMv20.nd rfl (.inl rfl)) pgs_nil))))
      (pss_cons (ps_for PassesOwn.never rfl (pi_tup (pe_ix ix_tup (pv 0) (pe_int) (fun _ _ => rfl))) (pg_name (i := 5) scMv20.nd rfl (Or.inl rfl))
        (pss_one (ps_expr (pe_bm PySem.F.plainAttrs_list PySem.F.slot_list_append PySem.F.type_list_append mt_append (pv 4) (pa_cons (pe_callTy call_tuple_of (by rfl) T.bt.tuple b_tuple (pa_cons (pe_lc (own := [("_law_entry", 6)]) (g := gName 6) (tt := tYes) (te := tIf (tTest (tOp rIsNo (tVar 6) (tC .non))) (tVar 6) (tOp (rI (fun _ j => 0 < j) fun i j => .int (i % j)) (tOp (rI0 fun i j => .int (i - j)) (tVar 6) (tVar 2)) (tVar 3))) rfl scMv20.nd (pi_tup (pv 5)) (blkOk_by (N := nMv20) (sc := defScope sLawMoved) (by decide +kernel)) (fun _ _ _ _ _ => pg_name (i := 6) scMv20.nd rfl (Or.inl rfl)) (fun _ _ _ _ _ => pts_nil) (fun _ _ _ _ _ => pe_ifExp (pt_cmpR op_isN (pv 6) pe_non (nomark _)) (pv 6) (pe_op op_mod (pe_op op_sub (pv 6) (pv 2)) (pv 3)))) pa_nil)) pa_nil)))))
      (pss_one (ps_ret (pe_tup (pa_cons (pe_tup (pa_cons (pe_call (E := E0) GT (hr.mono (by decide)) (by rfl) T.LTurned.g T.LTurned.F.kp T.LTurned.b .nil pass0 (pa_cons (pe_ix ix_tup (pv 0) (pe_int) (fun _ _ => rfl)) (pa_cons (pv 2) pa_nil))) (pa_cons (pe_callTy call_tuple_of (by rfl) T.bt.tuple b_tuple (pa_cons (pv 4) pa_nil)) pa_nil))) (pa_cons (pe_tup (pa_cons (pe_ix ix_tup (pv 1) (pe_int) (fun _ _ => rfl)) (pa_cons (pe_ix ix_tup (pv 1) (pe_int) (fun _ _ => rfl)) (pa_cons (pe_call (E := E0) GT (hr.mono (by decide)) (by rfl) T.LTurned.g T.LTurned.F.kp T.LTurned.b .nil pass0 (pa_cons (pe_ix ix_tup (pv 1) (pe_int) (fun _ _ => rfl)) (pa_cons (pv 2) pa_nil))) pa_nil)))) pa_nil)))))), ?_⟩
    have eS : L2.start nMv20 [.ref p, .ref st, .int (k : Nat)] = [some (.ref p), some (.ref st), some (.int (k : Nat)), none, none, none, none] := rfl
    rw [eS]
    obtain ⟨pa, pb, hp1, hA1, hB1⟩ := hp.ex
    obtain ⟨qs, hB2, hP⟩ := hB1.ex
    have hql := paired_len hP
    obtain ⟨ca, sh, hs1, hL⟩ := hs.ex
    obtain ⟨us0, hS1, hS2⟩ := hL.s
    have hul := segT_len hS2
    refine ⟨.ref p, rfl, p, _, 0, .ref pa, rfl, rfl, hp1, rfl, pa, _, rfl, .inr hA1, ?_⟩
    rw [List.length_map]
    refine ⟨Nat.zero_le _, fun D hD => ⟨(by show 2 ≤ sizeLine; decide), fun tu htu => ⟨tu, _, rfl, .inl (.inl upd_same), rfl, _, _, rfl, _, _, rfl, rfl, ?_⟩⟩⟩
    have sm0 := (same_upd (o := .lst []) hD).trans (same_upd (o := .tup [.int (zs.length : Nat), .ref D]) htu)
    have kD : (upd (upd H D (.lst [])) tu (.tup [.int (zs.length : Nat), .ref D])) D = some (.lst (([] : List Addr).map V.ref)) := (same_upd (o := .tup [.int (zs.length : Nat), .ref D]) htu) _ _ upd_same
    generalize upd (upd H D (.lst [])) tu (.tup [.int (zs.length : Nat), .ref D]) = H1 at sm0 kD ⊢
    clear htu
    refine ⟨.ref p, rfl, p, _, 1, .ref pb, rfl, rfl, sqT_same sm0 hp1, rfl, pb, rfl, ⟨_, sqT_same sm0 hB2⟩, for_tup (xs := qs.map V.ref) (fun i σ H' => (∃ y5 y6, σ = [some (.ref p), some (.ref st), some (.int (k : Nat)), some (.int (zs.length : Nat)), some (.ref D), y5, y6]) ∧ Same H H' ∧ ∃ us : List Addr, H' D = some (.lst (us.map V.ref)) ∧ TupsV H' us ((rs.take i).map fun r => rV (r.map (shE zs.length k))))
      ⟨⟨_, _, rfl⟩, sm0, [], kD, .nil⟩ (fun i σ H' _ h => sqT_same h.2.1 hB2) (fun i v σ H' hv ⟨⟨y5, y6, es⟩, sm, us, kD', tv⟩ => ?_) (fun σ H' ⟨⟨y5, y6, es⟩, sm, us, kD', tv⟩ => ?_)⟩
    · subst es
      obtain ⟨q1, hq1, rfl⟩ := refs_lt hv
      obtain ⟨r1, hr3, hq2⟩ := paired_at hP hq1
      have rl1 := rl2 r1 (List.mem_of_getElem? hr3)
      refine ⟨.ref D, rfl, .inl ⟨rfl, _, .inl (.inl kD')⟩, .ref q1, rfl, q1, rfl, ⟨_, sqT_same sm hq2⟩, fun R hR => lc_tup (xs := rV r1) (fun j H9 => Same H' H9 ∧ H9 R = some (.lst (rV ((r1.take j).map (shE zs.length k)))))
        ⟨same_upd hR, upd_same⟩ (fun j H9 _ h => sqT_same (sm.trans h.1) hq2) (fun j x H9 hx ⟨sm9, kR⟩ => ?_) (fun H9 ⟨sm9, kR⟩ => ?_)⟩
      · obtain ⟨e1, he1, rfl⟩ := rv_ltM hx
        have jl := (List.getElem?_eq_some_iff.mp he1).1
        have b1 : (rV ((r1.take j).map (shE zs.length k))).length + 1 ≤ sizeLine := by
          rw [rV_len, List.length_map, List.length_take]
          exact small1000 (by omega)
        have e9 : rV ((r1.take (j + 1)).map (shE zs.length k)) = rV ((r1.take j).map (shE zs.length k)) ++ [eV (shE zs.length k e1)] := by
          unfold rV
          rw [List.take_add_one, he1, List.map_append, List.map_append]
          rfl
        refine ⟨rfl, yes_go ⟨eV e1, rfl, rfl, _, rfl, ?_⟩⟩
        cases e1 with
        | none =>
          refine ite_yes (decide_eq_true rfl) ?_
          refine ⟨.non, rfl, _, kR, b1, same_of sm9 hR, ?_⟩
          rw [upd_same, e9]
          rfl
        | some z =>
          refine ite_no (decide_eq_false fun h => by cases h) ?_
          refine ⟨.int z, rfl, .int (k : Nat), rfl, _, _, rfl, rfl, .int (zs.length : Nat), rfl, _, _, rfl, rfl, by omega, _, kR, b1, same_of sm9 hR, ?_⟩
          rw [upd_same, e9]
          rfl
      · rw [rV_len, List.take_length] at kR
        refine ⟨R, _, rfl, .inl ⟨.inl (.inl kR), fun l hl9 => ?_⟩⟩
        have smU := sm9.trans (same_upd (o := .tup (rV (r1.map (shE zs.length k)))) hl9)
        have kU : (upd H9 l (.tup (rV (r1.map (shE zs.length k))))) l = some (.tup (rV (r1.map (shE zs.length k)))) := upd_same
        generalize upd H9 l (.tup (rV (r1.map (shE zs.length k)))) = H10 at smU kU ⊢
        have kD9 := smU _ _ kD'
        have ul := tupsV_len tv
        rw [List.length_map, List.length_take] at ul
        refine ⟨D, _, _, rfl, rfl, kD9, by rw [List.length_map]; exact small1000 (by omega), ⟨_, _, rfl⟩, same_of (sm.trans smU) hD, us ++ [l], by rw [upd_same, List.map_append]; rfl, ?_⟩
        have h9 : TupsV H10 (us ++ [l]) ((rs.take i).map (fun r => rV (r.map (shE zs.length k))) ++ [rV (r1.map (shE zs.length k))]) := tupsV_snocC kU (tupsV_same smU tv)
        have e9 : (rs.take (i + 1)).map (fun r => rV (r.map (shE zs.length k))) = (rs.take i).map (fun r => rV (r.map (shE zs.length k))) ++ [rV (r1.map (shE zs.length k))] := by
          rw [List.take_add_one, hr3, List.map_append]
          rfl
        rw [e9]
        refine tupsV_imp (fun b xs hb => ?_) h9
        rw [upd_ne (fun z => by rw [z, kD9] at hb; cases hb)]
        exact hb
    · subst es
      rw [List.length_map, hql, List.take_length] at tv
      refine ⟨.ref p, rfl, p, _, 0, .ref pa, rfl, rfl, sqT_same sm hp1, rfl, .int (k : Nat), rfl, pa, _, k, rfl, sqT_same sm hA1, by rw [List.length_map]; exact zl, fun H2 u2 s2 c2 => ?_⟩
      rw [rotl_map] at c2
      have g2 := sm.trans s2
      refine ⟨.ref D, rfl, D, _, rfl, .inl ⟨.inl (.inl (s2 _ _ kD')), fun l2 hl2 => ⟨(by show 2 ≤ sizeLine; decide), fun o ho => ?_⟩⟩⟩
      have s3 := same_upd (o := .tup (us.map V.ref)) hl2
      have k3 : (upd H2 l2 (.tup (us.map V.ref))) l2 = some (.tup (us.map V.ref)) := upd_same
      generalize upd H2 l2 (.tup (us.map V.ref)) = H3 at s3 k3 ho ⊢
      have s4 := same_upd (o := .tup [.ref u2, .ref l2]) ho
      have k4 : (upd H3 o (.tup [.ref u2, .ref l2])) o = some (.tup [.ref u2, .ref l2]) := upd_same
      generalize upd H3 o (.tup [.ref u2, .ref l2]) = H4 at s4 k4 ⊢
      have g4 := (g2.trans s3).trans s4
      have hO : PlanAt K H4 o (rotl k zs) (rotR zs.length k rs) :=
        ⟨u2, l2, .inl (.inl k4), sqT_same (s3.trans s4) c2, us, .inl (.inl (s4 _ _ k3)), tups_pairedM (tupsV_same ((s2.trans s3).trans s4) tv)⟩
      refine ⟨.ref st, rfl, st, _, 0, .int t, rfl, rfl, sqT_same g4 hs1, rfl, .ref st, rfl, st, _, 1, .ref ca, rfl, rfl, sqT_same g4 hs1, rfl, .ref st, rfl, st, _, 2, .ref sh, rfl, rfl, sqT_same g4 hs1, rfl, .int (k : Nat), rfl, sh, _, k, rfl, sqT_same g4 hS1, by rw [List.length_map, hul]; exact l2s, fun H5 u5 s5 c5 => ⟨(by show 3 ≤ sizeLine; decide), fun s6 hs6 => ⟨(by show 2 ≤ sizeLine; decide), fun u hu => ?_⟩⟩⟩
      rw [rotl_map] at c5
      have e6 := same_upd (o := .tup [.int t, .ref ca, .ref u5]) hs6
      have e7 := same_upd (o := .tup [.ref o, .ref s6]) hu
      have gT := (s5.trans e6).trans e7
      refine q _ u o s6 (g4.trans gT) (.inl (.inl upd_same)) (plan_imp hO fun _ _ => sqT_same gT) ⟨ca, u5, sqT_same e7 (.inl (.inl upd_same)), sqT_same (g4.trans gT) hL.c, rotl k us0, sqT_same (e6.trans e7) c5, ?_⟩
      exact paired_rotl k (segT_imp (fun _ _ => sqT_same (g4.trans gT)) hS2)
end
end Sv
set_option maxHeartbeats 8000000
namespace Sv
open PySem PySem.Spec PyProof.Rows L2 LamX NdefX
theorem paired_snoc2 {α β : Type} {P : α → β → Prop} {a : α} {b : β} (h : P a b) : ∀ {xs : List α} {ys : List β}, Paired P xs ys → Paired P (xs ++ [a]) (ys ++ [b])
  | _, _, .nil => .cons h .nil
  | _, _, .cons a t => .cons a (paired_snoc2 h t)
section
variable {P : Program} {w : World} {K : PySem.W.Frag} {mg : Str → Option Value} {base : Heap}
def nMo : List Str := ["_law_plan_here", "_law_state_here", "_law_other"]
theorem scMo : FnScope nMo ["_law_plan_here", "_law_state_here"] (defScope sLawMore) := ⟨rfl, rfl, rfl, by decide +kernel, rfl, by decide +kernel, by decide +kernel⟩
def spMo (K : PySem.W.Frag) : Sp := fun vs H Q _ => ∃ (p s : Addr) (zs : List Int) (rs : List Ro) (t : Int) (L : Lay Int), vs = [.ref p, .ref s] ∧ PlanAt K H p zs rs ∧ zs.length ≤ 900 ∧ rs.length ≤ 900 ∧ StateAt K H s t L ∧ L.1.length ≤ 900 ∧ L.2.length ≤ 900 ∧
  ∀ H' u o s2, Same H H' → SqT K H' u [.ref o, .ref s2] → PlanAt K H' o (zs ++ [1]) (rs ++ [[none]]) → StateAt K H' s2 t (widL 998 999 L) → Q (.ref u) H'
theorem ok_mo (T : Bd P K mg) : FnOk P w K mg base CX0 1 T.aLLawMore T.dLLawMore ["_law_plan_here", "_law_state_here"] (spMo K) := by
  refine T.LLawMore.F.ok scMo (fun vs H Q E h => ?_) (fun cdv A outer s H vs Q E hr h => ?_)
  · obtain ⟨p, s, zs, rs, t, L, rfl, _⟩ := h
    rfl
  · obtain ⟨p, st, zs, rs, t, L, rfl, hp, zl, rl, hs, l1, l2, q⟩ := h
    refine ⟨_, pss_cons (ps_set (i := 2) scMo.nd rfl (Or.inl rfl) (pe_tup (pa_cons (pe_op op_catQ (pe_ix ix_tup (pv 0) (pe_int) (fun _ _ => rfl)) (pe_tup (pa_cons (pe_int) pa_nil))) (pa_cons (pe_op op_catQ (pe_ix ix_tup (pv 0) (pe_int) (fun _ _ => rfl)) (pe_tup (pa_cons (pe_tup (pa_cons (pe_non) pa_nil)) pa_nil))) pa_nil))))
      (pss_one (ps_ret (pe_tup (pa_cons (pv 2) (pa_cons (pe_tup (pa_cons (pe_ix ix_tup (pv 1) (pe_int) (fun _ _ => rfl)) (pa_cons (pe_op op_catQ (pe_ix ix_tup (pv 1) (pe_int) (fun _ _ => rfl)) (pe_tup (pa_cons (pe_int) pa_nil))) (pa_cons (pe_op op_catQ (pe_ix ix_tup (pv 1) (pe_int) (fun _ _ => rfl)) (pe_tup (pa_cons (pe_tup (pa_cons (pe_int) pa_nil)) pa_nil))) pa_nil)))) pa_nil))))), ?_⟩
    have eS : L2.start nMo [.ref p, .ref st] = [some (.ref p), some (.ref st), none] := rfl
    rw [eS]
    obtain ⟨pa, pb, hp1, hA1, hB1⟩ := hp.ex
    obtain ⟨qs, hB2, hP⟩ := hB1.ex
    have hql := paired_len hP
    obtain ⟨ca, sh, hs1, hL⟩ := hs.ex
    obtain ⟨us, hS1, hS2⟩ := hL.s
    have hul := segT_len hS2
    refine ⟨.ref p, rfl, p, _, 0, .ref pa, rfl, rfl, hp1, rfl, (by show 1 ≤ sizeLine; decide), fun a1 h1 => ?_⟩
    have s1 := same_upd (o := .tup [.int 1]) h1
    have k1 : SqT K (upd H a1 (.tup [.int 1])) a1 [.int 1] := .inl (.inl upd_same)
    generalize upd H a1 (.tup [.int 1]) = H1 at s1 k1 ⊢
    refine cat_go (sqT_same s1 hA1) k1 (by rw [List.length_map]; show _ + 1 ≤ 1000; omega) fun H2 z2 s2 c2 => ?_
    have g2 := s1.trans s2
    refine ⟨.ref p, rfl, p, _, 1, .ref pb, rfl, rfl, sqT_same g2 hp1, rfl, (by show 1 ≤ sizeLine; decide), fun a3 h3 => ⟨(by show 1 ≤ sizeLine; decide), fun a4 h4 => ?_⟩⟩
    have s3 := same_upd (o := .tup [.non]) h3
    have k3 : SqT K (upd H2 a3 (.tup [.non])) a3 [.non] := .inl (.inl upd_same)
    generalize upd H2 a3 (.tup [.non]) = H3 at s3 k3 h4 ⊢
    have s4 := same_upd (o := .tup [.ref a3]) h4
    have k4 : SqT K (upd H3 a4 (.tup [.ref a3])) a4 [.ref a3] := .inl (.inl upd_same)
    generalize upd H3 a4 (.tup [.ref a3]) = H4 at s4 k4 ⊢
    have g4 := (g2.trans s3).trans s4
    refine cat_go (sqT_same g4 hB2) k4 (by rw [List.length_map]; show _ + 1 ≤ 1000; omega) fun H5 z5 s5 c5 => ⟨(by show 2 ≤ sizeLine; decide), fun o ho => ?_⟩
    have s6 := same_upd (o := .tup [.ref z2, .ref z5]) ho
    have k6 : SqT K (upd H5 o (.tup [.ref z2, .ref z5])) o [.ref z2, .ref z5] := .inl (.inl upd_same)
    generalize upd H5 o (.tup [.ref z2, .ref z5]) = H6 at s6 k6 ⊢
    have g6 := (g4.trans s5).trans s6
    have hO : PlanAt K H6 o (zs ++ [1]) (rs ++ [[none]]) := by
      refine ⟨z2, z5, k6, ?_, qs ++ [a3], ?_, ?_⟩
      · rw [List.map_append]
        exact sqT_same (((s3.trans s4).trans s5).trans s6) c2
      · rw [List.map_append]
        exact sqT_same s6 c5
      · exact paired_snoc2 (P := fun q r => SqT K H6 q (rV r)) (a := a3) (b := [none]) (sqT_same ((s4.trans s5).trans s6) k3) (paired_same g6 hP)
    refine ⟨.ref o, rfl, .ref st, rfl, st, _, 0, .int t, rfl, rfl, sqT_same g6 hs1, rfl, .ref st, rfl, st, _, 1, .ref ca, rfl, rfl, sqT_same g6 hs1, rfl, (by show 1 ≤ sizeLine; decide), fun a7 h7 => ?_⟩
    have s7 := same_upd (o := .tup [.int 998]) h7
    have k7 : SqT K (upd H6 a7 (.tup [.int 998])) a7 [.int 998] := .inl (.inl upd_same)
    generalize upd H6 a7 (.tup [.int 998]) = H7 at s7 k7 ⊢
    refine cat_go (sqT_same (g6.trans s7) hL.c) k7 (by rw [List.length_map]; show _ + 1 ≤ 1000; omega) fun H8 z8 s8 c8 => ?_
    have g8 := (g6.trans s7).trans s8
    refine ⟨.ref st, rfl, st, _, 2, .ref sh, rfl, rfl, sqT_same g8 hs1, rfl, (by show 1 ≤ sizeLine; decide), fun a9 h9 => ⟨(by show 1 ≤ sizeLine; decide), fun b9 hb9 => ?_⟩⟩
    have s9 := same_upd (o := .tup [.int 999]) h9
    have k9 : SqT K (upd H8 a9 (.tup [.int 999])) a9 [.int 999] := .inl (.inl upd_same)
    generalize upd H8 a9 (.tup [.int 999]) = H9 at s9 k9 hb9 ⊢
    have s10 := same_upd (o := .tup [.ref a9]) hb9
    have k10 : SqT K (upd H9 b9 (.tup [.ref a9])) b9 [.ref a9] := .inl (.inl upd_same)
    generalize upd H9 b9 (.tup [.ref a9]) = H10 at s10 k10 ⊢
    have g10 := (g8.trans s9).trans s10
    refine cat_go (sqT_same g10 hS1) k10 (by rw [List.length_map]; show _ + 1 ≤ 1000; omega) fun H11 z11 s11 c11 => ⟨(by show 3 ≤ sizeLine; decide), fun s2 hs2 => ⟨(by show 2 ≤ sizeLine; decide), fun u hu => ?_⟩⟩
    have s12 := same_upd (o := .tup [.int t, .ref z8, .ref z11]) hs2
    have s13 := same_upd (o := .tup [.ref o, .ref s2]) hu
    have gT := (s11.trans s12).trans s13
    refine q _ u o s2 (g10.trans gT) (.inl (.inl upd_same)) (plan_imp hO fun _ _ => sqT_same (((((s7.trans s8).trans s9).trans s10)).trans gT)) ⟨z8, z11, sqT_same s13 (.inl (.inl upd_same)), ?_, us ++ [a9], ?_, ?_⟩
    · show SqT K _ z8 ((L.1 ++ [998]).map V.int)
      rw [List.map_append]
      exact sqT_same ((s9.trans s10).trans gT) c8
    · rw [List.map_append]
      exact sqT_same (s12.trans s13) c11
    · exact paired_snoc2 (P := fun q s => SqT K (upd (upd H11 s2 (HO.tup [V.int t, V.ref z8, V.ref z11])) u (HO.tup [V.ref o, V.ref s2])) q (s.map V.int)) (a := a9) (b := [999]) (sqT_same (s10.trans gT) k9) (segT_imp (fun _ _ => sqT_same (g10.trans gT)) hS2)
end
end Sv
set_option maxHeartbeats 4000000
namespace Sv
open PySem PySem.Spec PyProof.Rows L2
section
variable {K : PySem.W.Frag}
theorem sorted_eq9 : ∀ {a b : List Int}, a.Pairwise (· < ·) → b.Pairwise (· < ·) → (∀ z, z ∈ a ↔ z ∈ b) → a = b
  | [], [], _, _, _ => rfl
  | [], y :: b, _, _, h => absurd ((h y).mpr (List.mem_cons_self ..)) (by simp)
  | x :: a, [], _, _, h => absurd ((h x).mp (List.mem_cons_self ..)) (by simp)
  | x :: a, y :: b, ha, hb, h => by
    obtain ⟨a1, a2⟩ := List.pairwise_cons.mp ha
    obtain ⟨b1, b2⟩ := List.pairwise_cons.mp hb
    have e : x = y := by
      have h1 := (h x).mp (List.mem_cons_self ..)
      have h2 := (h y).mpr (List.mem_cons_self ..)
      rcases List.mem_cons.mp h1 with h1 | h1
      · exact h1
      · rcases List.mem_cons.mp h2 with h2 | h2
        · exact h2.symm
        · have := b1 x h1
          have := a1 y h2
          omega
    subst e
    congr 1
    refine sorted_eq9 a2 b2 fun z => ⟨fun hz => ?_, fun hz => ?_⟩
    · rcases List.mem_cons.mp ((h z).mp (List.mem_cons_of_mem _ hz)) with rfl | h1
      · have := a1 z hz; omega
      · exact h1
    · rcases List.mem_cons.mp ((h z).mpr (List.mem_cons_of_mem _ hz)) with rfl | h1
      · have := b1 z hz; omega
      · exact h1
theorem perm_one {a b c : List Int} (nd : c.Nodup) (pa : a.Perm c) (pb : b.Perm c) (sa : a.Pairwise (· ≤ ·)) (sb : b.Pairwise (· ≤ ·)) : a = b := by
  have na : a.Nodup := pa.nodup_iff.mpr nd
  have nb : b.Nodup := pb.nodup_iff.mpr nd
  refine sorted_eq9 (List.Pairwise.imp₂ (fun x y h1 h2 => ?_) sa na) (List.Pairwise.imp₂ (fun x y h1 h2 => ?_) sb nb) fun z => (pa.mem_iff).trans (pb.mem_iff).symm
  · omega
  · omega
def dLi9 (l : List Int) : PyData := .list (l.map PyData.int)
theorem dpAll_rows {H : Hp} : ∀ {rw : List Addr} {ss : List (List Int)}, RowV H rw (ss.map (List.map V.int)) → DpAll K H (rw.map V.ref) (ss.map dLi9)
  | _, [], h => by cases h; exact .nil
  | _, s :: ss, h => by
    cases h with
    | cons h t => exact .cons (.lst (.inl (.inl h)) (dpAll_int _)) (dpAll_rows t)
theorem dp_rows {H : Hp} {f : Addr} {ss : List (List Int)} (h : RowsI H f ss) : Dp K H (.ref f) (.list (ss.map dLi9)) := by
  obtain ⟨rw, h1, h2, _⟩ := h
  exact .lst (.inl (.inl h1)) (dpAll_rows h2)
theorem okDs_rows {n : Nat} : ∀ {ss : List (List Int)}, (∀ s ∈ ss, s.length ≤ 1000) → okDs (n + 1) (ss.map dLi9) = true
  | [], _ => by unfold okDs; rfl
  | s :: ss, h => by
    rw [List.map_cons]
    unfold okDs
    rw [okDs_rows fun x hx => h x (List.mem_cons_of_mem _ hx), Bool.and_true]
    exact okD_l (by rw [List.length_map]; exact h s (List.mem_cons_self ..)) (okDs_int _ _)
theorem pldAll_rows : ∀ ss : List (List Int), pldAll (ss.map dLi9) = true
  | [] => by unfold pldAll; rfl
  | s :: ss => by
    rw [List.map_cons]
    unfold pldAll
    rw [pldAll_rows ss, Bool.and_true]
    unfold dLi9 pld
    exact pldAll_int s
theorem pld_st (t : Int) (L : Lay Int) : pld (dSt t L) = true := by
  have h := pld_tl L
  unfold dTl at h
  unfold pld at h
  unfold dSt pld
  unfold pldAll
  rw [pld_int, Bool.true_and]
  exact h
theorem okD_layS {zs : List Int} {rs : List Ro} {t : Int} {L : Lay Int} (hv : Val zs rs) (hf : Fits rs.length zs L) : okD 3 (dSt t L) = true := by
  obtain ⟨f1, f2⟩ := fit_at hf
  have z1 := hv.z1
  have r1 := hv.r1
  refine okD_st (n := 0) (by omega) (by omega) fun s hs => ?_
  obtain ⟨i, hi⟩ := List.mem_iff_getElem?.mp hs
  have := fit_row hf hv.z2 hi
  omega
theorem fams_size {zs : List Int} {rs : List Ro} (hv : Val zs rs) (t : Int) {L : Lay Int} (hf : Fits rs.length zs L) {ys : List Int} (pm : ys.Perm (join L)) :
    (fams (join L) (inv (wh rs.length zs rs t)) ys).length ≤ 1000 ∧ ∀ s ∈ fams (join L) (inv (wh rs.length zs rs t)) ys, s.length ≤ 1000 := by
  have n := hv.num
  have jl := join_len hf
  have we := wh_eff rs.length zs rs t
  have wl := wh_len rs.length zs rs t
  refine ⟨?_, fun s hs => ?_⟩
  · have := fams_len (join L) (inv (wh rs.length zs rs t)) ys
    have := pm.length_eq
    omega
  · obtain ⟨x, hx, rfl⟩ := fams_mem _ _ _ s hs
    rw [famX_len]
    have hi : (join L).idxOf x < (join L).length := List.idxOf_lt_length_of_mem (pm.mem_iff.mp hx)
    have := (per_spec (inv_eff we) (s := (join L).idxOf x) (by rw [inv_len]; omega)).2.2.2
    rw [inv_len] at this
    omega
theorem ok_fams {ss : List (List Int)} (h1 : ss.length ≤ 1000) (h2 : ∀ s ∈ ss, s.length ≤ 1000) : okD 2 (.list (ss.map dLi9)) = true ∧ pld (.list (ss.map dLi9)) = true :=
  ⟨okD_l (by rw [List.length_map]; exact h1) (okDs_rows h2), by unfold pld; exact pldAll_rows ss⟩
end
end Sv
set_option maxHeartbeats 8000000
namespace Sv
open PySem PySem.Spec PyProof.Rows L2 LamX NdefX
section
variable {P : Program} {w : World} {K : PySem.W.Frag} {mg : Str → Option Value} {base : Heap}
def nMR : List Str := ["_law_plan_here", "_law_state_here", "_law_later", "_law_far", "_law_wide", "_law_more_here", "_law_goal", "_law_row"]
theorem scMR : FnScope nMR ["_law_plan_here", "_law_state_here", "_law_later", "_law_far"] (defScope sMoreRight) := ⟨rfl, rfl, rfl, by decide +kernel, rfl, by decide +kernel, by decide +kernel⟩
def spMR (K : PySem.W.Frag) : Sp := fun vs H Q _ => ∃ (p s lt : Addr) (zs : List Int) (rs : List Ro) (t : Int) (L : Lay Int) (c : Nat), vs = [.ref p, .ref s, .ref lt, .int (c : Nat)] ∧ PS0 K H p s zs rs t L ∧ (∀ x ∈ join L, x ≤ 997) ∧ zs.length < 12 ∧ rs.length < 6 ∧ CtOk (c : Nat) ∧
  StateAt K H lt (t + (c : Nat)) (advA 0 zs rs t (c : Nat) L) ∧ ∀ H', Same H H' → Q (.bl true) H'
theorem ok_mr (T : Bd P K mg) : FnOk P w K mg base CX0 13 T.aLMoreRight T.dLMoreRight ["_law_plan_here", "_law_state_here", "_law_later", "_law_far"] (spMR K) := by
  have GMo : FnOk P w K mg base CX0 1 T.aLLawMore T.dLLawMore ["_law_plan_here", "_law_state_here"] (spMo K) := ok_mo T
  have JV : FnOk P w K mg base (L2.CX P w) 12 T.aAdvance T.dAdvance ["plan", "state", "count"] (qAdvance K) := adv_ok T
  have JF : FnOk P w K mg base (L2.CX P w) 12 T.aFewest T.dFewest ["plan", "state", "goal", "count"] (qFew K T.C T.CS T.CAr T.CC) := few_ok T
  have JM : FnOk P w K mg base (L2.CX P w) 12 T.aFamilies T.dFamilies ["plan", "state"] (qFamilies K) := families_ok T
  refine T.LMoreRight.F.ok scMR (fun vs H Q E h => ?_) (fun cdv A outer s H vs Q E hr h => ?_)
  · obtain ⟨p, s, lt, zs, rs, t, L, c, rfl, _⟩ := h
    rfl
  · obtain ⟨p, st, lt, zs, rs, t, L, c, rfl, X, h97, zl, rl, hc, hlt, q⟩ := h
    refine ⟨_, pss_cons (ps_asg (pe_call (E := E0) GMo (hr.mono (by decide)) (by rfl) T.LLawMore.g T.LLawMore.F.kp T.LLawMore.b .nil pass0 (pa_cons (pv 0) (pa_cons (pv 1) pa_nil))) (pg_tup rfl (pgs_cons (pg_name (i := 4) scMR.nd rfl (.inl rfl)) (pgs_cons (pg_name (i := 5) scMR.nd rfl (.inl rfl)) pgs_nil))))
      (pss_cons (ps_if (pt_cmpR (op_neQ hr.units) (pe_call (E := E0) JV (hr.mono (by decide)) (by rfl) T.Advance.g T.Advance.F.kp T.Advance.b .nil passL (pa_cons (pv 4) (pa_cons (pv 5) (pa_cons (pv 3) pa_nil)))) (pe_ix ix_tup (pe_call (E := E0) GMo (hr.mono (by decide)) (by rfl) T.LLawMore.g T.LLawMore.F.kp T.LLawMore.b .nil pass0 (pa_cons (pv 0) (pa_cons (pv 2) pa_nil))) (pe_int) (fun _ _ => rfl)) (nomark _)) pss_never pss_nil)
      (pss_cons (ps_set (i := 6) scMR.nd rfl (Or.inl rfl) (pe_ix ix_tup (pv 5) (pe_int) (fun _ _ => rfl)))
      (pss_cons (ps_for PassesOwn.never rfl (pi_tup (pe_ix ix_tup (pv 5) (pe_int) (fun _ _ => rfl))) (pg_name (i := 7) scMR.nd rfl (Or.inl rfl))
        (pss_one (ps_set (i := 6) scMR.nd rfl (Or.inl rfl) (pe_op op_catQ (pv 6) (pv 7)))))
      (pss_one (ps_ret (pe_and (pe_cmpR op_eq (pe_call (E := E0) JF (hr.mono (by decide)) (by rfl) T.Fewest.g T.Fewest.F.kp T.Fewest.b .nil passL (pa_cons (pv 4) (pa_cons (pv 5) (pa_cons (pv 6) (pa_cons (pe_int) pa_nil))))) pe_int (nomark _)) (pe_one (pe_cmpR (op_inD (room65 hr)) (pe_lst (pa_cons (pe_int) pa_nil)) (pe_call (E := E0) JM (hr.mono (by decide)) (by rfl) T.Families.g T.Families.F.kp T.Families.b .nil passL (pa_cons (pv 4) (pa_cons (pv 5) pa_nil))) (by rfl))))))))), ?_⟩
    have eS : L2.start nMR [.ref p, .ref st, .ref lt, .int (c : Nat)] = [some (.ref p), some (.ref st), some (.ref lt), some (.int (c : Nat)), none, none, none, none] := rfl
    rw [eS]
    have hw := val_wid X.v zl rl
    have ow := stOk_wid X.o h97
    obtain ⟨f1, f2⟩ := fit_at X.o.f
    have fw := ow.f
    obtain ⟨g1, g2⟩ := fit_at fw
    have jw := join_len fw
    have nw := hw.num
    have ndw := ow.p.2
    refine seq_abs fun bT eT => ?_
    refine ⟨.ref p, rfl, .ref st, rfl, p, st, zs, rs, t, L, rfl, X.p, by omega, by omega, X.s, by omega, by omega, fun H1 u o s2 sm1 hu hO hS => ⟨u, _, rfl, hu, rfl, _, _, rfl, _, _, rfl, rfl, ?_⟩⟩
    have XW : PS0 K H1 o s2 (zs ++ [1]) (rs ++ [[none]]) t (widL 998 999 L) := ⟨hO, hw, hS, ow⟩
    have X1 := X.same sm1
    have hlt1 := hlt.imp fun _ _ => sqT_same sm1
    clear hu hO hS
    show bT _ _ _
    subst eT
    refine seq_abs fun bT eT => ?_
    refine ⟨.ref o, rfl, .ref s2, rfl, .int (c : Nat), rfl, ?_⟩
    show qAdvance _ _ _ _ _
    refine go_advance XW hc fun H2 s3 sm2 st3 => ?_
    rw [adv_wid 0 X.v.ro X.v.lc1 t c X.o.f] at st3
    have fa := advA_fits (0 : Int) zs rs t ((c : Nat) : Int) L
    obtain ⟨a1, a2⟩ := fit_at fa
    refine ⟨.ref p, rfl, .ref lt, rfl, p, lt, zs, rs, t + (c : Nat), advA 0 zs rs t (c : Nat) L, rfl, (X1.same sm2).p, by omega, by omega, hlt1.imp (fun _ _ => sqT_same sm2), by omega, by omega, fun H3 u3 o3 s4 sm3 hu3 hO3 hS3 => ⟨u3, _, 1, .ref s4, rfl, rfl, hu3, rfl, ?_⟩⟩
    have fwa : Fits (rs ++ [[none]]).length (zs ++ [1]) (widL 998 999 (advA 0 zs rs t ((c : Nat) : Int) L)) := by rw [List.length_append, List.length_singleton]; exact fits_wid fa
    show qNe _ _ _ _ _
    refine ne_same (n := 3) (dp_state (st3.imp fun _ _ => sqT_same sm3)) (dp_state hS3) (pld_st _ _) (okD_layS hw fwa) (by decide) ⟨false, rfl, ite_no rfl ?_⟩
    have sm23 := sm2.trans sm3
    have XW3 := XW.same sm23
    have smA := sm1.trans sm23
    clear st3 hu3 hO3 hS3 hlt1 X1 XW sm1 sm2 sm3 sm23
    show bT _ _ _
    subst eT
    refine seq_abs fun bT eT => ?_
    obtain ⟨ca, sh, hs1, hL⟩ := XW3.s.ex
    obtain ⟨us, hS1, hS2⟩ := hL.s
    have hul := segT_len hS2
    refine ⟨.ref s2, rfl, s2, _, 1, .ref ca, rfl, rfl, hs1, rfl, ?_⟩
    show bT _ _ _
    subst eT
    refine seq_abs fun bT eT => ?_
    refine ⟨.ref s2, rfl, s2, _, 2, .ref sh, rfl, rfl, hs1, rfl, sh, rfl, ⟨_, hS1⟩, for_tup (xs := us.map V.ref) (fun i σ H' => (∃ g y7, σ = [some (.ref p), some (.ref st), some (.ref lt), some (.int (c : Nat)), some (.ref o), some (.ref s2), some (.ref g), y7] ∧ SqT K H' g (((widL 998 999 L).1 ++ ((widL 998 999 L).2.take i).flatten).map V.int)) ∧ Same H3 H')
      ⟨⟨_, _, rfl, by rw [List.take_zero, List.flatten_nil, List.append_nil]; exact hL.c⟩, Same.refl H3⟩ (fun i σ H' _ h => sqT_same h.2 hS1) (fun i v σ H' hv ⟨⟨g, y7, es, hg⟩, sm⟩ => ?_) (fun σ H' ⟨⟨g, y7, es, hg⟩, sm⟩ => ?_)⟩
    · subst es
      obtain ⟨q1, hq1, rfl⟩ := refs_lt hv
      obtain ⟨row, hrow, hq2⟩ := segT_at hS2 hq1
      have lrow := flat_take_len (widL 998 999 L).2 (i + 1)
      have lj : (widL 998 999 L).1.length + (widL 998 999 L).2.flatten.length = (join (widL 998 999 L)).length := by
        unfold join
        rw [List.length_append]
      rw [flat_take hrow, List.length_append] at lrow
      refine ⟨.ref g, rfl, .ref q1, rfl, ?_⟩
      show qCat _ _ _ _ _
      refine cat_go hg (sqT_same sm hq2) (by rw [List.length_map, List.length_map, List.length_append]; omega) fun H4 u4 s4 c4 => ⟨⟨_, _, rfl, ?_⟩, sm.trans s4⟩
      rw [flat_take hrow, ← List.append_assoc, List.map_append]
      exact c4
    · subst es
      rw [List.length_map, hul, List.take_length] at hg
      have hg : SqT K H' g ((join (widL 998 999 L)).map V.int) := hg
      have XW4 := XW3.same sm
      have smB := smA.trans sm
      clear XW3 hs1 hL hS1 hS2
      show bT _ _ _
      subst eT
      refine ⟨.ref o, rfl, .ref s2, rfl, .ref g, rfl, ?_⟩
      have go : GoalOk (join (widL 998 999 L)) (join (widL 998 999 L)) := ⟨rfl, ow.p, List.Perm.refl _⟩
      show qFew _ _ _ _ _ _ _ _ _
      refine go_few XW4 hg (by omega) (fun z => absurd go z) (fun _ z => absurd ⟨by decide, by decide⟩ z) (fun _ _ H5 sm5 => ?_)
      rw [few_zero hw t fw ndw]
      refine ⟨rfl, true, by rw [int_eqV]; rfl, ?_⟩
      rw [if_pos rfl]
      refine ⟨(by show 1 ≤ sizeLine; decide), fun D hD => ⟨.ref o, rfl, .ref s2, rfl, ?_⟩⟩
      have sm6 := same_upd (o := .lst [.int 998]) hD
      have kD : (upd H5 D (.lst [.int 998])) D = some (.lst (([998] : List Int).map V.int)) := upd_same
      generalize upd H5 D (.lst [.int 998]) = H6 at sm6 kD ⊢
      show qFamilies _ _ _ _ _
      refine go_families ((XW4.same sm5).same sm6) fun ys pm _ H7 f sm7 hr7 => ?_
      obtain ⟨b1, b2⟩ := fams_size hw t fw pm
      obtain ⟨o1, o2⟩ := ok_fams b1 b2
      have fi := fam_idle X.v hw t X.o.f ndw pm
      have pl : pld (dLi9 [998]) = true := by unfold dLi9 pld; exact pldAll_int _
      refine ⟨dLi9 [998], _, .lst (.inl (.inl (sm7 _ _ kD))) (dpAll_int _), dp_rows hr7, shaped_of (n := 1) pl (okD_l (by decide) (okDs_int _ _)) (by decide), shaped_of (n := 2) o2 o1 (by decide), ?_⟩
      have an : ((fams (join (widL 998 999 L)) (inv (wh (rs ++ [[none]]).length (zs ++ [1]) (rs ++ [[none]]) t)) ys).map dLi9).any (fun z => PyData.eqv z (dLi9 [998])) = true :=
        List.any_eq_true.mpr ⟨dLi9 [998], List.mem_map.mpr ⟨[998], fi, rfl⟩, (eqv_pld _ _ pl pl).mpr rfl⟩
      rw [an]
      exact q _ (((smB.trans sm5).trans sm6).trans sm7)
end
end Sv
set_option maxHeartbeats 8000000
namespace Sv
open PySem PySem.Spec PyProof.Rows L2 LamX NdefX
theorem lsm_of {zs : List Int} {rs : List Ro} (hv : Val zs rs) {L : Lay Int} (hf : Fits rs.length zs L) : LSm L := by
  obtain ⟨f1, f2⟩ := fit_at hf
  have z1 := hv.z1
  have r1 := hv.r1
  refine ⟨by omega, by omega, fun s hs => ?_⟩
  obtain ⟨i, hi⟩ := List.mem_iff_getElem?.mp hs
  have := fit_row hf hv.z2 hi
  omega
theorem stOk_ren {zs : List Int} {rs : List Ro} {t : Int} {L : Lay Int} (o : StOk zs rs t L) : StOk zs rs t (mapL (fun x => 1000 - x) L) := by
  refine ⟨o.t, ⟨by show (L.1.map _).length = _; rw [List.length_map]; exact o.f.1, ?_⟩, ⟨fun x hx => ?_, ?_⟩⟩
  · show (L.2.map (List.map fun x => 1000 - x)).map List.length = _
    rw [List.map_map, ← o.f.2]
    exact List.map_congr_left fun l _ => List.length_map _
  · rw [join_map] at hx
    obtain ⟨y, hy, rfl⟩ := List.mem_map.mp hx
    have := o.p.1 y hy
    omega
  · rw [join_map]
    refine List.Pairwise.map _ (fun a b h z => h ?_) o.p.2
    omega
theorem lft_lt {zs : List Int} {rs : List Ro} (hv : Val zs rs) (t : Int) {i k q : Nat} (h : lft zs rs t i k = some q) : q < zs.length := by
  unfold lft vsh at h
  split at h
  · cases hv2 : List.find? (fun p : Nat × Nat => decide (p.1 = pos zs rs t k i)) (vis rs (t + (k : Nat))) with
    | none => rw [hv2] at h; cases h
    | some p =>
      rw [hv2] at h
      have h : p.2 = q := Option.some.inj h
      rw [← h]
      exact vis_lt (fun r hm => (hv.ro r hm).2) _ p (List.mem_of_find?_eq_some hv2)
  · cases h
theorem stamps_lt {zs : List Int} {rs : List Ro} (hv : Val zs rs) (t : Int) {i c j q : Nat} {xs : List V} (h : StampsV (lft zs rs t i) c xs) (hq : xs[j]? = some (.int (q : Nat))) : q < zs.length := by
  rcases h with ⟨rfl, _⟩ | ⟨_, h⟩
  · simp at hq
  · obtain ⟨m, _, _, e⟩ := h j _ hq
    cases hF : lft zs rs t i m with
    | none => rw [hF] at e; cases e
    | some p =>
      rw [hF] at e
      have := V_int_nat e
      subst this
      exact lft_lt hv t hF
theorem row_ints20 {F : Nat → Option Nat} {c : Nat} {xs : List V} (h : StampsV F c xs) : ∃ l : List Int, xs = l.map V.int := by
  have al : ∀ v ∈ xs, ∃ z : Int, v = .int z := fun v hv => by
    rcases h with ⟨rfl, _⟩ | ⟨_, h2⟩
    · cases hv
    · obtain ⟨j, hj⟩ := List.mem_iff_getElem?.mp hv
      obtain ⟨m, m1, _, m3⟩ := h2 j v hj
      cases e : F m with
      | none => rw [e] at m1; cases m1
      | some b => exact ⟨b, by rw [m3, e]; rfl⟩
  refine ⟨xs.map fun v => match v with | .int z => z | _ => 0, ?_⟩
  rw [List.map_map]
  refine List.ext_getElem? fun j => ?_
  rw [List.getElem?_map]
  cases hj : xs[j]? with
  | none => rfl
  | some v =>
    obtain ⟨z, rfl⟩ := al v (List.mem_of_getElem? hj)
    rfl
theorem atI_end20 {xs : List V} {v : V} (h : xs[xs.length - 1]? = some v) : atI xs (-1) = some v := by
  have hn : xs ≠ [] := fun z => by
    rw [z] at h
    simp at h
  have e : atI (xs.dropLast ++ [xs.getLast hn]) (-1) = some (xs.getLast hn) := atI_last _ _
  rw [List.dropLast_concat_getLast] at e
  rw [e, List.getLast_eq_getElem]
  exact congrArg some (List.getElem?_eq_some_iff.mp h).2
theorem dp_tail20 {K : PySem.W.Frag} {H : Hp} {b ca sh : Addr} {L : Lay Int} (h : SqT K H b [.ref ca, .ref sh]) (y : LayT K H ca sh L.1 L.2) : Dp K H (.ref b) (dTl L) := by
  obtain ⟨qs, h3, h4⟩ := y.s
  exact .tup h (.cons (dp_ti y.c) (.cons (.tup h3 (dpAll_ti h4)) .nil))
theorem cut1 (x y z : V) : cutV [x, y, z] (some (1 : Int)) none = [y, z] := cut_from (k := 1)
theorem okD_tail {zs : List Int} {rs : List Ro} {L : Lay Int} (hv : Val zs rs) (hf : Fits rs.length zs L) : okD 3 (dTl L) = true := by
  obtain ⟨h1, h2, h3⟩ := lsm_of hv hf
  exact okD_tl (n := 0) h1 h2 h3
theorem firstV_dp {K : PySem.W.Frag} {H : Hp} {f : Nat → Bool} {v : V} (h : FirstV f v) : ∃ d, Dp K H v d ∧ pld d = true ∧ okD 1 d = true := by
  rcases h with ⟨k, rfl, _⟩ | ⟨rfl, _⟩
  · exact ⟨_, .int _, pld_int _, okD_i _ _⟩
  · exact ⟨_, .non, by unfold pld; rfl, rfl⟩
structure B20 (K : PySem.W.Frag) (H : Hp) (h l p s s2 : Addr) (zs : List Int) (rs : List Ro) (t : Int) (L : Lay Int) (c : Nat) : Prop where
  w : LawH H h l
  x : PS0 K H p s zs rs t L
  y : StateAt K H s2 (t + (c : Nat)) (advA 0 zs rs t (c : Nat) L)
theorem B20.s {K : PySem.W.Frag} {H H' : Hp} {h l p s s2 : Addr} {zs : List Int} {rs : List Ro} {t : Int} {L : Lay Int} {c : Nat} (b : B20 K H h l p s s2 zs rs t L c) (e : Same H H') : B20 K H' h l p s s2 zs rs t L c :=
  ⟨b.w.same e, b.x.same e, b.y.same e⟩
theorem B20.n {K : PySem.W.Frag} {H H' : Hp} {h l p s s2 : Addr} {zs : List Int} {rs : List Ro} {t : Int} {L : Lay Int} {c : Nat} (b : B20 K H h l p s s2 zs rs t L c) (g : LawH H' h l) (e : SameX h l H H') : B20 K H' h l p s s2 zs rs t L c :=
  ⟨g, b.x.imp (fun _ _ z => sqT_x b.w e z), b.y.imp (fun _ _ z => sqT_x b.w e z)⟩
theorem bnd20 {R : Nat} {k : Int} (h1 : -1000 ≤ k) (h2 : k ≤ 1000) (h3 : R ≤ 60) : -60000 ≤ (R : Int) * k ∧ (R : Int) * k ≤ 60000 := by
  have e1 : (R : Int) * k ≤ (R : Int) * 1000 := Int.mul_le_mul_of_nonneg_left h2 (by omega)
  have e2 : (R : Int) * (-1000) ≤ (R : Int) * k := Int.mul_le_mul_of_nonneg_left h1 (by omega)
  omega
section
variable {P : Program} {w : World} {K : PySem.W.Frag} {mg : Str → Option Value} {base : Heap}
def nLaw : List Str := ["_law_script", "_law_h", "_law_turn", "_law_plan_here", "_law_state_here", "_law_far", "_law_later", "_law_parcel", "_law_by", "_law_other", "_law_hence", "_law_shelf", "_law_due", "_law_shift", "_law_again", "_law_one"]
theorem scLaw : FnScope nLaw ["_law_script"] (defScope sLaw) := ⟨rfl, rfl, rfl, by decide +kernel, rfl, by decide +kernel, by decide +kernel⟩
def spLaw (K : PySem.W.Frag) : Sp := fun vs H Q _ => ∃ (a : Addr) (ns : List Int), vs = [.ref a] ∧ SqL K H a (ns.map V.int) ∧ ns.length ≤ 63 ∧ ∀ H', Q (.bl true) H'
theorem ok_law {f : Addr} {fd : FuncData} (T : Bd P K mg) (F : Df K mg "law" sLaw ["_law_script"] f fd) : FnOk P w K mg base CX0 14 f fd ["_law_script"] (spLaw K) := by
  have GM : FnOk P w K mg base CX0 1 T.aLMix T.dLMix ["_law_script", "_law_seed"] (spMix K) := ok_mix T.LMix.F T.bt
  have GN : FnOk P w K mg base CX0 1 T.aLNext T.dLNext ["_law_h", "_law_limit"] qNext := by unfold qNext; exact ok_next T.LNext.F T.bt
  have GP : FnOk P w K mg base CX0 2 T.aLPlan T.dLPlan ["_law_h", "_law_shelves", "_law_carriers"] (qPlanG K) := by unfold qPlanG; exact ok_planG T
  have GS : FnOk P w K mg base CX0 2 T.aLState T.dLState ["_law_h", "_law_plan_here"] (qState K) := by unfold qState; exact ok_state T
  have GR : FnOk P w K mg base CX0 1 T.aLRenamed T.dLRenamed ["_law_state_here"] (spRn K) := ok_rn T
  have GV : FnOk P w K mg base CX0 2 T.aLLawMoved T.dLLawMoved ["_law_plan_here", "_law_state_here", "_law_by"] (spMv K) := ok_mv T
  have GMR : FnOk P w K mg base CX0 13 T.aLMoreRight T.dLMoreRight ["_law_plan_here", "_law_state_here", "_law_later", "_law_far"] (spMR K) := ok_mr T
  have JA : FnOk P w K mg base (L2.CX P w) 12 T.aAdvance T.dAdvance ["plan", "state", "count"] (qAdvance K) := adv_ok T
  have JW : FnOk P w K mg base (L2.CX P w) 12 T.aPeriod T.dPeriod ["plan", "state"] (qPeriod K) := per_ok T
  have JT : FnOk P w K mg base (L2.CX P w) 12 T.aTimesLeft T.dTimesLeft ["plan", "state", "parcel", "shelf", "count"] (qTimesLeft K) := timesLeft_ok T
  have JS : FnOk P w K mg base (L2.CX P w) 12 T.aStamps T.dStamps ["plan", "state", "parcel", "count"] (qStamps K) := stamps_ok T
  have JN : FnOk P w K mg base (L2.CX P w) 12 T.aPattern T.dPattern ["plan"] (qPattern K) := pattern_ok T
  have JF : FnOk P w K mg base (L2.CX P w) 12 T.aFamilies T.dFamilies ["plan", "state"] (qFamilies K) := families_ok T
  have JI : FnOk P w K mg base (L2.CX P w) 12 T.aFirstMeeting T.dFirstMeeting ["plan", "state", "one", "other"] (qFirst K) := first_ok T
  refine F.F.ok scLaw (fun vs H Q E h => ?_) (fun cdv A outer s H vs Q E hr h => ?_)
  · obtain ⟨a, ns, rfl, _⟩ := h
    rfl
  · obtain ⟨a, ns, rfl, hA, hl, q⟩ := h
    refine ⟨_, pss_cons (ps_set (i := 1) scLaw.nd rfl (Or.inl rfl) (pe_call (E := E0) GM (hr.mono (by decide)) (by rfl) T.LMix.g T.LMix.F.kp T.LMix.b .nil pass0 (pa_cons (pv 0) (pa_cons (pe_int) pa_nil))))
      (pss_cons (ps_for PassesOwn.never rfl (pi_range1 (by rfl) T.bt.range (pa_cons (pe_int) pa_nil)) (pg_name (i := 2) scLaw.nd rfl (Or.inl rfl))
        (pss_cons (ps_set (i := 3) scLaw.nd rfl (Or.inr rfl) (pe_call (E := E0) GP (hr.mono (by decide)) (by rfl) T.LPlan.g T.LPlan.F.kp T.LPlan.b .nil pass0 (pa_cons (pv 1) (pa_cons (pe_ix ix_list (pe_lst (pa_cons (pe_int) (pa_cons (pe_int) pa_nil))) (pe_call (E := E0) GN (hr.mono (by decide)) (by rfl) T.LNext.g T.LNext.F.kp T.LNext.b .nil pass0 (pa_cons (pv 1) (pa_cons (pe_int) pa_nil))) (fun _ _ => rfl)) (pa_cons (pe_int) pa_nil)))))
      (pss_cons (ps_par (i := 4) (j := 5) rfl scLaw.nd rfl rfl (by decide) rfl rfl (pa_cons (pe_call (E := E0) GS (hr.mono (by decide)) (by rfl) T.LState.g T.LState.F.kp T.LState.b .nil pass0 (pa_cons (pv 1) (pa_cons (pv 3) pa_nil))) (pa_cons (pe_call (E := E0) GN (hr.mono (by decide)) (by rfl) T.LNext.g T.LNext.F.kp T.LNext.b .nil pass0 (pa_cons (pv 1) (pa_cons (pe_ix ix_list (pe_lst (pa_cons (pe_int) (pa_cons (pe_op op_pow pe_int pe_int) pa_nil))) (pe_call (E := E0) GN (hr.mono (by decide)) (by rfl) T.LNext.g T.LNext.F.kp T.LNext.b .nil pass0 (pa_cons (pv 1) (pa_cons (pe_int) pa_nil))) (fun _ _ => rfl)) pa_nil))) pa_nil)) (by rfl))
      (pss_cons (ps_par (i := 6) (j := 7) rfl scLaw.nd rfl rfl (by decide) rfl rfl (pa_cons (pe_call (E := E0) JA (hr.mono (by decide)) (by rfl) T.Advance.g T.Advance.F.kp T.Advance.b .nil passL (pa_cons (pv 3) (pa_cons (pv 4) (pa_cons (pv 5) pa_nil)))) (pa_cons (pe_ix ix_tup (pe_ix ix_tup (pv 4) (pe_int) (fun _ _ => rfl)) (pe_int) (fun _ _ => rfl)) pa_nil)) (by rfl))
      (pss_cons (ps_if (pt_cmpR (op_neQ hr.units) (pe_call (E := E0) JA (hr.mono (by decide)) (by rfl) T.Advance.g T.Advance.F.kp T.Advance.b .nil passL (pa_cons (pv 3) (pa_cons (pe_call (E := E0) GR (hr.mono (by decide)) (by rfl) T.LRenamed.g T.LRenamed.F.kp T.LRenamed.b .nil pass0 (pa_cons (pv 4) pa_nil)) (pa_cons (pv 5) pa_nil)))) (pe_call (E := E0) GR (hr.mono (by decide)) (by rfl) T.LRenamed.g T.LRenamed.F.kp T.LRenamed.b .nil pass0 (pa_cons (pv 6) pa_nil)) (nomark _)) pss_never pss_nil)
      (pss_cons (ps_set (i := 8) scLaw.nd rfl (Or.inr rfl) (pe_call (E := E0) GN (hr.mono (by decide)) (by rfl) T.LNext.g T.LNext.F.kp T.LNext.b .nil pass0 (pa_cons (pv 1) (pa_cons (pe_callB call_len_seq (by rfl) T.bt.len b_len (pa_cons (pe_ix ix_tup (pv 3) (pe_int) (fun _ _ => rfl)) pa_nil)) pa_nil))))
      (pss_cons (ps_asg (pe_call (E := E0) GV (hr.mono (by decide)) (by rfl) T.LLawMoved.g T.LLawMoved.F.kp T.LLawMoved.b .nil pass0 (pa_cons (pv 3) (pa_cons (pv 4) (pa_cons (pv 8) pa_nil)))) (pg_tup rfl (pgs_cons (pg_name (i := 9) scLaw.nd rfl (.inl rfl)) (pgs_cons (pg_name (i := 10) scLaw.nd rfl (.inl rfl)) pgs_nil))))
      (pss_cons (ps_if (pt_cmpR (op_neQ hr.units) (pe_call (E := E0) JA (hr.mono (by decide)) (by rfl) T.Advance.g T.Advance.F.kp T.Advance.b .nil passL (pa_cons (pv 9) (pa_cons (pv 10) (pa_cons (pv 5) pa_nil)))) (pe_ix ix_tup (pe_call (E := E0) GV (hr.mono (by decide)) (by rfl) T.LLawMoved.g T.LLawMoved.F.kp T.LLawMoved.b .nil pass0 (pa_cons (pv 3) (pa_cons (pv 6) (pa_cons (pv 8) pa_nil)))) (pe_int) (fun _ _ => rfl)) (nomark _)) pss_never pss_nil)
      (pss_cons (ps_if (pt_cmpR op_ne (pe_call (E := E0) JW (hr.mono (by decide)) (by rfl) T.Period.g T.Period.F.kp T.Period.b .nil passL (pa_cons (pv 9) (pa_cons (pv 10) pa_nil))) (pe_call (E := E0) JW (hr.mono (by decide)) (by rfl) T.Period.g T.Period.F.kp T.Period.b .nil passL (pa_cons (pv 3) (pa_cons (pv 4) pa_nil))) (nomark _)) pss_never pss_nil)
      (pss_cons (ps_set (i := 11) scLaw.nd rfl (Or.inl rfl) (pe_call (E := E0) GN (hr.mono (by decide)) (by rfl) T.LNext.g T.LNext.F.kp T.LNext.b .nil pass0 (pa_cons (pv 1) (pa_cons (pe_callB call_len_seq (by rfl) T.bt.len b_len (pa_cons (pe_ix ix_tup (pv 3) (pe_int) (fun _ _ => rfl)) pa_nil)) pa_nil))))
      (pss_cons (ps_set (i := 12) scLaw.nd rfl (Or.inl rfl) (pe_call (E := E0) JT (hr.mono (by decide)) (by rfl) T.TimesLeft.g T.TimesLeft.F.kp T.TimesLeft.b .nil passL (pa_cons (pv 3) (pa_cons (pv 4) (pa_cons (pv 7) (pa_cons (pv 11) (pa_cons (pv 5) pa_nil)))))))
      (pss_cons (ps_if (pt_cmpR op_ne (pe_call (E := E0) JT (hr.mono (by decide)) (by rfl) T.TimesLeft.g T.TimesLeft.F.kp T.TimesLeft.b .nil passL (pa_cons (pv 9) (pa_cons (pv 10) (pa_cons (pv 7) (pa_cons (pe_op op_mod (pe_op op_sub (pv 11) (pv 8)) (pe_callB call_len_seq (by rfl) T.bt.len b_len (pa_cons (pe_ix ix_tup (pv 3) (pe_int) (fun _ _ => rfl)) pa_nil))) (pa_cons (pv 5) pa_nil)))))) (pv 12) (nomark _)) pss_never pss_nil)
      (pss_cons (ps_set (i := 12) scLaw.nd rfl (Or.inl rfl) (pe_call (E := E0) JS (hr.mono (by decide)) (by rfl) T.Stamps.g T.Stamps.F.kp T.Stamps.b .nil passL (pa_cons (pv 3) (pa_cons (pv 4) (pa_cons (pv 7) (pa_cons (pe_int) pa_nil))))))
      (pss_cons (ps_if (pt_cmpR (op_neQ hr.units) (pe_lc (own := [("_law_one", 15)]) (g := gName 15) (tt := tYes) (te := tOp (rI (fun _ j => 0 < j) fun i j => .int (i % j)) (tInt (tOp (rI0 fun i j => .int (i + j)) (tVar 15) (tVar 8))) (tLenS K (tOp (rIxT K) (tVar 3) (tC (.int 0))))) rfl scLaw.nd (pi_list (pe_call (E := E0) JS (hr.mono (by decide)) (by rfl) T.Stamps.g T.Stamps.F.kp T.Stamps.b .nil passL (pa_cons (pv 9) (pa_cons (pv 10) (pa_cons (pv 7) (pa_cons (pe_int) pa_nil)))))) (blkOk_by (N := nLaw) (sc := defScope sLaw) (by decide +kernel)) (fun _ _ _ _ _ => pg_name (i := 15) scLaw.nd rfl (Or.inl rfl)) (fun _ _ _ _ _ => pts_nil) (fun _ _ _ _ _ => pe_op op_mod (pe_callTy call_int1 (by rfl) T.bt.int b_int (pa_cons (pe_op op_add (pv 15) (pv 8)) pa_nil)) (pe_callB call_len_seq (by rfl) T.bt.len b_len (pa_cons (pe_ix ix_tup (pv 3) (pe_int) (fun _ _ => rfl)) pa_nil)))) (pv 12) (nomark _)) pss_never pss_nil)
      (pss_cons (ps_set (i := 13) scLaw.nd rfl (Or.inl rfl) (pe_op op_mul (pe_call (E := E0) JN (hr.mono (by decide)) (by rfl) T.Pattern.g T.Pattern.F.kp T.Pattern.b .nil passL (pa_cons (pv 3) pa_nil)) (pe_op op_sub (pe_call (E := E0) GN (hr.mono (by decide)) (by rfl) T.LNext.g T.LNext.F.kp T.LNext.b .nil pass0 (pa_cons (pv 1) (pa_cons (pe_int) pa_nil))) (pe_int))))
      (pss_cons (ps_set (i := 14) scLaw.nd rfl (Or.inl rfl) (pe_tup (pa_cons (pe_op op_add (pe_ix ix_tup (pv 4) (pe_int) (fun _ _ => rfl)) (pv 13)) (pa_cons (pe_ix ix_tup (pv 4) (pe_int) (fun _ _ => rfl)) (pa_cons (pe_ix ix_tup (pv 4) (pe_int) (fun _ _ => rfl)) pa_nil)))))
      (pss_cons (ps_if ((pw_or (pt_cmpR (op_neQ hr.units) (pe_slice sl_tupQ (pe_call (E := E0) JA (hr.mono (by decide)) (by rfl) T.Advance.g T.Advance.F.kp T.Advance.b .nil passL (pa_cons (pv 3) (pa_cons (pv 14) (pa_cons (pv 5) pa_nil)))) (po_some (pe_int)) (po_none)) (pe_slice sl_tupQ (pv 6) (po_some (pe_int)) (po_none)) (nomark _)) (pw_or1 (pt_cmpR (op_neQ hr.units) (pe_call (E := E0) JF (hr.mono (by decide)) (by rfl) T.Families.g T.Families.F.kp T.Families.b .nil passL (pa_cons (pv 3) (pa_cons (pv 14) pa_nil))) (pe_call (E := E0) JF (hr.mono (by decide)) (by rfl) T.Families.g T.Families.F.kp T.Families.b .nil passL (pa_cons (pv 3) (pa_cons (pv 4) pa_nil))) (nomark _)))).pt) pss_never pss_nil)
      (pss_cons (ps_set (i := 12) scLaw.nd rfl (Or.inl rfl) (pe_call (E := E0) JI (hr.mono (by decide)) (by rfl) T.FirstMeeting.g T.FirstMeeting.F.kp T.FirstMeeting.b .nil passL (pa_cons (pv 3) (pa_cons (pv 4) (pa_cons (pv 7) (pa_cons (pe_ix ix_tup (pe_ix ix_tup (pv 4) (pe_int) (fun _ _ => rfl)) (pe_un un_neg pe_int) (fun _ _ => rfl)) pa_nil))))))
      (pss_cons (ps_if (pt_cmpR (op_neQ hr.units) (pe_call (E := E0) JI (hr.mono (by decide)) (by rfl) T.FirstMeeting.g T.FirstMeeting.F.kp T.FirstMeeting.b .nil passL (pa_cons (pv 3) (pa_cons (pv 14) (pa_cons (pv 7) (pa_cons (pe_ix ix_tup (pe_ix ix_tup (pv 4) (pe_int) (fun _ _ => rfl)) (pe_un un_neg pe_int) (fun _ _ => rfl)) pa_nil))))) (pv 12) (nomark _)) pss_never pss_nil)
      (pss_one (ps_if ((pw_and (pt_cmpR op_lt (pe_callB call_len_seq (by rfl) T.bt.len b_len (pa_cons (pe_ix ix_tup (pv 3) (pe_int) (fun _ _ => rfl)) pa_nil)) (pe_int) (nomark _)) (pw_and (pt_cmpR op_lt (pe_callB call_len_seq (by rfl) T.bt.len b_len (pa_cons (pe_ix ix_tup (pv 3) (pe_int) (fun _ _ => rfl)) pa_nil)) (pe_int) (nomark _)) (pw_and1 (pt_not (pt_val (pe_call (E := E0) GMR (hr.mono (by decide)) (by rfl) T.LMoreRight.g T.LMoreRight.F.kp T.LMoreRight.b .nil pass0 (pa_cons (pv 3) (pa_cons (pv 4) (pa_cons (pv 6) (pa_cons (pv 5) pa_nil)))))))))).pt) pss_never pss_nil)))))))))))))))))))))
      (pss_one (ps_ret (pe_bl)))), ?_⟩
    have eS : L2.start nLaw [.ref a] = [some (.ref a), none, none, none, none, none, none, none, none, none, none, none, none, none, none, none] := rfl
    rw [eS]
    refine seq_abs fun bT eT => ?_
    refine ⟨.ref a, rfl, a, ns, 20, rfl, hA, hl, fun H1 h l LH sm nh nl => ?_⟩
    show bT _ _ _
    subst eT
    refine seq_abs fun bT eT => ?_
    refine ⟨2, rfl, by omega, by omega, ?_⟩
    refine for_range (lo := 0) (n := (2 : Int).toNat) (fun i σ H' => (∃ x0 x2 x3 x4 x5 x6 x7 x8 x9 x10 x11 x12 x13 x14 x15, σ = [x0, some (.ref h), x2, x3, x4, x5, x6, x7, x8, x9, x10, x11, x12, x13, x14, x15]) ∧ LawH H' h l)
      ⟨⟨_, _, _, _, _, _, _, _, _, _, _, _, _, _, _, rfl⟩, LH⟩ (fun i σ H2 hi ⟨⟨x0, x2, x3, x4, x5, x6, x7, x8, x9, x10, x11, x12, x13, x14, x15, es⟩, W2⟩ => ?_) (fun σ H2 _ => by show bT _ _ _; subst eT; exact q _)
    subst es
    clear LH sm nh nl
    have b64 : (100000000000000000 : Int) < 2 ^ 64 := by decide
    have m64 : -(2 ^ 64 : Int) < 0 := by decide
    refine seq_abs fun bT2 eT2 => ?_
    -- the plan
    refine ⟨.ref h, rfl, (by show 2 ≤ sizeLine; decide), fun D hD => ⟨.ref h, rfl, ?_⟩⟩
    have W3 := W2.same (same_upd (o := .lst [.int 3, .int 8]) hD)
    have nD := W2.nh hD
    have kD : (upd H2 D (.lst [.int 3, .int 8])) D = some (.lst (([3, 8] : List Int).map V.int)) := upd_same
    generalize upd H2 D (.lst [.int 3, .int 8]) = H3 at W3 kD ⊢
    clear W2 hD
    show qNext _ _ _ _
    refine go_next W3 (by decide) (by decide) fun w1 H4 hw1 L4 x4' => ?_
    obtain ⟨m, hm, hm2⟩ : ∃ m : Int, ([3, 8] : List Int)[w1]? = some m ∧ 1 ≤ m ∧ m ≤ 12 := by
      have : w1 = 0 ∨ w1 = 1 := by omega
      rcases this with rfl | rfl
      · exact ⟨3, rfl, by decide, by decide⟩
      · exact ⟨8, rfl, by decide, by decide⟩
    refine ⟨D, _, _, .int m, rfl, rfl, .inl (.inl (x4' _ _ nD.1 nD.2 kD)), atI_nat (by rw [List.getElem?_map, hm]; rfl), ?_⟩
    clear W3 kD nD hm hw1 x4'
    show qPlanG _ _ _ _ _
    refine go_planG L4 hm2 ⟨by decide, by decide⟩ fun H5 p zs rs S5 hp5 hv _ _ => ?_
    have W5 := S5.law
    clear S5 hm2 L4
    show bT2 _ _ _
    subst eT2
    refine seq_abs fun bT2 eT2 => ?_
    -- the state and how far
    refine ⟨.ref h, rfl, .ref p, rfl, ?_⟩
    show qState _ _ _ _ _
    refine go_state97 W5 hp5 hv fun H6 st t L S6 hs6 ok0 ht0 h97 => ?_
    have W6 := S6.law
    have X6 : PS0 K H6 p st zs rs t L := ⟨plan_imp hp5 (sqT_st W5 S6), hv, hs6, ok0⟩
    clear W5 S6 hp5 hs6
    refine ⟨.ref h, rfl, 10, 17, rfl, rfl, ⟨by decide, by decide, by decide⟩, (by show 2 ≤ sizeLine; decide), fun D hD => ⟨.ref h, rfl, ?_⟩⟩
    have e17 : (10 : Int) ^ (17 : Int).toNat = 100000000000000000 := by decide
    have smD := same_upd (o := .lst [.int 30, .int ((10 : Int) ^ (17 : Int).toNat)]) hD
    have nD := W6.nh hD
    have kD : (upd H6 D (.lst [.int 30, .int ((10 : Int) ^ (17 : Int).toNat)])) D = some (.lst (([30, 100000000000000000] : List Int).map V.int)) := by
      rw [upd_same, e17]
      rfl
    have W8 := W6.same smD
    have X8 := X6.same smD
    generalize upd H6 D (.lst [.int 30, .int ((10 : Int) ^ (17 : Int).toNat)]) = H8 at W8 X8 kD ⊢
    clear W6 X6 smD hD
    show qNext _ _ _ _
    refine go_next W8 (by decide) (by decide) fun w2 H9 hw2 L9 x9' => ?_
    obtain ⟨m, hm, hm2⟩ : ∃ m : Int, ([30, 100000000000000000] : List Int)[w2]? = some m ∧ 1 ≤ m ∧ m ≤ 100000000000000000 := by
      have : w2 = 0 ∨ w2 = 1 := by omega
      rcases this with rfl | rfl
      · exact ⟨30, rfl, by decide, by decide⟩
      · exact ⟨_, rfl, by decide, by decide⟩
    refine ⟨D, _, _, .int m, rfl, rfl, .inl (.inl (x9' _ _ nD.1 nD.2 kD)), atI_nat (by rw [List.getElem?_map, hm]; rfl), ?_⟩
    have X9 := X8.imp fun _ _ z => sqT_x W8 x9' z
    clear W8 X8 kD nD hm hw2 x9'
    show qNext _ _ _ _
    refine go_next L9 (by omega) (by omega) fun far H10 hfar L10 x10' => ⟨_, _, rfl, ?_⟩
    have X10 := X9.imp fun _ _ z => sqT_x L9 x10' z
    have hfar2 : far ≤ 100000000000000000 := by omega
    clear L9 X9 x10' hfar hm2 m
    have hct : CtOk ((far : Nat) : Int) := ⟨by omega, by omega⟩
    have tk : TimeOk (t + ((far : Nat) : Int)) := ⟨by omega, by omega⟩
    have z1 := hv.z1
    have r1 := hv.r1
    have vro := hv.ro
    have vlc := hv.lc1
    have nd0 := ok0.p.2
    have f0 := ok0.f
    have jl := join_len f0
    obtain ⟨fl1, fl2⟩ := fit_at f0
    have lsm := lsm_of hv f0
    have fA := advA_fits (0 : Int) zs rs t ((far : Nat) : Int) L
    obtain ⟨fA1, fA2⟩ := fit_at fA
    have lsmA := lsm_of hv fA
    show bT2 _ _ _
    subst eT2
    refine seq_abs fun bT2 eT2 => ?_
    -- later
    refine ⟨.ref p, rfl, .ref st, rfl, .int (far : Nat), rfl, ?_⟩
    show qAdvance _ _ _ _ _
    refine go_advance X10 hct fun H11 s2 sm11 hs11 => ?_
    have B : B20 K H11 h l p st s2 zs rs t L far := ⟨L10.same sm11, X10.same sm11, hs11⟩
    clear L10 X10 sm11 hs11
    obtain ⟨y0, hy0⟩ : ∃ y0, L.1[0]? = some y0 := ⟨_, List.getElem?_eq_getElem (by omega)⟩
    have hj0 : (join L)[0]? = some y0 := by
      unfold join
      rw [List.getElem?_append_left (by omega)]
      exact hy0
    have hyV : (L.1.map V.int)[0]? = some (.int y0) := by rw [List.getElem?_map, hy0]; rfl
    obtain ⟨ca, sh, hs1, hL⟩ := B.x.s.ex
    refine ⟨.ref st, rfl, st, _, 1, .ref ca, rfl, rfl, hs1, rfl, ca, _, (0 : Nat), .int y0, rfl, rfl, hL.c, atI_nat hyV, _, _, rfl, ?_⟩
    clear hs1 hL ca sh
    show bT2 _ _ _
    subst eT2
    refine seq_abs fun bT2 eT2 => ?_
    -- other names
    refine ⟨.ref p, rfl, .ref st, rfl, st, t, L, rfl, B.x.s, lsm, fun H12 s3 sm12 _ hs12 => ⟨.int (far : Nat), rfl, ?_⟩⟩
    have B12 := B.s sm12
    have XR : PS0 K H12 p s3 zs rs t (mapL (fun x => 1000 - x) L) := ⟨B12.x.p, hv, hs12, stOk_ren ok0⟩
    show qAdvance _ _ _ _ _
    refine go_advance XR hct fun H13 s4 sm13 hs13 => ?_
    rw [adv_map (fun x : Int => 1000 - x) 0 0 hv.rne vlc t far f0] at hs13
    have B13 := B12.s sm13
    clear XR B12 hs12 B sm12 sm13
    refine ⟨.ref s2, rfl, s2, _, advA 0 zs rs t (far : Nat) L, rfl, B13.y, lsmA, fun H14 s5 sm14 _ hs14 => ?_⟩
    have B14 := B13.s sm14
    have hs13b := hs13.same sm14
    have okM : okD 3 (dSt (t + ((far : Nat) : Int)) (mapL (fun x => 1000 - x) (advA 0 zs rs t (far : Nat) L))) = true := by
      refine okD_layS hv (stOk_ren (t := 0) (rs := rs) ?_).f
      exact ⟨⟨by decide, by decide⟩, fA, (advA_ok ok0 tk).p⟩
    show qNe _ _ _ _ _
    refine ne_same (n := 3) (dp_state hs13b) (dp_state hs14) (pld_st _ _) okM (by decide) ⟨false, rfl, ite_no rfl ?_⟩
    clear B13 hs13 hs13b hs14 sm14 okM
    show bT2 _ _ _
    subst eT2
    refine seq_abs fun bT2 eT2 => ?_
    -- by how much
    obtain ⟨pa, pb, hp1, hA1, hB0⟩ := B14.x.p.ex
    refine ⟨.ref h, rfl, .ref p, rfl, p, _, 0, .ref pa, rfl, rfl, hp1, rfl, pa, _, rfl, .inr hA1, ?_⟩
    rw [List.length_map]
    show qNext _ _ _ _
    refine go_next B14.w (by omega) (by omega) fun k H15 hk L15 x15' => ?_
    have B15 := B14.n L15 x15'
    clear B14 L15 x15' hp1 hA1 hB0 pa pb
    have hk : k < zs.length := by omega
    show bT2 _ _ _
    subst eT2
    refine seq_abs fun bT2 eT2 => ?_
    -- the shelves turned
    have rl2 : ∀ r ∈ rs, r.length ≤ 900 := fun r hr => by have := (hv.r2 r hr).2; omega
    refine ⟨.ref p, rfl, .ref st, rfl, .int (k : Nat), rfl, p, st, k, zs, rs, t, L, rfl, B15.x.p, by omega, by omega, rl2, by omega, B15.x.s, by omega, fun H16 u16 o hs sm16 hu hO hH => ⟨u16, _, rfl, hu, rfl, _, _, rfl, _, _, rfl, rfl, ?_⟩⟩
    have B16 := B15.s sm16
    have okR := stOk_rot k ok0
    have hvR := val_rot hv hk
    have XO : PS0 K H16 o hs (rotl k zs) (rotR zs.length k rs) t (rotL k L) := ⟨hO, hvR, hH, okR⟩
    clear B15 sm16 hu hO hH
    show bT2 _ _ _
    subst eT2
    refine seq_abs fun bT2 eT2 => ?_
    refine ⟨.ref o, rfl, .ref hs, rfl, .int (far : Nat), rfl, ?_⟩
    show qAdvance _ _ _ _ _
    refine go_advance XO hct fun H17 s6 sm17 hs17 => ?_
    rw [adv_rot 0 rfl hk vro vlc t far f0] at hs17
    have B17 := B16.s sm17
    have XO17 := XO.same sm17
    clear B16 XO sm17
    refine ⟨.ref p, rfl, .ref s2, rfl, .int (k : Nat), rfl, p, s2, k, zs, rs, _, advA 0 zs rs t (far : Nat) L, rfl, B17.x.p, by omega, by omega, rl2, by omega, B17.y, by omega, fun H18 u18 o2 s7 sm18 hu hO hH => ⟨u18, _, 1, .ref s7, rfl, rfl, hu, rfl, ?_⟩⟩
    have B18 := B17.s sm18
    have XO18 := XO17.same sm18
    have hs18 := hs17.same sm18
    have okT : okD 3 (dSt (t + ((far : Nat) : Int)) (rotL k (advA 0 zs rs t (far : Nat) L))) = true :=
      okD_layS hvR (by rw [rotR_len]; exact fits_rot fA)
    show qNe _ _ _ _ _
    refine ne_same (n := 3) (dp_state hs18) (dp_state hH) (pld_st _ _) okT (by decide) ⟨false, rfl, ite_no rfl ?_⟩
    clear B17 XO17 hs17 hs18 hu hO hH sm18 okT
    show bT2 _ _ _
    subst eT2
    refine seq_abs fun bT2 eT2 => ?_
    -- the periods
    refine ⟨.ref o, rfl, .ref hs, rfl, ?_⟩
    show qPeriod _ _ _ _ _
    refine go_period XO18 fun H19 sm19 => ⟨.ref p, rfl, .ref st, rfl, ?_⟩
    rw [perT_rot rfl hk vro vlc t]
    show qPeriod _ _ _ _ _
    refine go_period (B18.s sm19).x fun H20 sm20 => ⟨rfl, _, rfl, ?_⟩
    rw [int_eqV]
    refine ite_no (by rw [decide_eq_true rfl]; rfl) ?_
    have B20' := (B18.s sm19).s sm20
    have XO20 := (XO18.same sm19).same sm20
    clear B18 XO18 sm19 sm20
    show bT2 _ _ _
    subst eT2
    refine seq_abs fun bT2 eT2 => ?_
    -- a shelf
    obtain ⟨pa, pb, hp1, hA1, hB0⟩ := B20'.x.p.ex
    refine ⟨.ref h, rfl, .ref p, rfl, p, _, 0, .ref pa, rfl, rfl, hp1, rfl, pa, _, rfl, .inr hA1, ?_⟩
    rw [List.length_map]
    show qNext _ _ _ _
    refine go_next B20'.w (by omega) (by omega) fun y H21 hy L21 x21' => ?_
    have B21 := B20'.n L21 x21'
    have XO21 := XO20.imp fun _ _ z => sqT_x B20'.w x21' z
    clear B20' XO20 L21 x21' hp1 hA1 hB0 pa pb
    have hy : y < zs.length := by omega
    show bT2 _ _ _
    subst eT2
    refine seq_abs fun bT2 eT2 => ?_
    -- how often it is left there
    refine ⟨.ref p, rfl, .ref st, rfl, .int y0, rfl, .int (y : Nat), rfl, .int (far : Nat), rfl, ?_⟩
    show qTimesLeft _ _ _ _ _
    refine go_TimesLeft (i := 0) B21.x ⟨hj0, ⟨by omega, by omega⟩, by omega⟩ fun H22 sm22 => ?_
    have B22 := B21.s sm22
    have XO22 := XO21.same sm22
    clear B21 XO21 sm22
    show bT2 _ _ _
    subst eT2
    refine seq_abs fun bT2 eT2 => ?_
    obtain ⟨pa, pb, hp1, hA1, hB0⟩ := B22.x.p.ex
    have rl := rix_lt hk hy
    have hjR : (join (rotL k L))[0]? = some y0 := by
      unfold join rotL
      show (L.1 ++ _)[0]? = _
      rw [List.getElem?_append_left (by omega)]
      exact hy0
    refine ⟨.ref o, rfl, .ref hs, rfl, .int y0, rfl, .int (y : Nat), rfl, .int (k : Nat), rfl, _, _, rfl, rfl, .ref p, rfl, p, _, 0, .ref pa, rfl, rfl, hp1, rfl, pa, _, rfl, .inr hA1, ?_⟩
    rw [List.length_map]
    refine ⟨_, _, rfl, rfl, by omega, .int (far : Nat), rfl, ?_⟩
    dsimp only
    rw [rix_mod hk hy]
    show qTimesLeft _ _ _ _ _
    refine go_TimesLeft (i := 0) XO22 ⟨hjR, ⟨by omega, by rw [rotl_len]; omega⟩, by omega⟩ fun H23 sm23 => ⟨_, rfl, rfl, _, rfl, ?_⟩
    have eL : lfB (rotl k zs) (rotR zs.length k rs) t 0 ((rix zs.length k y : Nat) : Int) = lfB zs rs t 0 (y : Nat) :=
      funext fun c => lfB_rot rfl hk vro vlc t c f0 nd0 (by omega) hy
    rw [eL, int_eqV]
    refine ite_no (by rw [decide_eq_true rfl]; rfl) ?_
    have B23 := B22.s sm23
    have XO23 := XO22.same sm23
    clear B22 XO22 sm23 hp1 hA1 hB0 pa pb eL rl
    show bT2 _ _ _
    subst eT2
    refine seq_abs fun bT2 eT2 => ?_
    -- its stamps
    refine ⟨.ref p, rfl, .ref st, rfl, .int y0, rfl, ?_⟩
    show qStamps _ _ _ _ _
    refine go_Stamps (c := 20) (i := 0) B23.x ⟨hj0, by decide⟩ fun H24 f xs sm24 nf kf sv => ?_
    have B24 := B23.s sm24
    have XO24 := XO23.same sm24
    clear B23 XO23 sm24 nf
    show bT2 _ _ _
    subst eT2
    refine seq_abs fun bT2 eT2 => ?_
    refine ⟨.ref o, rfl, .ref hs, rfl, .int y0, rfl, ?_⟩
    show qStamps _ _ _ _ _
    refine go_Stamps (c := 20) (i := 0) XO24 ⟨hjR, by decide⟩ fun H25 f2 ys sm25 nf2 kf2 sv2 => ?_
    have B25 := B24.s sm25
    have XO25 := XO24.same sm25
    have kf25 := sm25 _ _ kf
    clear B24 XO24 sm25 nf2 kf
    have eF : lft (rotl k zs) (rotR zs.length k rs) t 0 = fun c => (lft zs rs t 0 c).map (rix zs.length k) :=
      funext fun c => lft_rot rfl hk vro vlc t c f0 nd0 (by omega)
    rw [eF] at sv2
    obtain ⟨yl, ym⟩ := stampsV_map sv sv2
    obtain ⟨li, rfl⟩ := row_ints20 sv
    have ll : li.length ≤ 20 := by
      rcases sv with ⟨h1, _⟩ | ⟨h1, _⟩
      · have h9 := congrArg List.length h1
        rw [List.length_map] at h9
        have h8 : ([] : List V).length = 0 := rfl
        omega
      · rw [List.length_map] at h1
        omega
    rw [List.length_map] at yl
    obtain ⟨pa, pb, hp1, hA1, hB0⟩ := B25.x.p.ex
    refine ⟨f2, rfl, ⟨_, .inl (.inl kf2)⟩, fun R hR => lc_list (xs := ys) (fun j H9 => Same H25 H9 ∧ H9 R = some (.lst ((li.take j).map V.int)))
      ⟨same_upd hR, upd_same⟩ (fun j H9 _ h => .inl (.inl (h.1 _ _ kf2))) (fun j z H9 hz ⟨sm9, kR⟩ => ?_) (fun H9 ⟨sm9, kR⟩ => ?_)⟩
    · obtain ⟨v, hv1, rfl⟩ := ym j z hz
      have vl := stamps_lt hv t sv hv1
      obtain ⟨v2, hv2, ev⟩ := iV_lt hv1
      have ev := V.int.inj ev
      subst ev
      have rb := rix_back hk vl
      refine ⟨rfl, yes_go ⟨.int ((rix zs.length k v : Nat) : Int), rfl, .int (k : Nat), rfl, _, _, rfl, rfl, .inl ⟨_, rfl, .ref p, rfl, p, _, 0, .ref pa, rfl, rfl, sqT_same sm9 hp1, rfl, pa, _, rfl, .inr (sqT_same sm9 hA1), _, _, rfl, rfl, ?_, ?_⟩⟩⟩
      · rw [List.length_map]
        omega
      dsimp only
      rw [List.length_map, rb]
      refine ⟨_, kR, ?_, same_of sm9 hR, ?_⟩
      · rw [List.length_map, List.length_take]
        exact small1000 (by omega)
      · rw [upd_same, List.take_add_one, hv2, List.map_append]
        rfl
    rw [yl, List.take_length] at kR
    refine ⟨.ref f, rfl, ?_⟩
    show qNe _ _ _ _ _
    refine ne_same (a := .list (li.map PyData.int)) (n := 1) (.lst (.inl (.inl kR)) (dpAll_int _)) (.lst (.inl (.inl (sm9 _ _ kf25))) (dpAll_int _)) (by unfold pld; exact pldAll_int _) (okD_l (by rw [List.length_map]; omega) (okDs_int _ _)) (by decide) ⟨false, rfl, ite_no rfl ?_⟩
    have B26 := B25.s sm9
    clear B25 XO25 kf25 kf2 sm9 kR hR hp1 hA1 hB0 pa pb ym yl ll sv sv2 eF
    show bT2 _ _ _
    subst eT2
    refine seq_abs fun bT2 eT2 => ?_
    -- a number of patterns
    refine ⟨.ref p, rfl, ?_⟩
    show qPattern _ _ _ _ _
    refine go_pattern B26.x.p hv fun H27 sm27 => ⟨.ref h, rfl, ?_⟩
    have B27 := B26.s sm27
    clear B26 sm27
    show qNext _ _ _ _
    refine go_next B27.w (by decide) (by decide) fun w5 H28 hw5 L28 x28' => ⟨_, _, rfl, rfl, _, _, rfl, rfl, ?_, ?_⟩
    · exact .inl ⟨by have := (lc_le hv.r2).2; omega, by have := (lc_le hv.r2).2; omega⟩
    have B28 := B27.n L28 x28'
    clear B27 L28 x28'
    have l60 := (lc_le hv.r2).2
    have sb := bnd20 (R := lc rs) (k := ((w5 : Nat) : Int) - 1000) (by omega) (by omega) l60
    have sd : ((lc rs : Nat) : Int) ∣ ((lc rs : Nat) : Int) * (((w5 : Nat) : Int) - 1000) := ⟨_, rfl⟩
    show bT2 _ [_, _, _, _, _, _, _, _, _, _, _, _, _, some (.int (((lc rs : Nat) : Int) * (((w5 : Nat) : Int) - 1000))), _, _] _
    generalize ((lc rs : Nat) : Int) * (((w5 : Nat) : Int) - 1000) = sf at sb sd ⊢
    subst eT2
    refine seq_abs fun bT2 eT2 => ?_
    obtain ⟨ca, sh, hs1, hL⟩ := B28.x.s.ex
    refine ⟨.ref st, rfl, st, _, 0, .int t, rfl, rfl, hs1, rfl, .int sf, rfl, _, _, rfl, rfl, .ref st, rfl, st, _, 1, .ref ca, rfl, rfl, hs1, rfl, .ref st, rfl, st, _, 2, .ref sh, rfl, rfl, hs1, rfl, (by show 3 ≤ sizeLine; decide), fun ag hag => ?_⟩
    have sm29 := same_upd (o := .tup [.int (t + sf), .ref ca, .ref sh]) hag
    have k29 : (upd H28 ag (.tup [.int (t + sf), .ref ca, .ref sh])) ag = some (.tup [.int (t + sf), .ref ca, .ref sh]) := upd_same
    have B29 := B28.s sm29
    have hL29 := hL.same sm29
    show bT2 _ _ (upd H28 ag (.tup [.int (t + sf), .ref ca, .ref sh]))
    generalize upd H28 ag (.tup [.int (t + sf), .ref ca, .ref sh]) = H29 at k29 B29 hL29 ⊢
    clear B28 sm29 hs1 hL hag
    have XG : PS0 K H29 p ag zs rs (t + sf) L := ⟨B29.x.p, hv, ⟨ca, sh, .inl (.inl k29), hL29⟩, ⟨⟨by omega, by omega⟩, f0, ok0.p⟩⟩
    clear k29 hL29 ca sh
    subst eT2
    refine seq_abs fun bT2 eT2 => ?_
    -- the same far away, and the same families
    refine ⟨.ref p, rfl, .ref ag, rfl, .int (far : Nat), rfl, ?_⟩
    show qAdvance _ _ _ _ _
    refine go_advance XG hct fun H30 s8 sm30 hs30 => ?_
    rw [adv_shift 0 hv.rne vlc t sd] at hs30
    have B30 := B29.s sm30
    have XG30 := XG.same sm30
    clear B29 XG sm30
    obtain ⟨ca, sh, hs1, hL⟩ := hs30.ex
    refine ⟨1, rfl, sl_go hs1 fun H31 b1 sm31 hb1 => ?_⟩
    rw [cut1] at hb1
    have B31 := B30.s sm31
    have XG31 := XG30.same sm31
    have hL31 := hL.same sm31
    clear B30 XG30 hs1 hL hs30 sm31
    obtain ⟨cb, sh2, hs2, hM⟩ := B31.y.ex
    refine ⟨.ref s2, rfl, 1, rfl, sl_go hs2 fun H32 b2 sm32 hb2 => ?_⟩
    rw [cut1] at hb2
    have B32 := B31.s sm32
    have XG32 := XG31.same sm32
    show qNe _ _ _ _ _
    refine ne_same (n := 3) (dp_tail20 (sqT_same sm32 hb1) (hL31.same sm32)) (dp_tail20 hb2 (hM.same sm32)) (pld_tl _) (okD_tail hv fA) (by decide) ⟨false, rfl, iteF ?_⟩
    clear B31 XG31 hb1 hb2 hL31 hM hs2 sm32 ca sh cb sh2
    refine ⟨.ref p, rfl, .ref ag, rfl, ?_⟩
    show qFamilies _ _ _ _ _
    refine go_families XG32 fun ys1 pm1 so1 H33 f1 sm33 hf1 => ⟨.ref p, rfl, .ref st, rfl, ?_⟩
    have B33 := B32.s sm33
    have XG33 := XG32.same sm33
    clear B32 XG32 sm33
    show qFamilies _ _ _ _ _
    refine go_families B33.x fun ys2 pm2 so2 H34 f2 sm34 hf2 => ?_
    have B34 := B33.s sm34
    have XG34 := XG33.same sm34
    have hf1b := hf1.same sm34
    obtain rfl := perm_one nd0 pm1 pm2 so1 so2
    rw [wh_shift hv t sd] at hf1b
    obtain ⟨z2, z3⟩ := fams_size hv t f0 pm1
    obtain ⟨o1, o2⟩ := ok_fams z2 z3
    show qNe _ _ _ _ _
    refine ne_same (n := 2) (dp_rows hf1b) (dp_rows hf2) o2 o1 (by decide) ⟨false, rfl, ite_no rfl ?_⟩
    clear B33 XG33 hf1 hf1b hf2 sm34 z2 z3 o1 o2
    show bT2 _ _ _
    subst eT2
    refine seq_abs fun bT2 eT2 => ?_
    -- the first meeting
    obtain ⟨yl, hyl⟩ : ∃ yl, L.1[L.1.length - 1]? = some yl := ⟨_, List.getElem?_eq_getElem (by omega)⟩
    have hylV : atI (L.1.map V.int) (-1) = some (.int yl) := atI_end20 (by rw [List.length_map, List.getElem?_map, hyl]; rfl)
    have hmx : y0 ∈ join L := List.mem_of_getElem? hj0
    have hmy : yl ∈ join L := List.mem_append_left _ (List.mem_of_getElem? hyl)
    obtain ⟨ca, sh, hs1, hL⟩ := B34.x.s.ex
    refine ⟨.ref p, rfl, .ref st, rfl, .int y0, rfl, .ref st, rfl, st, _, 1, .ref ca, rfl, rfl, hs1, rfl, 1, rfl, ca, _, -1, .int yl, rfl, rfl, hL.c, hylV, ?_⟩
    show qFirst _ _ _ _ _
    refine go_first B34.x hmx hmy fun H35 v sm35 fv => ?_
    have B35 := B34.s sm35
    have XG35 := XG34.same sm35
    have hs35 := sqT_same sm35 hs1
    have hc35 := sqT_same sm35 hL.c
    clear B34 XG34 sm35 hs1 hL
    show bT2 _ _ _
    subst eT2
    refine seq_abs fun bT2 eT2 => ?_
    refine ⟨.ref p, rfl, .ref ag, rfl, .int y0, rfl, .ref st, rfl, st, _, 1, .ref ca, rfl, rfl, hs35, rfl, 1, rfl, ca, _, -1, .int yl, rfl, rfl, hc35, hylV, ?_⟩
    show qFirst _ _ _ _ _
    refine go_first XG35 hmx hmy fun H36 v2 sm36 fv2 => ⟨v, rfl, ?_⟩
    have B36 := B35.s sm36
    clear B35 XG35 sm36 hs35 hc35
    rw [mB_shift hv t sd] at fv2
    obtain rfl := firstV_one fv2 fv
    obtain ⟨d, dv, d2, d3⟩ := firstV_dp (K := K) (H := H36) fv
    show qNe _ _ _ _ _
    refine ne_same (n := 1) dv dv d2 d3 (by decide) ⟨false, rfl, ite_no rfl ?_⟩
    clear dv fv fv2
    show bT2 _ _ _
    subst eT2
    -- an idle carrier and a shelf that nobody visits
    obtain ⟨pa, pb, hp1, hA1, hB1⟩ := B36.x.p.ex
    obtain ⟨qs, hB2, hP⟩ := hB1.ex
    have hql := paired_len hP
    refine ⟨.ref p, rfl, p, _, 0, .ref pa, rfl, rfl, hp1, rfl, pa, _, rfl, .inr hA1, _, _, rfl, rfl, _, rfl, ?_⟩
    rw [List.length_map]
    refine ite2 (fun hc1 => ?_) (fun hc1 => ?_)
    · refine ⟨.ref p, rfl, p, _, 1, .ref pb, rfl, rfl, hp1, rfl, pb, _, rfl, .inr hB2, _, _, rfl, rfl, _, rfl, ?_⟩
      rw [List.length_map, hql]
      refine ite2 (fun hc2 => ?_) (fun hc2 => ?_)
      · have hc1 := of_decide_eq_true hc1
        have hc2 := of_decide_eq_true hc2
        refine ⟨.ref p, rfl, .ref st, rfl, .ref s2, rfl, .int (far : Nat), rfl, p, st, s2, zs, rs, t, L, far, rfl, B36.x, h97, by omega, by omega, hct, B36.y, fun H37 sm37 => ⟨true, rfl, iteF ?_⟩⟩
        exact ⟨⟨_, _, _, _, _, _, _, _, _, _, _, _, _, _, _, rfl⟩, (B36.s sm37).w⟩
      · exact ⟨⟨_, _, _, _, _, _, _, _, _, _, _, _, _, _, _, rfl⟩, B36.w⟩
    · exact ⟨⟨_, _, _, _, _, _, _, _, _, _, _, _, _, _, _, rfl⟩, B36.w⟩
end
end Sv
set_option maxHeartbeats 8000000
namespace Sv
open PySem PySem.Spec PyProof.Rows L2 LamX NdefX
theorem walk_ofTsX {l : PySem.W.OpenLaw} {n k : Nat} {q : Program} {loose : List Str} {XP : (Str → Option Value) → Heap → Prop} {YP : World → Heap → Prop} {d : DefRec} {K : Params → PySem.W.Frag} {CX : World → CXT} {x : Str}
    (hn : l.most = some n) (hn2 : n ≤ sizeLine) (hdf : d.params.defaults = []) (hr : Room k callerA) (hY : ∀ (w : World) (h : Heap), YP w h → (K w.params).In h)
    (F : ∀ (w : World) (mg : Str → Option Value) (fa : Addr) (h : Heap), XP mg h → YP w h → (K w.params).In h → h.Ns mainGlobals mg → mg d.name = some (.ref fa) → LawAtS l w (K w.params) (CX w) k n x mg fa h)
    (hCX : ∀ (w : World) (H : Hp) (s : Shared) (e : Value) (s' : Shared), CX w [] H s (fun _ _ _ => False) e s' → False) :
    PySem.W.WalkO q loose XP YP l.row.toRowW d [] (fun f vs => PySem.call f vs) := by
  refine Att.attach_callB hn hdf fun w s₀ s₁ mg mb fa o pm cd doc a vs ns G Y ho hd hcd hmg hobj hints hlen hbits hg => ?_
  have KX := hY w _ Y
  obtain ⟨fd, cs, sp, hT, nT, C, hb, hsp, hF⟩ := F w mg fa _ G.X Y KX G.T.g hmg
  exact law_callTs KX G.T.g G.T.b G.T.builtins G.T.nolimit hg hT nT C G.T.bmain hobj hints (Nat.le_trans hlen hn2) hr hF hb (fun H hH hS => hsp H a ns hlen hbits hH hS) fun H e s' => hCX w H s₁ e s'
section
variable {K : PySem.W.Frag} {h : Heap} {mg : Str → Option Value}
theorem df_mk {x : Str} {st : Stmt} {f : Addr} {oc : Value} {od an : Option Addr} {osl : Array (Option Value)} {kV doc pm cdv ct : Value} {ps : List Str} (X : K.In h) (G : h.Ns mainGlobals mg) (a : PySem.W.nsIn K mainGlobals x = some (some (.ref f)))
    (l : K.lookup f = some ⟨oc, od, .func (PySem.W.fnOf x x (defArgs st) (defBody st) (defScope st) .none kV doc pm an cdv ct), osl⟩) (c : PySem.W.codeIn K cdv x = true) (k : PySem.W.keepIn K (.ref f) = true)
    (b : ∀ (kV doc pm : Value) (an : Option Addr) (cdv ct : Value) (us : List Value), us.length = ps.length → bindArgs (PySem.W.fnOf x x (defArgs st) (defBody st) (defScope st) .none kV doc pm an cdv ct) ⟨us, []⟩ = pure (ps.zip us)) :
    Df K mg x st ps f (PySem.W.fnOf x x (defArgs st) (defBody st) (defScope st) .none kV doc pm an cdv ct) := ⟨fun_mk l c k, (fun_mk l c k).binds b, PySem.W.mg_of X G a⟩
theorem lstN1 {fd : FuncData} {n0 : Str} (h : ∀ a0 : Value, bindArgs fd { pos := [a0] } = pure (([n0] : List Str).zip [a0])) : ∀ us : List Value, us.length = 1 → bindArgs fd { pos := us } = pure (([n0] : List Str).zip us)
  | [a0], _ => h a0
theorem lstN2 {fd : FuncData} {n0 n1 : Str} (h : ∀ a0 a1 : Value, bindArgs fd { pos := [a0, a1] } = pure (([n0, n1] : List Str).zip [a0, a1])) : ∀ us : List Value, us.length = 2 → bindArgs fd { pos := us } = pure (([n0, n1] : List Str).zip us)
  | [a0, a1], _ => h a0 a1
theorem lstN3 {fd : FuncData} {n0 n1 n2 : Str} (h : ∀ a0 a1 a2 : Value, bindArgs fd { pos := [a0, a1, a2] } = pure (([n0, n1, n2] : List Str).zip [a0, a1, a2])) : ∀ us : List Value, us.length = 3 → bindArgs fd { pos := us } = pure (([n0, n1, n2] : List Str).zip us)
  | [a0, a1, a2], _ => h a0 a1 a2
theorem lstN4 {fd : FuncData} {n0 n1 n2 n3 : Str} (h : ∀ a0 a1 a2 a3 : Value, bindArgs fd { pos := [a0, a1, a2, a3] } = pure (([n0, n1, n2, n3] : List Str).zip [a0, a1, a2, a3])) : ∀ us : List Value, us.length = 4 → bindArgs fd { pos := us } = pure (([n0, n1, n2, n3] : List Str).zip us)
  | [a0, a1, a2, a3], _ => h a0 a1 a2 a3
theorem lstN5 {fd : FuncData} {n0 n1 n2 n3 n4 : Str} (h : ∀ a0 a1 a2 a3 a4 : Value, bindArgs fd { pos := [a0, a1, a2, a3, a4] } = pure (([n0, n1, n2, n3, n4] : List Str).zip [a0, a1, a2, a3, a4])) : ∀ us : List Value, us.length = 5 → bindArgs fd { pos := us } = pure (([n0, n1, n2, n3, n4] : List Str).zip us)
  | [a0, a1, a2, a3, a4], _ => h a0 a1 a2 a3 a4
theorem all_mk {P : Program} {w : World} {fa : Addr} {fWithin : Addr} {ocWithin kVWithin dcWithin pmWithin cdWithin ctWithin : Value} {odWithin anWithin : Option Addr} {slWithin : Array (Option Value)}
    {fCheckCount : Addr} {ocCheckCount kVCheckCount dcCheckCount pmCheckCount cdCheckCount ctCheckCount : Value} {odCheckCount anCheckCount : Option Addr} {slCheckCount : Array (Option Value)}
    {fCheckTicks : Addr} {ocCheckTicks kVCheckTicks dcCheckTicks pmCheckTicks cdCheckTicks ctCheckTicks : Value} {odCheckTicks anCheckTicks : Option Addr} {slCheckTicks : Array (Option Value)}
    {fCheckBetween : Addr} {ocCheckBetween kVCheckBetween dcCheckBetween pmCheckBetween cdCheckBetween ctCheckBetween : Value} {odCheckBetween anCheckBetween : Option Addr} {slCheckBetween : Array (Option Value)}
    {fPattern : Addr} {ocPattern kVPattern dcPattern pmPattern cdPattern ctPattern : Value} {odPattern anPattern : Option Addr} {slPattern : Array (Option Value)}
    {fCheckPlan : Addr} {ocCheckPlan kVCheckPlan dcCheckPlan pmCheckPlan cdCheckPlan ctCheckPlan : Value} {odCheckPlan anCheckPlan : Option Addr} {slCheckPlan : Array (Option Value)}
    {fCheckSizes : Addr} {ocCheckSizes kVCheckSizes dcCheckSizes pmCheckSizes cdCheckSizes ctCheckSizes : Value} {odCheckSizes anCheckSizes : Option Addr} {slCheckSizes : Array (Option Value)}
    {fCheckRoutes : Addr} {ocCheckRoutes kVCheckRoutes dcCheckRoutes pmCheckRoutes cdCheckRoutes ctCheckRoutes : Value} {odCheckRoutes anCheckRoutes : Option Addr} {slCheckRoutes : Array (Option Value)}
    {fIsRoute : Addr} {ocIsRoute kVIsRoute dcIsRoute pmIsRoute cdIsRoute ctIsRoute : Value} {odIsRoute anIsRoute : Option Addr} {slIsRoute : Array (Option Value)}
    {fPlacesOf : Addr} {ocPlacesOf kVPlacesOf dcPlacesOf pmPlacesOf cdPlacesOf ctPlacesOf : Value} {odPlacesOf anPlacesOf : Option Addr} {slPlacesOf : Array (Option Value)}
    {fCheckShelf : Addr} {ocCheckShelf kVCheckShelf dcCheckShelf pmCheckShelf cdCheckShelf ctCheckShelf : Value} {odCheckShelf anCheckShelf : Option Addr} {slCheckShelf : Array (Option Value)}
    {fShelvesOf : Addr} {ocShelvesOf kVShelvesOf dcShelvesOf pmShelvesOf cdShelvesOf ctShelvesOf : Value} {odShelvesOf anShelvesOf : Option Addr} {slShelvesOf : Array (Option Value)}
    {fNumPlaces : Addr} {ocNumPlaces kVNumPlaces dcNumPlaces pmNumPlaces cdNumPlaces ctNumPlaces : Value} {odNumPlaces anNumPlaces : Option Addr} {slNumPlaces : Array (Option Value)}
    {fVisitsIn : Addr} {ocVisitsIn kVVisitsIn dcVisitsIn pmVisitsIn cdVisitsIn ctVisitsIn : Value} {odVisitsIn anVisitsIn : Option Addr} {slVisitsIn : Array (Option Value)}
    {fCommon : Addr} {ocCommon kVCommon dcCommon pmCommon cdCommon ctCommon : Value} {odCommon anCommon : Option Addr} {slCommon : Array (Option Value)}
    {fRoutePat : Addr} {ocRoutePat kVRoutePat dcRoutePat pmRoutePat cdRoutePat ctRoutePat : Value} {odRoutePat anRoutePat : Option Addr} {slRoutePat : Array (Option Value)}
    {fJoin : Addr} {ocJoin kVJoin dcJoin pmJoin cdJoin ctJoin : Value} {odJoin anJoin : Option Addr} {slJoin : Array (Option Value)}
    {fSplit : Addr} {ocSplit kVSplit dcSplit pmSplit cdSplit ctSplit : Value} {odSplit anSplit : Option Addr} {slSplit : Array (Option Value)}
    {fAfterTick : Addr} {ocAfterTick kVAfterTick dcAfterTick pmAfterTick cdAfterTick ctAfterTick : Value} {odAfterTick anAfterTick : Option Addr} {slAfterTick : Array (Option Value)}
    {fEffectTicks : Addr} {ocEffectTicks kVEffectTicks dcEffectTicks pmEffectTicks cdEffectTicks ctEffectTicks : Value} {odEffectTicks anEffectTicks : Option Addr} {slEffectTicks : Array (Option Value)}
    {fInverse : Addr} {ocInverse kVInverse dcInverse pmInverse cdInverse ctInverse : Value} {odInverse anInverse : Option Addr} {slInverse : Array (Option Value)}
    {fRepeated : Addr} {ocRepeated kVRepeated dcRepeated pmRepeated cdRepeated ctRepeated : Value} {odRepeated anRepeated : Option Addr} {slRepeated : Array (Option Value)}
    {fOrderOf : Addr} {ocOrderOf kVOrderOf dcOrderOf pmOrderOf cdOrderOf ctOrderOf : Value} {odOrderOf anOrderOf : Option Addr} {slOrderOf : Array (Option Value)}
    {fCyclesOf : Addr} {ocCyclesOf kVCyclesOf dcCyclesOf pmCyclesOf cdCyclesOf ctCyclesOf : Value} {odCyclesOf anCyclesOf : Option Addr} {slCyclesOf : Array (Option Value)}
    {fCycleFrom : Addr} {ocCycleFrom kVCycleFrom dcCycleFrom pmCycleFrom cdCycleFrom ctCycleFrom : Value} {odCycleFrom anCycleFrom : Option Addr} {slCycleFrom : Array (Option Value)}
    {fMoved : Addr} {ocMoved kVMoved dcMoved pmMoved cdMoved ctMoved : Value} {odMoved anMoved : Option Addr} {slMoved : Array (Option Value)}
    {fStateOf : Addr} {ocStateOf kVStateOf dcStateOf pmStateOf cdStateOf ctStateOf : Value} {odStateOf anStateOf : Option Addr} {slStateOf : Array (Option Value)}
    {fParcelsIn : Addr} {ocParcelsIn kVParcelsIn dcParcelsIn pmParcelsIn cdParcelsIn ctParcelsIn : Value} {odParcelsIn anParcelsIn : Option Addr} {slParcelsIn : Array (Option Value)}
    {fCheckState : Addr} {ocCheckState kVCheckState dcCheckState pmCheckState cdCheckState ctCheckState : Value} {odCheckState anCheckState : Option Addr} {slCheckState : Array (Option Value)}
    {fFits : Addr} {ocFits kVFits dcFits pmFits cdFits ctFits : Value} {odFits anFits : Option Addr} {slFits : Array (Option Value)}
    {fTupOf : Addr} {ocTupOf kVTupOf dcTupOf pmTupOf cdTupOf ctTupOf : Value} {odTupOf anTupOf : Option Addr} {slTupOf : Array (Option Value)}
    {fParcels : Addr} {ocParcels kVParcels dcParcels pmParcels cdParcels ctParcels : Value} {odParcels anParcels : Option Addr} {slParcels : Array (Option Value)}
    {fCheckParcel : Addr} {ocCheckParcel kVCheckParcel dcCheckParcel pmCheckParcel cdCheckParcel ctCheckParcel : Value} {odCheckParcel anCheckParcel : Option Addr} {slCheckParcel : Array (Option Value)}
    {fPlaceOfParcel : Addr} {ocPlaceOfParcel kVPlaceOfParcel dcPlaceOfParcel pmPlaceOfParcel cdPlaceOfParcel ctPlaceOfParcel : Value} {odPlaceOfParcel anPlaceOfParcel : Option Addr} {slPlaceOfParcel : Array (Option Value)}
    {fStartOf : Addr} {ocStartOf kVStartOf dcStartOf pmStartOf cdStartOf ctStartOf : Value} {odStartOf anStartOf : Option Addr} {slStartOf : Array (Option Value)}
    {fAdvance : Addr} {ocAdvance kVAdvance dcAdvance pmAdvance cdAdvance ctAdvance : Value} {odAdvance anAdvance : Option Addr} {slAdvance : Array (Option Value)}
    {fPeriod : Addr} {ocPeriod kVPeriod dcPeriod pmPeriod cdPeriod ctPeriod : Value} {odPeriod anPeriod : Option Addr} {slPeriod : Array (Option Value)}
    {fLeftsJ : Addr} {ocLeftsJ kVLeftsJ dcLeftsJ pmLeftsJ cdLeftsJ ctLeftsJ : Value} {odLeftsJ anLeftsJ : Option Addr} {slLeftsJ : Array (Option Value)}
    {fCountIn : Addr} {ocCountIn kVCountIn dcCountIn pmCountIn cdCountIn ctCountIn : Value} {odCountIn anCountIn : Option Addr} {slCountIn : Array (Option Value)}
    {fTimesLeft : Addr} {ocTimesLeft kVTimesLeft dcTimesLeft pmTimesLeft cdTimesLeft ctTimesLeft : Value} {odTimesLeft anTimesLeft : Option Addr} {slTimesLeft : Array (Option Value)}
    {fStamps : Addr} {ocStamps kVStamps dcStamps pmStamps cdStamps ctStamps : Value} {odStamps anStamps : Option Addr} {slStamps : Array (Option Value)}
    {fStampsJ : Addr} {ocStampsJ kVStampsJ dcStampsJ pmStampsJ cdStampsJ ctStampsJ : Value} {odStampsJ anStampsJ : Option Addr} {slStampsJ : Array (Option Value)}
    {fFamilies : Addr} {ocFamilies kVFamilies dcFamilies pmFamilies cdFamilies ctFamilies : Value} {odFamilies anFamilies : Option Addr} {slFamilies : Array (Option Value)}
    {fFirstMeeting : Addr} {ocFirstMeeting kVFirstMeeting dcFirstMeeting pmFirstMeeting cdFirstMeeting ctFirstMeeting : Value} {odFirstMeeting anFirstMeeting : Option Addr} {slFirstMeeting : Array (Option Value)}
    {fMarks : Addr} {ocMarks kVMarks dcMarks pmMarks cdMarks ctMarks : Value} {odMarks anMarks : Option Addr} {slMarks : Array (Option Value)}
    {fShelvesLap : Addr} {ocShelvesLap kVShelvesLap dcShelvesLap pmShelvesLap cdShelvesLap ctShelvesLap : Value} {odShelvesLap anShelvesLap : Option Addr} {slShelvesLap : Array (Option Value)}
    {fMarksLap : Addr} {ocMarksLap kVMarksLap dcMarksLap pmMarksLap cdMarksLap ctMarksLap : Value} {odMarksLap anMarksLap : Option Addr} {slMarksLap : Array (Option Value)}
    {fPairs : Addr} {ocPairs kVPairs dcPairs pmPairs cdPairs ctPairs : Value} {odPairs anPairs : Option Addr} {slPairs : Array (Option Value)}
    {fPlanSwaps : Addr} {ocPlanSwaps kVPlanSwaps dcPlanSwaps pmPlanSwaps cdPlanSwaps ctPlanSwaps : Value} {odPlanSwaps anPlanSwaps : Option Addr} {slPlanSwaps : Array (Option Value)}
    {fFewest : Addr} {ocFewest kVFewest dcFewest pmFewest cdFewest ctFewest : Value} {odFewest anFewest : Option Addr} {slFewest : Array (Option Value)}
    {fCheckArr : Addr} {ocCheckArr kVCheckArr dcCheckArr pmCheckArr cdCheckArr ctCheckArr : Value} {odCheckArr anCheckArr : Option Addr} {slCheckArr : Array (Option Value)}
    {fSwapsBetween : Addr} {ocSwapsBetween kVSwapsBetween dcSwapsBetween pmSwapsBetween cdSwapsBetween ctSwapsBetween : Value} {odSwapsBetween anSwapsBetween : Option Addr} {slSwapsBetween : Array (Option Value)}
    {fExchange : Addr} {ocExchange kVExchange dcExchange pmExchange cdExchange ctExchange : Value} {odExchange anExchange : Option Addr} {slExchange : Array (Option Value)}
    {fLMix : Addr} {ocLMix kVLMix dcLMix pmLMix cdLMix ctLMix : Value} {odLMix anLMix : Option Addr} {slLMix : Array (Option Value)}
    {fLNext : Addr} {ocLNext kVLNext dcLNext pmLNext cdLNext ctLNext : Value} {odLNext anLNext : Option Addr} {slLNext : Array (Option Value)}
    {fLPlan : Addr} {ocLPlan kVLPlan dcLPlan pmLPlan cdLPlan ctLPlan : Value} {odLPlan anLPlan : Option Addr} {slLPlan : Array (Option Value)}
    {fLState : Addr} {ocLState kVLState dcLState pmLState cdLState ctLState : Value} {odLState anLState : Option Addr} {slLState : Array (Option Value)}
    {fLTurned : Addr} {ocLTurned kVLTurned dcLTurned pmLTurned cdLTurned ctLTurned : Value} {odLTurned anLTurned : Option Addr} {slLTurned : Array (Option Value)}
    {fLRenamed : Addr} {ocLRenamed kVLRenamed dcLRenamed pmLRenamed cdLRenamed ctLRenamed : Value} {odLRenamed anLRenamed : Option Addr} {slLRenamed : Array (Option Value)}
    {fLLawMoved : Addr} {ocLLawMoved kVLLawMoved dcLLawMoved pmLLawMoved cdLLawMoved ctLLawMoved : Value} {odLLawMoved anLLawMoved : Option Addr} {slLLawMoved : Array (Option Value)}
    {fLLawMore : Addr} {ocLLawMore kVLLawMore dcLLawMore pmLLawMore cdLLawMore ctLLawMore : Value} {odLLawMore anLLawMore : Option Addr} {slLLawMore : Array (Option Value)}
    {fLMoreRight : Addr} {ocLMoreRight kVLMoreRight dcLMoreRight pmLMoreRight cdLMoreRight ctLMoreRight : Value} {odLMoreRight anLMoreRight : Option Addr} {slLMoreRight : Array (Option Value)}
    {fLaw : Addr} {ocLaw kVLaw dcLaw pmLaw cdLaw ctLaw : Value} {odLaw anLaw : Option Addr} {slLaw : Array (Option Value)}
    {tm1 : Tok}
    {tm2 : Tok}
    {tm3 : Tok}
    {tm4 : Tok}
    {tms : Tok}
    {tlP : Tok}
    {C0 C1 C2 C4 C5 C11 : Addr}
    {CL fL : Addr} {odL anL : Option Addr} {slL : Array (Option Value)} {ocL kVL dcL pmL cdL ctL : Value}
    {pnm pq : Str} {pN : Addr} {pbs pbm : List Value} {psn : List Str} {psub : List Value} {pab : Bool} {pcol : Option Bool} {pdd : Option Addr} {pk0 pk1 pk2 pk3 pk5 : Option Value}
    {fI cc c0 : Addr} {ocI docI pmI ctI : Value} {odI : Option Addr} {slI : Array (Option Value)}
    {ccl : Value} {ccd : Option Addr} {ccs : Array (Option Value)}
    {kcl : Value} {kcd : Option Addr} {kvs : Array Value} {kcs : Array (Option Value)} {kfl : Str} {ktf : Tok} (X : K.In h) (G : h.Ns mainGlobals mg) (hfa : mg "law" = some (.ref fa)) (hlim : ∃ t, mg "COUNT_LIMIT" = some (.int 1000000000000000000 t)) (htlim : ∃ t, mg "TIME_LIMIT" = some (.int 1000000000000000000000000000000 t))
    (aWithin : PySem.W.nsIn K mainGlobals "is_within" = some (some (.ref fWithin)))
    (lWithin : K.lookup fWithin = some ⟨ocWithin, odWithin, .func (PySem.W.fnOf "is_within" "is_within" (defArgs sWithin) (defBody sWithin) (defScope sWithin) .none kVWithin dcWithin pmWithin anWithin cdWithin ctWithin), slWithin⟩)
    (cWithin : PySem.W.codeIn K cdWithin "is_within" = true)
    (kWithin : PySem.W.keepIn K (.ref fWithin) = true)
    (aCheckCount : PySem.W.nsIn K mainGlobals "check_count" = some (some (.ref fCheckCount)))
    (lCheckCount : K.lookup fCheckCount = some ⟨ocCheckCount, odCheckCount, .func (PySem.W.fnOf "check_count" "check_count" (defArgs sCheckCount) (defBody sCheckCount) (defScope sCheckCount) .none kVCheckCount dcCheckCount pmCheckCount anCheckCount cdCheckCount ctCheckCount), slCheckCount⟩)
    (cCheckCount : PySem.W.codeIn K cdCheckCount "check_count" = true)
    (kCheckCount : PySem.W.keepIn K (.ref fCheckCount) = true)
    (aCheckTicks : PySem.W.nsIn K mainGlobals "check_ticks" = some (some (.ref fCheckTicks)))
    (lCheckTicks : K.lookup fCheckTicks = some ⟨ocCheckTicks, odCheckTicks, .func (PySem.W.fnOf "check_ticks" "check_ticks" (defArgs sCheckTicks) (defBody sCheckTicks) (defScope sCheckTicks) .none kVCheckTicks dcCheckTicks pmCheckTicks anCheckTicks cdCheckTicks ctCheckTicks), slCheckTicks⟩)
    (cCheckTicks : PySem.W.codeIn K cdCheckTicks "check_ticks" = true)
    (kCheckTicks : PySem.W.keepIn K (.ref fCheckTicks) = true)
    (aCheckBetween : PySem.W.nsIn K mainGlobals "check_between" = some (some (.ref fCheckBetween)))
    (lCheckBetween : K.lookup fCheckBetween = some ⟨ocCheckBetween, odCheckBetween, .func (PySem.W.fnOf "check_between" "check_between" (defArgs sCheckBetween) (defBody sCheckBetween) (defScope sCheckBetween) .none kVCheckBetween dcCheckBetween pmCheckBetween anCheckBetween cdCheckBetween ctCheckBetween), slCheckBetween⟩)
    (cCheckBetween : PySem.W.codeIn K cdCheckBetween "check_between" = true)
    (kCheckBetween : PySem.W.keepIn K (.ref fCheckBetween) = true)
    (aPattern : PySem.W.nsIn K mainGlobals "pattern_length" = some (some (.ref fPattern)))
    (lPattern : K.lookup fPattern = some ⟨ocPattern, odPattern, .func (PySem.W.fnOf "pattern_length" "pattern_length" (defArgs sPattern) (defBody sPattern) (defScope sPattern) .none kVPattern dcPattern pmPattern anPattern cdPattern ctPattern), slPattern⟩)
    (cPattern : PySem.W.codeIn K cdPattern "pattern_length" = true)
    (kPattern : PySem.W.keepIn K (.ref fPattern) = true)
    (aCheckPlan : PySem.W.nsIn K mainGlobals "check_plan" = some (some (.ref fCheckPlan)))
    (lCheckPlan : K.lookup fCheckPlan = some ⟨ocCheckPlan, odCheckPlan, .func (PySem.W.fnOf "check_plan" "check_plan" (defArgs sCheckPlan) (defBody sCheckPlan) (defScope sCheckPlan) .none kVCheckPlan dcCheckPlan pmCheckPlan anCheckPlan cdCheckPlan ctCheckPlan), slCheckPlan⟩)
    (cCheckPlan : PySem.W.codeIn K cdCheckPlan "check_plan" = true)
    (kCheckPlan : PySem.W.keepIn K (.ref fCheckPlan) = true)
    (aCheckSizes : PySem.W.nsIn K mainGlobals "check_sizes" = some (some (.ref fCheckSizes)))
    (lCheckSizes : K.lookup fCheckSizes = some ⟨ocCheckSizes, odCheckSizes, .func (PySem.W.fnOf "check_sizes" "check_sizes" (defArgs sCheckSizes) (defBody sCheckSizes) (defScope sCheckSizes) .none kVCheckSizes dcCheckSizes pmCheckSizes anCheckSizes cdCheckSizes ctCheckSizes), slCheckSizes⟩)
    (cCheckSizes : PySem.W.codeIn K cdCheckSizes "check_sizes" = true)
    (kCheckSizes : PySem.W.keepIn K (.ref fCheckSizes) = true)
    (aCheckRoutes : PySem.W.nsIn K mainGlobals "check_routes" = some (some (.ref fCheckRoutes)))
    (lCheckRoutes : K.lookup fCheckRoutes = some ⟨ocCheckRoutes, odCheckRoutes, .func (PySem.W.fnOf "check_routes" "check_routes" (defArgs sCheckRoutes) (defBody sCheckRoutes) (defScope sCheckRoutes) .none kVCheckRoutes dcCheckRoutes pmCheckRoutes anCheckRoutes cdCheckRoutes ctCheckRoutes), slCheckRoutes⟩)
    (cCheckRoutes : PySem.W.codeIn K cdCheckRoutes "check_routes" = true)
    (kCheckRoutes : PySem.W.keepIn K (.ref fCheckRoutes) = true)
    (aIsRoute : PySem.W.nsIn K mainGlobals "is_route" = some (some (.ref fIsRoute)))
    (lIsRoute : K.lookup fIsRoute = some ⟨ocIsRoute, odIsRoute, .func (PySem.W.fnOf "is_route" "is_route" (defArgs sIsRoute) (defBody sIsRoute) (defScope sIsRoute) .none kVIsRoute dcIsRoute pmIsRoute anIsRoute cdIsRoute ctIsRoute), slIsRoute⟩)
    (cIsRoute : PySem.W.codeIn K cdIsRoute "is_route" = true)
    (kIsRoute : PySem.W.keepIn K (.ref fIsRoute) = true)
    (aPlacesOf : PySem.W.nsIn K mainGlobals "places_of" = some (some (.ref fPlacesOf)))
    (lPlacesOf : K.lookup fPlacesOf = some ⟨ocPlacesOf, odPlacesOf, .func (PySem.W.fnOf "places_of" "places_of" (defArgs sPlacesOf) (defBody sPlacesOf) (defScope sPlacesOf) .none kVPlacesOf dcPlacesOf pmPlacesOf anPlacesOf cdPlacesOf ctPlacesOf), slPlacesOf⟩)
    (cPlacesOf : PySem.W.codeIn K cdPlacesOf "places_of" = true)
    (kPlacesOf : PySem.W.keepIn K (.ref fPlacesOf) = true)
    (aCheckShelf : PySem.W.nsIn K mainGlobals "check_shelf" = some (some (.ref fCheckShelf)))
    (lCheckShelf : K.lookup fCheckShelf = some ⟨ocCheckShelf, odCheckShelf, .func (PySem.W.fnOf "check_shelf" "check_shelf" (defArgs sCheckShelf) (defBody sCheckShelf) (defScope sCheckShelf) .none kVCheckShelf dcCheckShelf pmCheckShelf anCheckShelf cdCheckShelf ctCheckShelf), slCheckShelf⟩)
    (cCheckShelf : PySem.W.codeIn K cdCheckShelf "check_shelf" = true)
    (kCheckShelf : PySem.W.keepIn K (.ref fCheckShelf) = true)
    (aShelvesOf : PySem.W.nsIn K mainGlobals "shelves_of_places" = some (some (.ref fShelvesOf)))
    (lShelvesOf : K.lookup fShelvesOf = some ⟨ocShelvesOf, odShelvesOf, .func (PySem.W.fnOf "shelves_of_places" "shelves_of_places" (defArgs sShelvesOf) (defBody sShelvesOf) (defScope sShelvesOf) .none kVShelvesOf dcShelvesOf pmShelvesOf anShelvesOf cdShelvesOf ctShelvesOf), slShelvesOf⟩)
    (cShelvesOf : PySem.W.codeIn K cdShelvesOf "shelves_of_places" = true)
    (kShelvesOf : PySem.W.keepIn K (.ref fShelvesOf) = true)
    (aNumPlaces : PySem.W.nsIn K mainGlobals "number_of_places" = some (some (.ref fNumPlaces)))
    (lNumPlaces : K.lookup fNumPlaces = some ⟨ocNumPlaces, odNumPlaces, .func (PySem.W.fnOf "number_of_places" "number_of_places" (defArgs sNumPlaces) (defBody sNumPlaces) (defScope sNumPlaces) .none kVNumPlaces dcNumPlaces pmNumPlaces anNumPlaces cdNumPlaces ctNumPlaces), slNumPlaces⟩)
    (cNumPlaces : PySem.W.codeIn K cdNumPlaces "number_of_places" = true)
    (kNumPlaces : PySem.W.keepIn K (.ref fNumPlaces) = true)
    (aVisitsIn : PySem.W.nsIn K mainGlobals "visits_in_tick" = some (some (.ref fVisitsIn)))
    (lVisitsIn : K.lookup fVisitsIn = some ⟨ocVisitsIn, odVisitsIn, .func (PySem.W.fnOf "visits_in_tick" "visits_in_tick" (defArgs sVisitsIn) (defBody sVisitsIn) (defScope sVisitsIn) .none kVVisitsIn dcVisitsIn pmVisitsIn anVisitsIn cdVisitsIn ctVisitsIn), slVisitsIn⟩)
    (cVisitsIn : PySem.W.codeIn K cdVisitsIn "visits_in_tick" = true)
    (kVisitsIn : PySem.W.keepIn K (.ref fVisitsIn) = true)
    (aCommon : PySem.W.nsIn K mainGlobals "common_pattern" = some (some (.ref fCommon)))
    (lCommon : K.lookup fCommon = some ⟨ocCommon, odCommon, .func (PySem.W.fnOf "common_pattern" "common_pattern" (defArgs sCommon) (defBody sCommon) (defScope sCommon) .none kVCommon dcCommon pmCommon anCommon cdCommon ctCommon), slCommon⟩)
    (cCommon : PySem.W.codeIn K cdCommon "common_pattern" = true)
    (kCommon : PySem.W.keepIn K (.ref fCommon) = true)
    (aRoutePat : PySem.W.nsIn K mainGlobals "route_pattern" = some (some (.ref fRoutePat)))
    (lRoutePat : K.lookup fRoutePat = some ⟨ocRoutePat, odRoutePat, .func (PySem.W.fnOf "route_pattern" "route_pattern" (defArgs sRoutePat) (defBody sRoutePat) (defScope sRoutePat) .none kVRoutePat dcRoutePat pmRoutePat anRoutePat cdRoutePat ctRoutePat), slRoutePat⟩)
    (cRoutePat : PySem.W.codeIn K cdRoutePat "route_pattern" = true)
    (kRoutePat : PySem.W.keepIn K (.ref fRoutePat) = true)
    (aJoin : PySem.W.nsIn K mainGlobals "join_layout" = some (some (.ref fJoin)))
    (lJoin : K.lookup fJoin = some ⟨ocJoin, odJoin, .func (PySem.W.fnOf "join_layout" "join_layout" (defArgs sJoin) (defBody sJoin) (defScope sJoin) .none kVJoin dcJoin pmJoin anJoin cdJoin ctJoin), slJoin⟩)
    (cJoin : PySem.W.codeIn K cdJoin "join_layout" = true)
    (kJoin : PySem.W.keepIn K (.ref fJoin) = true)
    (aSplit : PySem.W.nsIn K mainGlobals "split_layout" = some (some (.ref fSplit)))
    (lSplit : K.lookup fSplit = some ⟨ocSplit, odSplit, .func (PySem.W.fnOf "split_layout" "split_layout" (defArgs sSplit) (defBody sSplit) (defScope sSplit) .none kVSplit dcSplit pmSplit anSplit cdSplit ctSplit), slSplit⟩)
    (cSplit : PySem.W.codeIn K cdSplit "split_layout" = true)
    (kSplit : PySem.W.keepIn K (.ref fSplit) = true)
    (aAfterTick : PySem.W.nsIn K mainGlobals "after_tick" = some (some (.ref fAfterTick)))
    (lAfterTick : K.lookup fAfterTick = some ⟨ocAfterTick, odAfterTick, .func (PySem.W.fnOf "after_tick" "after_tick" (defArgs sAfterTick) (defBody sAfterTick) (defScope sAfterTick) .none kVAfterTick dcAfterTick pmAfterTick anAfterTick cdAfterTick ctAfterTick), slAfterTick⟩)
    (cAfterTick : PySem.W.codeIn K cdAfterTick "after_tick" = true)
    (kAfterTick : PySem.W.keepIn K (.ref fAfterTick) = true)
    (aEffectTicks : PySem.W.nsIn K mainGlobals "effect_of_ticks" = some (some (.ref fEffectTicks)))
    (lEffectTicks : K.lookup fEffectTicks = some ⟨ocEffectTicks, odEffectTicks, .func (PySem.W.fnOf "effect_of_ticks" "effect_of_ticks" (defArgs sEffectTicks) (defBody sEffectTicks) (defScope sEffectTicks) .none kVEffectTicks dcEffectTicks pmEffectTicks anEffectTicks cdEffectTicks ctEffectTicks), slEffectTicks⟩)
    (cEffectTicks : PySem.W.codeIn K cdEffectTicks "effect_of_ticks" = true)
    (kEffectTicks : PySem.W.keepIn K (.ref fEffectTicks) = true)
    (aInverse : PySem.W.nsIn K mainGlobals "inverse" = some (some (.ref fInverse)))
    (lInverse : K.lookup fInverse = some ⟨ocInverse, odInverse, .func (PySem.W.fnOf "inverse" "inverse" (defArgs sInverse) (defBody sInverse) (defScope sInverse) .none kVInverse dcInverse pmInverse anInverse cdInverse ctInverse), slInverse⟩)
    (cInverse : PySem.W.codeIn K cdInverse "inverse" = true)
    (kInverse : PySem.W.keepIn K (.ref fInverse) = true)
    (aRepeated : PySem.W.nsIn K mainGlobals "repeated" = some (some (.ref fRepeated)))
    (lRepeated : K.lookup fRepeated = some ⟨ocRepeated, odRepeated, .func (PySem.W.fnOf "repeated" "repeated" (defArgs sRepeated) (defBody sRepeated) (defScope sRepeated) .none kVRepeated dcRepeated pmRepeated anRepeated cdRepeated ctRepeated), slRepeated⟩)
    (cRepeated : PySem.W.codeIn K cdRepeated "repeated" = true)
    (kRepeated : PySem.W.keepIn K (.ref fRepeated) = true)
    (aOrderOf : PySem.W.nsIn K mainGlobals "order_of" = some (some (.ref fOrderOf)))
    (lOrderOf : K.lookup fOrderOf = some ⟨ocOrderOf, odOrderOf, .func (PySem.W.fnOf "order_of" "order_of" (defArgs sOrderOf) (defBody sOrderOf) (defScope sOrderOf) .none kVOrderOf dcOrderOf pmOrderOf anOrderOf cdOrderOf ctOrderOf), slOrderOf⟩)
    (cOrderOf : PySem.W.codeIn K cdOrderOf "order_of" = true)
    (kOrderOf : PySem.W.keepIn K (.ref fOrderOf) = true)
    (aCyclesOf : PySem.W.nsIn K mainGlobals "cycles_of" = some (some (.ref fCyclesOf)))
    (lCyclesOf : K.lookup fCyclesOf = some ⟨ocCyclesOf, odCyclesOf, .func (PySem.W.fnOf "cycles_of" "cycles_of" (defArgs sCyclesOf) (defBody sCyclesOf) (defScope sCyclesOf) .none kVCyclesOf dcCyclesOf pmCyclesOf anCyclesOf cdCyclesOf ctCyclesOf), slCyclesOf⟩)
    (cCyclesOf : PySem.W.codeIn K cdCyclesOf "cycles_of" = true)
    (kCyclesOf : PySem.W.keepIn K (.ref fCyclesOf) = true)
    (aCycleFrom : PySem.W.nsIn K mainGlobals "cycle_from" = some (some (.ref fCycleFrom)))
    (lCycleFrom : K.lookup fCycleFrom = some ⟨ocCycleFrom, odCycleFrom, .func (PySem.W.fnOf "cycle_from" "cycle_from" (defArgs sCycleFrom) (defBody sCycleFrom) (defScope sCycleFrom) .none kVCycleFrom dcCycleFrom pmCycleFrom anCycleFrom cdCycleFrom ctCycleFrom), slCycleFrom⟩)
    (cCycleFrom : PySem.W.codeIn K cdCycleFrom "cycle_from" = true)
    (kCycleFrom : PySem.W.keepIn K (.ref fCycleFrom) = true)
    (aMoved : PySem.W.nsIn K mainGlobals "moved" = some (some (.ref fMoved)))
    (lMoved : K.lookup fMoved = some ⟨ocMoved, odMoved, .func (PySem.W.fnOf "moved" "moved" (defArgs sMoved) (defBody sMoved) (defScope sMoved) .none kVMoved dcMoved pmMoved anMoved cdMoved ctMoved), slMoved⟩)
    (cMoved : PySem.W.codeIn K cdMoved "moved" = true)
    (kMoved : PySem.W.keepIn K (.ref fMoved) = true)
    (aStateOf : PySem.W.nsIn K mainGlobals "state_of" = some (some (.ref fStateOf)))
    (lStateOf : K.lookup fStateOf = some ⟨ocStateOf, odStateOf, .func (PySem.W.fnOf "state_of" "state_of" (defArgs sStateOf) (defBody sStateOf) (defScope sStateOf) .none kVStateOf dcStateOf pmStateOf anStateOf cdStateOf ctStateOf), slStateOf⟩)
    (cStateOf : PySem.W.codeIn K cdStateOf "state_of" = true)
    (kStateOf : PySem.W.keepIn K (.ref fStateOf) = true)
    (aParcelsIn : PySem.W.nsIn K mainGlobals "parcels_in" = some (some (.ref fParcelsIn)))
    (lParcelsIn : K.lookup fParcelsIn = some ⟨ocParcelsIn, odParcelsIn, .func (PySem.W.fnOf "parcels_in" "parcels_in" (defArgs sParcelsIn) (defBody sParcelsIn) (defScope sParcelsIn) .none kVParcelsIn dcParcelsIn pmParcelsIn anParcelsIn cdParcelsIn ctParcelsIn), slParcelsIn⟩)
    (cParcelsIn : PySem.W.codeIn K cdParcelsIn "parcels_in" = true)
    (kParcelsIn : PySem.W.keepIn K (.ref fParcelsIn) = true)
    (aCheckState : PySem.W.nsIn K mainGlobals "check_state" = some (some (.ref fCheckState)))
    (lCheckState : K.lookup fCheckState = some ⟨ocCheckState, odCheckState, .func (PySem.W.fnOf "check_state" "check_state" (defArgs sCheckState) (defBody sCheckState) (defScope sCheckState) .none kVCheckState dcCheckState pmCheckState anCheckState cdCheckState ctCheckState), slCheckState⟩)
    (cCheckState : PySem.W.codeIn K cdCheckState "check_state" = true)
    (kCheckState : PySem.W.keepIn K (.ref fCheckState) = true)
    (aFits : PySem.W.nsIn K mainGlobals "fits_plan" = some (some (.ref fFits)))
    (lFits : K.lookup fFits = some ⟨ocFits, odFits, .func (PySem.W.fnOf "fits_plan" "fits_plan" (defArgs sFits) (defBody sFits) (defScope sFits) .none kVFits dcFits pmFits anFits cdFits ctFits), slFits⟩)
    (cFits : PySem.W.codeIn K cdFits "fits_plan" = true)
    (kFits : PySem.W.keepIn K (.ref fFits) = true)
    (aTupOf : PySem.W.nsIn K mainGlobals "is_tuple_of" = some (some (.ref fTupOf)))
    (lTupOf : K.lookup fTupOf = some ⟨ocTupOf, odTupOf, .func (PySem.W.fnOf "is_tuple_of" "is_tuple_of" (defArgs sTupOf) (defBody sTupOf) (defScope sTupOf) .none kVTupOf dcTupOf pmTupOf anTupOf cdTupOf ctTupOf), slTupOf⟩)
    (cTupOf : PySem.W.codeIn K cdTupOf "is_tuple_of" = true)
    (kTupOf : PySem.W.keepIn K (.ref fTupOf) = true)
    (aParcels : PySem.W.nsIn K mainGlobals "are_parcels" = some (some (.ref fParcels)))
    (lParcels : K.lookup fParcels = some ⟨ocParcels, odParcels, .func (PySem.W.fnOf "are_parcels" "are_parcels" (defArgs sParcels) (defBody sParcels) (defScope sParcels) .none kVParcels dcParcels pmParcels anParcels cdParcels ctParcels), slParcels⟩)
    (cParcels : PySem.W.codeIn K cdParcels "are_parcels" = true)
    (kParcels : PySem.W.keepIn K (.ref fParcels) = true)
    (aCheckParcel : PySem.W.nsIn K mainGlobals "check_parcel" = some (some (.ref fCheckParcel)))
    (lCheckParcel : K.lookup fCheckParcel = some ⟨ocCheckParcel, odCheckParcel, .func (PySem.W.fnOf "check_parcel" "check_parcel" (defArgs sCheckParcel) (defBody sCheckParcel) (defScope sCheckParcel) .none kVCheckParcel dcCheckParcel pmCheckParcel anCheckParcel cdCheckParcel ctCheckParcel), slCheckParcel⟩)
    (cCheckParcel : PySem.W.codeIn K cdCheckParcel "check_parcel" = true)
    (kCheckParcel : PySem.W.keepIn K (.ref fCheckParcel) = true)
    (aPlaceOfParcel : PySem.W.nsIn K mainGlobals "place_of_parcel" = some (some (.ref fPlaceOfParcel)))
    (lPlaceOfParcel : K.lookup fPlaceOfParcel = some ⟨ocPlaceOfParcel, odPlaceOfParcel, .func (PySem.W.fnOf "place_of_parcel" "place_of_parcel" (defArgs sPlaceOfParcel) (defBody sPlaceOfParcel) (defScope sPlaceOfParcel) .none kVPlaceOfParcel dcPlaceOfParcel pmPlaceOfParcel anPlaceOfParcel cdPlaceOfParcel ctPlaceOfParcel), slPlaceOfParcel⟩)
    (cPlaceOfParcel : PySem.W.codeIn K cdPlaceOfParcel "place_of_parcel" = true)
    (kPlaceOfParcel : PySem.W.keepIn K (.ref fPlaceOfParcel) = true)
    (aStartOf : PySem.W.nsIn K mainGlobals "start_of_parcel" = some (some (.ref fStartOf)))
    (lStartOf : K.lookup fStartOf = some ⟨ocStartOf, odStartOf, .func (PySem.W.fnOf "start_of_parcel" "start_of_parcel" (defArgs sStartOf) (defBody sStartOf) (defScope sStartOf) .none kVStartOf dcStartOf pmStartOf anStartOf cdStartOf ctStartOf), slStartOf⟩)
    (cStartOf : PySem.W.codeIn K cdStartOf "start_of_parcel" = true)
    (kStartOf : PySem.W.keepIn K (.ref fStartOf) = true)
    (aAdvance : PySem.W.nsIn K mainGlobals "advance" = some (some (.ref fAdvance)))
    (lAdvance : K.lookup fAdvance = some ⟨ocAdvance, odAdvance, .func (PySem.W.fnOf "advance" "advance" (defArgs sAdvance) (defBody sAdvance) (defScope sAdvance) .none kVAdvance dcAdvance pmAdvance anAdvance cdAdvance ctAdvance), slAdvance⟩)
    (cAdvance : PySem.W.codeIn K cdAdvance "advance" = true)
    (kAdvance : PySem.W.keepIn K (.ref fAdvance) = true)
    (aPeriod : PySem.W.nsIn K mainGlobals "period" = some (some (.ref fPeriod)))
    (lPeriod : K.lookup fPeriod = some ⟨ocPeriod, odPeriod, .func (PySem.W.fnOf "period" "period" (defArgs sPeriod) (defBody sPeriod) (defScope sPeriod) .none kVPeriod dcPeriod pmPeriod anPeriod cdPeriod ctPeriod), slPeriod⟩)
    (cPeriod : PySem.W.codeIn K cdPeriod "period" = true)
    (kPeriod : PySem.W.keepIn K (.ref fPeriod) = true)
    (aLeftsJ : PySem.W.nsIn K mainGlobals "lefts_of_journey" = some (some (.ref fLeftsJ)))
    (lLeftsJ : K.lookup fLeftsJ = some ⟨ocLeftsJ, odLeftsJ, .func (PySem.W.fnOf "lefts_of_journey" "lefts_of_journey" (defArgs sLeftsJ) (defBody sLeftsJ) (defScope sLeftsJ) .none kVLeftsJ dcLeftsJ pmLeftsJ anLeftsJ cdLeftsJ ctLeftsJ), slLeftsJ⟩)
    (cLeftsJ : PySem.W.codeIn K cdLeftsJ "lefts_of_journey" = true)
    (kLeftsJ : PySem.W.keepIn K (.ref fLeftsJ) = true)
    (aCountIn : PySem.W.nsIn K mainGlobals "count_in_ticks" = some (some (.ref fCountIn)))
    (lCountIn : K.lookup fCountIn = some ⟨ocCountIn, odCountIn, .func (PySem.W.fnOf "count_in_ticks" "count_in_ticks" (defArgs sCountIn) (defBody sCountIn) (defScope sCountIn) .none kVCountIn dcCountIn pmCountIn anCountIn cdCountIn ctCountIn), slCountIn⟩)
    (cCountIn : PySem.W.codeIn K cdCountIn "count_in_ticks" = true)
    (kCountIn : PySem.W.keepIn K (.ref fCountIn) = true)
    (aTimesLeft : PySem.W.nsIn K mainGlobals "times_left" = some (some (.ref fTimesLeft)))
    (lTimesLeft : K.lookup fTimesLeft = some ⟨ocTimesLeft, odTimesLeft, .func (PySem.W.fnOf "times_left" "times_left" (defArgs sTimesLeft) (defBody sTimesLeft) (defScope sTimesLeft) .none kVTimesLeft dcTimesLeft pmTimesLeft anTimesLeft cdTimesLeft ctTimesLeft), slTimesLeft⟩)
    (cTimesLeft : PySem.W.codeIn K cdTimesLeft "times_left" = true)
    (kTimesLeft : PySem.W.keepIn K (.ref fTimesLeft) = true)
    (aStamps : PySem.W.nsIn K mainGlobals "stamps" = some (some (.ref fStamps)))
    (lStamps : K.lookup fStamps = some ⟨ocStamps, odStamps, .func (PySem.W.fnOf "stamps" "stamps" (defArgs sStamps) (defBody sStamps) (defScope sStamps) .none kVStamps dcStamps pmStamps anStamps cdStamps ctStamps), slStamps⟩)
    (cStamps : PySem.W.codeIn K cdStamps "stamps" = true)
    (kStamps : PySem.W.keepIn K (.ref fStamps) = true)
    (aStampsJ : PySem.W.nsIn K mainGlobals "stamps_of_journey" = some (some (.ref fStampsJ)))
    (lStampsJ : K.lookup fStampsJ = some ⟨ocStampsJ, odStampsJ, .func (PySem.W.fnOf "stamps_of_journey" "stamps_of_journey" (defArgs sStampsJ) (defBody sStampsJ) (defScope sStampsJ) .none kVStampsJ dcStampsJ pmStampsJ anStampsJ cdStampsJ ctStampsJ), slStampsJ⟩)
    (cStampsJ : PySem.W.codeIn K cdStampsJ "stamps_of_journey" = true)
    (kStampsJ : PySem.W.keepIn K (.ref fStampsJ) = true)
    (aFamilies : PySem.W.nsIn K mainGlobals "families" = some (some (.ref fFamilies)))
    (lFamilies : K.lookup fFamilies = some ⟨ocFamilies, odFamilies, .func (PySem.W.fnOf "families" "families" (defArgs sFamilies) (defBody sFamilies) (defScope sFamilies) .none kVFamilies dcFamilies pmFamilies anFamilies cdFamilies ctFamilies), slFamilies⟩)
    (cFamilies : PySem.W.codeIn K cdFamilies "families" = true)
    (kFamilies : PySem.W.keepIn K (.ref fFamilies) = true)
    (aFirstMeeting : PySem.W.nsIn K mainGlobals "first_meeting" = some (some (.ref fFirstMeeting)))
    (lFirstMeeting : K.lookup fFirstMeeting = some ⟨ocFirstMeeting, odFirstMeeting, .func (PySem.W.fnOf "first_meeting" "first_meeting" (defArgs sFirstMeeting) (defBody sFirstMeeting) (defScope sFirstMeeting) .none kVFirstMeeting dcFirstMeeting pmFirstMeeting anFirstMeeting cdFirstMeeting ctFirstMeeting), slFirstMeeting⟩)
    (cFirstMeeting : PySem.W.codeIn K cdFirstMeeting "first_meeting" = true)
    (kFirstMeeting : PySem.W.keepIn K (.ref fFirstMeeting) = true)
    (aMarks : PySem.W.nsIn K mainGlobals "marks_of_meetings" = some (some (.ref fMarks)))
    (lMarks : K.lookup fMarks = some ⟨ocMarks, odMarks, .func (PySem.W.fnOf "marks_of_meetings" "marks_of_meetings" (defArgs sMarks) (defBody sMarks) (defScope sMarks) .none kVMarks dcMarks pmMarks anMarks cdMarks ctMarks), slMarks⟩)
    (cMarks : PySem.W.codeIn K cdMarks "marks_of_meetings" = true)
    (kMarks : PySem.W.keepIn K (.ref fMarks) = true)
    (aShelvesLap : PySem.W.nsIn K mainGlobals "shelves_in_a_lap" = some (some (.ref fShelvesLap)))
    (lShelvesLap : K.lookup fShelvesLap = some ⟨ocShelvesLap, odShelvesLap, .func (PySem.W.fnOf "shelves_in_a_lap" "shelves_in_a_lap" (defArgs sShelvesLap) (defBody sShelvesLap) (defScope sShelvesLap) .none kVShelvesLap dcShelvesLap pmShelvesLap anShelvesLap cdShelvesLap ctShelvesLap), slShelvesLap⟩)
    (cShelvesLap : PySem.W.codeIn K cdShelvesLap "shelves_in_a_lap" = true)
    (kShelvesLap : PySem.W.keepIn K (.ref fShelvesLap) = true)
    (aMarksLap : PySem.W.nsIn K mainGlobals "marks_in_a_lap" = some (some (.ref fMarksLap)))
    (lMarksLap : K.lookup fMarksLap = some ⟨ocMarksLap, odMarksLap, .func (PySem.W.fnOf "marks_in_a_lap" "marks_in_a_lap" (defArgs sMarksLap) (defBody sMarksLap) (defScope sMarksLap) .none kVMarksLap dcMarksLap pmMarksLap anMarksLap cdMarksLap ctMarksLap), slMarksLap⟩)
    (cMarksLap : PySem.W.codeIn K cdMarksLap "marks_in_a_lap" = true)
    (kMarksLap : PySem.W.keepIn K (.ref fMarksLap) = true)
    (aPairs : PySem.W.nsIn K mainGlobals "pairs_before_laps" = some (some (.ref fPairs)))
    (lPairs : K.lookup fPairs = some ⟨ocPairs, odPairs, .func (PySem.W.fnOf "pairs_before_laps" "pairs_before_laps" (defArgs sPairs) (defBody sPairs) (defScope sPairs) .none kVPairs dcPairs pmPairs anPairs cdPairs ctPairs), slPairs⟩)
    (cPairs : PySem.W.codeIn K cdPairs "pairs_before_laps" = true)
    (kPairs : PySem.W.keepIn K (.ref fPairs) = true)
    (aPlanSwaps : PySem.W.nsIn K mainGlobals "plan_swaps" = some (some (.ref fPlanSwaps)))
    (lPlanSwaps : K.lookup fPlanSwaps = some ⟨ocPlanSwaps, odPlanSwaps, .func (PySem.W.fnOf "plan_swaps" "plan_swaps" (defArgs sPlanSwaps) (defBody sPlanSwaps) (defScope sPlanSwaps) .none kVPlanSwaps dcPlanSwaps pmPlanSwaps anPlanSwaps cdPlanSwaps ctPlanSwaps), slPlanSwaps⟩)
    (cPlanSwaps : PySem.W.codeIn K cdPlanSwaps "plan_swaps" = true)
    (kPlanSwaps : PySem.W.keepIn K (.ref fPlanSwaps) = true)
    (aFewest : PySem.W.nsIn K mainGlobals "fewest_swaps" = some (some (.ref fFewest)))
    (lFewest : K.lookup fFewest = some ⟨ocFewest, odFewest, .func (PySem.W.fnOf "fewest_swaps" "fewest_swaps" (defArgs sFewest) (defBody sFewest) (defScope sFewest) .none kVFewest dcFewest pmFewest anFewest cdFewest ctFewest), slFewest⟩)
    (cFewest : PySem.W.codeIn K cdFewest "fewest_swaps" = true)
    (kFewest : PySem.W.keepIn K (.ref fFewest) = true)
    (aCheckArr : PySem.W.nsIn K mainGlobals "check_arrangement" = some (some (.ref fCheckArr)))
    (lCheckArr : K.lookup fCheckArr = some ⟨ocCheckArr, odCheckArr, .func (PySem.W.fnOf "check_arrangement" "check_arrangement" (defArgs sCheckArr) (defBody sCheckArr) (defScope sCheckArr) .none kVCheckArr dcCheckArr pmCheckArr anCheckArr cdCheckArr ctCheckArr), slCheckArr⟩)
    (cCheckArr : PySem.W.codeIn K cdCheckArr "check_arrangement" = true)
    (kCheckArr : PySem.W.keepIn K (.ref fCheckArr) = true)
    (aSwapsBetween : PySem.W.nsIn K mainGlobals "swaps_between" = some (some (.ref fSwapsBetween)))
    (lSwapsBetween : K.lookup fSwapsBetween = some ⟨ocSwapsBetween, odSwapsBetween, .func (PySem.W.fnOf "swaps_between" "swaps_between" (defArgs sSwapsBetween) (defBody sSwapsBetween) (defScope sSwapsBetween) .none kVSwapsBetween dcSwapsBetween pmSwapsBetween anSwapsBetween cdSwapsBetween ctSwapsBetween), slSwapsBetween⟩)
    (cSwapsBetween : PySem.W.codeIn K cdSwapsBetween "swaps_between" = true)
    (kSwapsBetween : PySem.W.keepIn K (.ref fSwapsBetween) = true)
    (aExchange : PySem.W.nsIn K mainGlobals "exchange" = some (some (.ref fExchange)))
    (lExchange : K.lookup fExchange = some ⟨ocExchange, odExchange, .func (PySem.W.fnOf "exchange" "exchange" (defArgs sExchange) (defBody sExchange) (defScope sExchange) .none kVExchange dcExchange pmExchange anExchange cdExchange ctExchange), slExchange⟩)
    (cExchange : PySem.W.codeIn K cdExchange "exchange" = true)
    (kExchange : PySem.W.keepIn K (.ref fExchange) = true)
    (aLMix : PySem.W.nsIn K mainGlobals "_law_mix" = some (some (.ref fLMix)))
    (lLMix : K.lookup fLMix = some ⟨ocLMix, odLMix, .func (PySem.W.fnOf "_law_mix" "_law_mix" (defArgs sMix) (defBody sMix) (defScope sMix) .none kVLMix dcLMix pmLMix anLMix cdLMix ctLMix), slLMix⟩)
    (cLMix : PySem.W.codeIn K cdLMix "_law_mix" = true)
    (kLMix : PySem.W.keepIn K (.ref fLMix) = true)
    (aLNext : PySem.W.nsIn K mainGlobals "_law_next" = some (some (.ref fLNext)))
    (lLNext : K.lookup fLNext = some ⟨ocLNext, odLNext, .func (PySem.W.fnOf "_law_next" "_law_next" (defArgs sNext) (defBody sNext) (defScope sNext) .none kVLNext dcLNext pmLNext anLNext cdLNext ctLNext), slLNext⟩)
    (cLNext : PySem.W.codeIn K cdLNext "_law_next" = true)
    (kLNext : PySem.W.keepIn K (.ref fLNext) = true)
    (aLPlan : PySem.W.nsIn K mainGlobals "_law_plan" = some (some (.ref fLPlan)))
    (lLPlan : K.lookup fLPlan = some ⟨ocLPlan, odLPlan, .func (PySem.W.fnOf "_law_plan" "_law_plan" (defArgs sPlan) (defBody sPlan) (defScope sPlan) .none kVLPlan dcLPlan pmLPlan anLPlan cdLPlan ctLPlan), slLPlan⟩)
    (cLPlan : PySem.W.codeIn K cdLPlan "_law_plan" = true)
    (kLPlan : PySem.W.keepIn K (.ref fLPlan) = true)
    (aLState : PySem.W.nsIn K mainGlobals "_law_state" = some (some (.ref fLState)))
    (lLState : K.lookup fLState = some ⟨ocLState, odLState, .func (PySem.W.fnOf "_law_state" "_law_state" (defArgs sState) (defBody sState) (defScope sState) .none kVLState dcLState pmLState anLState cdLState ctLState), slLState⟩)
    (cLState : PySem.W.codeIn K cdLState "_law_state" = true)
    (kLState : PySem.W.keepIn K (.ref fLState) = true)
    (aLTurned : PySem.W.nsIn K mainGlobals "_law_turned" = some (some (.ref fLTurned)))
    (lLTurned : K.lookup fLTurned = some ⟨ocLTurned, odLTurned, .func (PySem.W.fnOf "_law_turned" "_law_turned" (defArgs sTurned) (defBody sTurned) (defScope sTurned) .none kVLTurned dcLTurned pmLTurned anLTurned cdLTurned ctLTurned), slLTurned⟩)
    (cLTurned : PySem.W.codeIn K cdLTurned "_law_turned" = true)
    (kLTurned : PySem.W.keepIn K (.ref fLTurned) = true)
    (aLRenamed : PySem.W.nsIn K mainGlobals "_law_renamed" = some (some (.ref fLRenamed)))
    (lLRenamed : K.lookup fLRenamed = some ⟨ocLRenamed, odLRenamed, .func (PySem.W.fnOf "_law_renamed" "_law_renamed" (defArgs sRenamed) (defBody sRenamed) (defScope sRenamed) .none kVLRenamed dcLRenamed pmLRenamed anLRenamed cdLRenamed ctLRenamed), slLRenamed⟩)
    (cLRenamed : PySem.W.codeIn K cdLRenamed "_law_renamed" = true)
    (kLRenamed : PySem.W.keepIn K (.ref fLRenamed) = true)
    (aLLawMoved : PySem.W.nsIn K mainGlobals "_law_moved" = some (some (.ref fLLawMoved)))
    (lLLawMoved : K.lookup fLLawMoved = some ⟨ocLLawMoved, odLLawMoved, .func (PySem.W.fnOf "_law_moved" "_law_moved" (defArgs sLawMoved) (defBody sLawMoved) (defScope sLawMoved) .none kVLLawMoved dcLLawMoved pmLLawMoved anLLawMoved cdLLawMoved ctLLawMoved), slLLawMoved⟩)
    (cLLawMoved : PySem.W.codeIn K cdLLawMoved "_law_moved" = true)
    (kLLawMoved : PySem.W.keepIn K (.ref fLLawMoved) = true)
    (aLLawMore : PySem.W.nsIn K mainGlobals "_law_more" = some (some (.ref fLLawMore)))
    (lLLawMore : K.lookup fLLawMore = some ⟨ocLLawMore, odLLawMore, .func (PySem.W.fnOf "_law_more" "_law_more" (defArgs sLawMore) (defBody sLawMore) (defScope sLawMore) .none kVLLawMore dcLLawMore pmLLawMore anLLawMore cdLLawMore ctLLawMore), slLLawMore⟩)
    (cLLawMore : PySem.W.codeIn K cdLLawMore "_law_more" = true)
    (kLLawMore : PySem.W.keepIn K (.ref fLLawMore) = true)
    (aLMoreRight : PySem.W.nsIn K mainGlobals "_law_more_right" = some (some (.ref fLMoreRight)))
    (lLMoreRight : K.lookup fLMoreRight = some ⟨ocLMoreRight, odLMoreRight, .func (PySem.W.fnOf "_law_more_right" "_law_more_right" (defArgs sMoreRight) (defBody sMoreRight) (defScope sMoreRight) .none kVLMoreRight dcLMoreRight pmLMoreRight anLMoreRight cdLMoreRight ctLMoreRight), slLMoreRight⟩)
    (cLMoreRight : PySem.W.codeIn K cdLMoreRight "_law_more_right" = true)
    (kLMoreRight : PySem.W.keepIn K (.ref fLMoreRight) = true)
    (aLaw : PySem.W.nsIn K mainGlobals "law" = some (some (.ref fLaw)))
    (lLaw : K.lookup fLaw = some ⟨ocLaw, odLaw, .func (PySem.W.fnOf "law" "law" (defArgs sLaw) (defBody sLaw) (defScope sLaw) .none kVLaw dcLaw pmLaw anLaw cdLaw ctLaw), slLaw⟩)
    (cLaw : PySem.W.codeIn K cdLaw "law" = true)
    (kLaw : PySem.W.keepIn K (.ref fLaw) = true)
    (n_isinstance : PySem.W.nsIn K mainGlobals "isinstance" = some none)
    (n_bool : PySem.W.nsIn K mainGlobals "bool" = some none)
    (n_int : PySem.W.nsIn K mainGlobals "int" = some none)
    (n_str : PySem.W.nsIn K mainGlobals "str" = some none)
    (n_list : PySem.W.nsIn K mainGlobals "list" = some none)
    (n_tuple : PySem.W.nsIn K mainGlobals "tuple" = some none)
    (n_dict : PySem.W.nsIn K mainGlobals "dict" = some none)
    (n_len : PySem.W.nsIn K mainGlobals "len" = some none)
    (n_range : PySem.W.nsIn K mainGlobals "range" = some none)
    (n_enumerate : PySem.W.nsIn K mainGlobals "enumerate" = some none)
    (n_max : PySem.W.nsIn K mainGlobals "max" = some none)
    (n_sum : PySem.W.nsIn K mainGlobals "sum" = some none)
    (n_set : PySem.W.nsIn K mainGlobals "set" = some none)
    (n_zip : PySem.W.nsIn K mainGlobals "zip" = some none)
    (n_divmod : PySem.W.nsIn K mainGlobals "divmod" = some none)
    (n_sorted : PySem.W.nsIn K mainGlobals "sorted" = some none)
    (n_abs : PySem.W.nsIn K mainGlobals "abs" = some none)
    (n_min : PySem.W.nsIn K mainGlobals "min" = some none)
    (n_super : PySem.W.nsIn K mainGlobals "super" = some none)
    (n_lcm : PySem.W.nsIn K mainGlobals "lcm" = some (some (.builtin "math.lcm")))
    (m1 : PySem.W.nsIn K mainGlobals "MOST_SHELVES" = some (some (.int 12 tm1)))
    (m2 : PySem.W.nsIn K mainGlobals "MOST_ON_SHELF" = some (some (.int 9 tm2)))
    (m3 : PySem.W.nsIn K mainGlobals "MOST_CARRIERS" = some (some (.int 6 tm3)))
    (m4 : PySem.W.nsIn K mainGlobals "MOST_ENTRIES" = some (some (.int 6 tm4)))
    (mst : PySem.W.nsIn K mainGlobals "MOST_STAMPS" = some (some (.int 200 tms)))
    (lastP : PySem.W.nsIn K mainGlobals "LAST_PARCEL" = some (some (.int 999 tlP)))
    (e0 : PySem.W.nsIn K mainGlobals "InvalidPlan" = some (some (.ref C0)))
    (e1 : PySem.W.nsIn K mainGlobals "InvalidState" = some (some (.ref C1)))
    (e2 : PySem.W.nsIn K mainGlobals "InvalidCount" = some (some (.ref C2)))
    (e4 : PySem.W.nsIn K mainGlobals "UnknownParcel" = some (some (.ref C4)))
    (e5 : PySem.W.nsIn K mainGlobals "UnknownShelf" = some (some (.ref C5)))
    (e11 : PySem.W.nsIn K mainGlobals "InvalidArrangement" = some (some (.ref C11)))
    (xk0 : PySem.W.keepIn K (.ref C0) = true)
    (xb0 : PySem.W.subIn K (.ref C0) (.type "BaseException") = some true)
    (xt0 : PySem.W.typeIn K (.ref C0) = some (.type "type"))
    (yg0 : PySem.W.findIn K (.ref C0) "__getattribute__" = some (some (.builtin "BaseException.__getattribute__")))
    (yk0 : PySem.W.findIn K (.ref C0) "__getattr__" = some none)
    (yd0 : PySem.W.hasDictIn K C0 = true)
    (x1 : PySem.W.excIn K C1 [.type "ValueError", .type "Exception", .type "BaseException", .type "object"] "ValueError.__new__" = true)
    (xk1 : PySem.W.keepIn K (.ref C1) = true)
    (xb1 : PySem.W.subIn K (.ref C1) (.type "BaseException") = some true)
    (xt1 : PySem.W.typeIn K (.ref C1) = some (.type "type"))
    (x2 : PySem.W.excIn K C2 [.type "ValueError", .type "Exception", .type "BaseException", .type "object"] "ValueError.__new__" = true)
    (xk2 : PySem.W.keepIn K (.ref C2) = true)
    (xb2 : PySem.W.subIn K (.ref C2) (.type "BaseException") = some true)
    (xt2 : PySem.W.typeIn K (.ref C2) = some (.type "type"))
    (x4 : PySem.W.excIn K C4 [.type "ValueError", .type "Exception", .type "BaseException", .type "object"] "ValueError.__new__" = true)
    (xk4 : PySem.W.keepIn K (.ref C4) = true)
    (xb4 : PySem.W.subIn K (.ref C4) (.type "BaseException") = some true)
    (xt4 : PySem.W.typeIn K (.ref C4) = some (.type "type"))
    (x5 : PySem.W.excIn K C5 [.type "ValueError", .type "Exception", .type "BaseException", .type "object"] "ValueError.__new__" = true)
    (xk5 : PySem.W.keepIn K (.ref C5) = true)
    (xb5 : PySem.W.subIn K (.ref C5) (.type "BaseException") = some true)
    (xt5 : PySem.W.typeIn K (.ref C5) = some (.type "type"))
    (x11 : PySem.W.excIn K C11 [.type "ValueError", .type "Exception", .type "BaseException", .type "object"] "ValueError.__new__" = true)
    (xk11 : PySem.W.keepIn K (.ref C11) = true)
    (xb11 : PySem.W.subIn K (.ref C11) (.type "BaseException") = some true)
    (xt11 : PySem.W.typeIn K (.ref C11) = some (.type "type"))
    (qC : PySem.W.nsIn K mainGlobals "Lap" = some (some (.ref CL)))
    (q1 : PySem.W.findIn K (.ref CL) "__init__" = some (some (.ref fL)))
    (q2 : PySem.W.isFn K (.ref fL) = true)
    (q3 : K.lookup fL = some ⟨ocL, odL, .func (PySem.W.fnOf "__init__" "Lap.__init__" (defArgs sLapInit) (defBody sLapInit) (defScope sLapInit) .none kVL dcL pmL anL cdL ctL), slL⟩)
    (q4 : PySem.W.codeIn K cdL "Lap.__init__" = true)
    (q5 : PySem.W.keepIn K (.ref fL) = true)
    (q6 : PySem.W.plainGet K CL Str.empty = true)
    (q7 : PySem.W.hasDictIn K CL = true)
    (q8 : PySem.W.plainOver K CL = true)
    (q9 : PySem.W.findIn K (.ref CL) "__setattr__" = some (some (.builtin "object.__setattr__")))
    (q10 : PySem.W.makesIn K CL = true)
    (q11 : PySem.W.keepIn K (.ref CL) = true)
    (q12 : PySem.W.findIn K (.ref CL) "length" = some none)
    (q13 : PySem.W.findIn K (.ref CL) "stops" = some none)
    (q14 : PySem.W.findIn K (.ref CL) "lefts" = some none)
    (q15 : PySem.W.findIn K (.ref CL) "effect" = some none)
    (pC : K.lookup C0 = some (excClassObj pnm pq C0 pN pbs pbm true psn psub pab pcol pdd pk0 pk1 pk2 pk3 pk5 "ValueError.__new__"))
    (pR : PySem.HandSPX.refsVE pbm = true)
    (pSa : PySem.W.findIn K (.ref C0) "__setattr__" = some (some (.builtin "object.__setattr__")))
    (pN1 : PySem.W.findIn K (.ref C0) "part" = some none)
    (pN2 : PySem.W.findIn K (.ref C0) "index" = some none)
    (iC : PySem.W.findIn K (.ref C0) "__init__" = some (some (.ref fI)))
    (tI : PySem.W.typeIn K (.ref fI) = some (.type "function"))
    (lI : K.lookup fI = some ⟨ocI, odI, .func ((nfPlan cc c0).fd docI pmI ctI), slI⟩)
    (pCell : K.lookup cc = some ⟨ccl, ccd, .cell (some (.ref C0)), ccs⟩)
    (pCode : PySem.W.codeIn K (.ref c0) "InvalidPlan.__init__" = true)
    (pKo : K.lookup c0 = some ⟨kcl, kcd, .fields kvs, kcs⟩)
    (pKf : kvs[2]? = some (.str kfl ktf))
    (pKm : ((P.main.file : Str) == kfl) = true)
    (pTop : (P.main.scope.names.lookup ("super" : Str)).isSome = false)
    (pHs : PySem.W.ks_superIn K C0 C0 "__init__" = some (some (.builtin "ValueError.__init__")))
    (pHo : PySem.W.nsIn K PySem.cStatics "thirdparty.any" = some none)
    (pHB : PySem.W.subIn K (.ref C0) (.type "ValueError") = some true)
    (pHm : PySem.W.mroIn K C0 (.ref C0) = some true)
    : ∃ (fd : FuncData) (cs : List (Addr × Addr)) (sp : Sp), (∀ p ∈ cs, h.get? p.2 = some { cls := .none, data := .fields #[] }) ∧ (∀ p ∈ cs, K.lookup p.2 = none) ∧ (∀ p ∈ cs, PySem.W.CodeHd h p.1 p.2) ∧ (∀ (s : Shared) (u : Value), BindsTo s fd ⟨[u], []⟩ [("_law_script", u)]) ∧
    (∀ (H : Hp) (a : Addr) (ns : List Int), ns.length ≤ 63 → (∀ z ∈ ns, Builtin.Int.intBits z ≤ 1048576) → (∀ p ∈ cs, H p.2 = some (.tbl #[])) → SqL K H a (ns.map V.int) → sp [.ref a] H (fun v _ => v = .bl true) fun _ _ _ => False) ∧
    ∀ base : Heap, K.In base → base.Ns mainGlobals mg → (∀ p ∈ cs, TabB base mg p.1 p.2) → FnOk P w K mg base CX0 14 fa fd ["_law_script"] sp := by
  have e := hfa.symm.trans (PySem.W.mg_of X G aLaw)
  cases e
  have DWithin := df_mk (ps := ["number", "low", "high"]) X G aWithin lWithin cWithin kWithin fun _ _ _ _ _ _ us hl => lstN3 (fun _ _ _ => rfl) us hl
  have DCheckCount := df_mk (ps := ["count"]) X G aCheckCount lCheckCount cCheckCount kCheckCount fun _ _ _ _ _ _ us hl => lstN1 (fun _ => rfl) us hl
  have DCheckTicks := df_mk (ps := ["count"]) X G aCheckTicks lCheckTicks cCheckTicks kCheckTicks fun _ _ _ _ _ _ us hl => lstN1 (fun _ => rfl) us hl
  have DCheckBetween := df_mk (ps := ["number", "low", "high"]) X G aCheckBetween lCheckBetween cCheckBetween kCheckBetween fun _ _ _ _ _ _ us hl => lstN3 (fun _ _ _ => rfl) us hl
  have DPattern := df_mk (ps := ["plan"]) X G aPattern lPattern cPattern kPattern fun _ _ _ _ _ _ us hl => lstN1 (fun _ => rfl) us hl
  have DCheckPlan := df_mk (ps := ["plan"]) X G aCheckPlan lCheckPlan cCheckPlan kCheckPlan fun _ _ _ _ _ _ us hl => lstN1 (fun _ => rfl) us hl
  have DCheckSizes := df_mk (ps := ["sizes"]) X G aCheckSizes lCheckSizes cCheckSizes kCheckSizes fun _ _ _ _ _ _ us hl => lstN1 (fun _ => rfl) us hl
  have DCheckRoutes := df_mk (ps := ["routes", "shelves"]) X G aCheckRoutes lCheckRoutes cCheckRoutes kCheckRoutes fun _ _ _ _ _ _ us hl => lstN2 (fun _ _ => rfl) us hl
  have DIsRoute := df_mk (ps := ["route", "shelves"]) X G aIsRoute lIsRoute cIsRoute kIsRoute fun _ _ _ _ _ _ us hl => lstN2 (fun _ _ => rfl) us hl
  have DPlacesOf := df_mk (ps := ["plan"]) X G aPlacesOf lPlacesOf cPlacesOf kPlacesOf fun _ _ _ _ _ _ us hl => lstN1 (fun _ => rfl) us hl
  have DCheckShelf := df_mk (ps := ["plan", "shelf"]) X G aCheckShelf lCheckShelf cCheckShelf kCheckShelf fun _ _ _ _ _ _ us hl => lstN2 (fun _ _ => rfl) us hl
  have DShelvesOf := df_mk (ps := ["plan"]) X G aShelvesOf lShelvesOf cShelvesOf kShelvesOf fun _ _ _ _ _ _ us hl => lstN1 (fun _ => rfl) us hl
  have DNumPlaces := df_mk (ps := ["plan"]) X G aNumPlaces lNumPlaces cNumPlaces kNumPlaces fun _ _ _ _ _ _ us hl => lstN1 (fun _ => rfl) us hl
  have DVisitsIn := df_mk (ps := ["routes", "number"]) X G aVisitsIn lVisitsIn cVisitsIn kVisitsIn fun _ _ _ _ _ _ us hl => lstN2 (fun _ _ => rfl) us hl
  have DCommon := df_mk (ps := ["routes"]) X G aCommon lCommon cCommon kCommon fun _ _ _ _ _ _ us hl => lstN1 (fun _ => rfl) us hl
  have DRoutePat := df_mk (ps := ["route"]) X G aRoutePat lRoutePat cRoutePat kRoutePat fun _ _ _ _ _ _ us hl => lstN1 (fun _ => rfl) us hl
  have DJoin := df_mk (ps := ["carried", "shelves"]) X G aJoin lJoin cJoin kJoin fun _ _ _ _ _ _ us hl => lstN2 (fun _ _ => rfl) us hl
  have DSplit := df_mk (ps := ["plan", "contents"]) X G aSplit lSplit cSplit kSplit fun _ _ _ _ _ _ us hl => lstN2 (fun _ _ => rfl) us hl
  have DAfterTick := df_mk (ps := ["plan", "number", "carried", "shelves"]) X G aAfterTick lAfterTick cAfterTick kAfterTick fun _ _ _ _ _ _ us hl => lstN4 (fun _ _ _ _ => rfl) us hl
  have DEffectTicks := df_mk (ps := ["plan", "time", "count"]) X G aEffectTicks lEffectTicks cEffectTicks kEffectTicks fun _ _ _ _ _ _ us hl => lstN3 (fun _ _ _ => rfl) us hl
  have DInverse := df_mk (ps := ["effect"]) X G aInverse lInverse cInverse kInverse fun _ _ _ _ _ _ us hl => lstN1 (fun _ => rfl) us hl
  have DRepeated := df_mk (ps := ["effect", "count"]) X G aRepeated lRepeated cRepeated kRepeated fun _ _ _ _ _ _ us hl => lstN2 (fun _ _ => rfl) us hl
  have DOrderOf := df_mk (ps := ["effect"]) X G aOrderOf lOrderOf cOrderOf kOrderOf fun _ _ _ _ _ _ us hl => lstN1 (fun _ => rfl) us hl
  have DCyclesOf := df_mk (ps := ["effect"]) X G aCyclesOf lCyclesOf cCyclesOf kCyclesOf fun _ _ _ _ _ _ us hl => lstN1 (fun _ => rfl) us hl
  have DCycleFrom := df_mk (ps := ["effect", "start"]) X G aCycleFrom lCycleFrom cCycleFrom kCycleFrom fun _ _ _ _ _ _ us hl => lstN2 (fun _ _ => rfl) us hl
  have DMoved := df_mk (ps := ["plan", "state", "effect"]) X G aMoved lMoved cMoved kMoved fun _ _ _ _ _ _ us hl => lstN3 (fun _ _ _ => rfl) us hl
  have DStateOf := df_mk (ps := ["plan", "time", "parcels"]) X G aStateOf lStateOf cStateOf kStateOf fun _ _ _ _ _ _ us hl => lstN3 (fun _ _ _ => rfl) us hl
  have DParcelsIn := df_mk (ps := ["state"]) X G aParcelsIn lParcelsIn cParcelsIn kParcelsIn fun _ _ _ _ _ _ us hl => lstN1 (fun _ => rfl) us hl
  have DCheckState := df_mk (ps := ["plan", "state"]) X G aCheckState lCheckState cCheckState kCheckState fun _ _ _ _ _ _ us hl => lstN2 (fun _ _ => rfl) us hl
  have DFits := df_mk (ps := ["plan", "carried", "shelves"]) X G aFits lFits cFits kFits fun _ _ _ _ _ _ us hl => lstN3 (fun _ _ _ => rfl) us hl
  have DTupOf := df_mk (ps := ["row", "length"]) X G aTupOf lTupOf cTupOf kTupOf fun _ _ _ _ _ _ us hl => lstN2 (fun _ _ => rfl) us hl
  have DParcels := df_mk (ps := ["parcels"]) X G aParcels lParcels cParcels kParcels fun _ _ _ _ _ _ us hl => lstN1 (fun _ => rfl) us hl
  have DCheckParcel := df_mk (ps := ["parcels", "parcel"]) X G aCheckParcel lCheckParcel cCheckParcel kCheckParcel fun _ _ _ _ _ _ us hl => lstN2 (fun _ _ => rfl) us hl
  have DPlaceOfParcel := df_mk (ps := ["state", "parcel"]) X G aPlaceOfParcel lPlaceOfParcel cPlaceOfParcel kPlaceOfParcel fun _ _ _ _ _ _ us hl => lstN2 (fun _ _ => rfl) us hl
  have DStartOf := df_mk (ps := ["plan", "state", "parcel"]) X G aStartOf lStartOf cStartOf kStartOf fun _ _ _ _ _ _ us hl => lstN3 (fun _ _ _ => rfl) us hl
  have DAdvance := df_mk (ps := ["plan", "state", "count"]) X G aAdvance lAdvance cAdvance kAdvance fun _ _ _ _ _ _ us hl => lstN3 (fun _ _ _ => rfl) us hl
  have DPeriod := df_mk (ps := ["plan", "state"]) X G aPeriod lPeriod cPeriod kPeriod fun _ _ _ _ _ _ us hl => lstN2 (fun _ _ => rfl) us hl
  have DLeftsJ := df_mk (ps := ["lap", "start"]) X G aLeftsJ lLeftsJ cLeftsJ kLeftsJ fun _ _ _ _ _ _ us hl => lstN2 (fun _ _ => rfl) us hl
  have DCountIn := df_mk (ps := ["row", "wanted", "count"]) X G aCountIn lCountIn cCountIn kCountIn fun _ _ _ _ _ _ us hl => lstN3 (fun _ _ _ => rfl) us hl
  have DTimesLeft := df_mk (ps := ["plan", "state", "parcel", "shelf", "count"]) X G aTimesLeft lTimesLeft cTimesLeft kTimesLeft fun _ _ _ _ _ _ us hl => lstN5 (fun _ _ _ _ _ => rfl) us hl
  have DStamps := df_mk (ps := ["plan", "state", "parcel", "count"]) X G aStamps lStamps cStamps kStamps fun _ _ _ _ _ _ us hl => lstN4 (fun _ _ _ _ => rfl) us hl
  have DStampsJ := df_mk (ps := ["plan", "state", "start"]) X G aStampsJ lStampsJ cStampsJ kStampsJ fun _ _ _ _ _ _ us hl => lstN3 (fun _ _ _ => rfl) us hl
  have DFamilies := df_mk (ps := ["plan", "state"]) X G aFamilies lFamilies cFamilies kFamilies fun _ _ _ _ _ _ us hl => lstN2 (fun _ _ => rfl) us hl
  have DFirstMeeting := df_mk (ps := ["plan", "state", "one", "other"]) X G aFirstMeeting lFirstMeeting cFirstMeeting kFirstMeeting fun _ _ _ _ _ _ us hl => lstN4 (fun _ _ _ _ => rfl) us hl
  have DMarks := df_mk (ps := ["plan", "state", "one", "other"]) X G aMarks lMarks cMarks kMarks fun _ _ _ _ _ _ us hl => lstN4 (fun _ _ _ _ => rfl) us hl
  have DShelvesLap := df_mk (ps := ["plan", "lap"]) X G aShelvesLap lShelvesLap cShelvesLap kShelvesLap fun _ _ _ _ _ _ us hl => lstN2 (fun _ _ => rfl) us hl
  have DMarksLap := df_mk (ps := ["row", "other"]) X G aMarksLap lMarksLap cMarksLap kMarksLap fun _ _ _ _ _ _ us hl => lstN2 (fun _ _ => rfl) us hl
  have DPairs := df_mk (ps := ["effect", "one", "other"]) X G aPairs lPairs cPairs kPairs fun _ _ _ _ _ _ us hl => lstN3 (fun _ _ _ => rfl) us hl
  have DPlanSwaps := df_mk (ps := ["plan", "state", "goal", "count"]) X G aPlanSwaps lPlanSwaps cPlanSwaps kPlanSwaps fun _ _ _ _ _ _ us hl => lstN4 (fun _ _ _ _ => rfl) us hl
  have DFewest := df_mk (ps := ["plan", "state", "goal", "count"]) X G aFewest lFewest cFewest kFewest fun _ _ _ _ _ _ us hl => lstN4 (fun _ _ _ _ => rfl) us hl
  have DCheckArr := df_mk (ps := ["parcels", "goal"]) X G aCheckArr lCheckArr cCheckArr kCheckArr fun _ _ _ _ _ _ us hl => lstN2 (fun _ _ => rfl) us hl
  have DSwapsBetween := df_mk (ps := ["found", "parcels", "wanted"]) X G aSwapsBetween lSwapsBetween cSwapsBetween kSwapsBetween fun _ _ _ _ _ _ us hl => lstN3 (fun _ _ _ => rfl) us hl
  have DExchange := df_mk (ps := ["contents", "one", "other"]) X G aExchange lExchange cExchange kExchange fun _ _ _ _ _ _ us hl => lstN3 (fun _ _ _ => rfl) us hl
  have DLMix := df_mk (ps := ["_law_script", "_law_seed"]) X G aLMix lLMix cLMix kLMix fun _ _ _ _ _ _ us hl => lstN2 (fun _ _ => rfl) us hl
  have DLNext := df_mk (ps := ["_law_h", "_law_limit"]) X G aLNext lLNext cLNext kLNext fun _ _ _ _ _ _ us hl => lstN2 (fun _ _ => rfl) us hl
  have DLPlan := df_mk (ps := ["_law_h", "_law_shelves", "_law_carriers"]) X G aLPlan lLPlan cLPlan kLPlan fun _ _ _ _ _ _ us hl => lstN3 (fun _ _ _ => rfl) us hl
  have DLState := df_mk (ps := ["_law_h", "_law_plan_here"]) X G aLState lLState cLState kLState fun _ _ _ _ _ _ us hl => lstN2 (fun _ _ => rfl) us hl
  have DLTurned := df_mk (ps := ["_law_row", "_law_by"]) X G aLTurned lLTurned cLTurned kLTurned fun _ _ _ _ _ _ us hl => lstN2 (fun _ _ => rfl) us hl
  have DLRenamed := df_mk (ps := ["_law_state_here"]) X G aLRenamed lLRenamed cLRenamed kLRenamed fun _ _ _ _ _ _ us hl => lstN1 (fun _ => rfl) us hl
  have DLLawMoved := df_mk (ps := ["_law_plan_here", "_law_state_here", "_law_by"]) X G aLLawMoved lLLawMoved cLLawMoved kLLawMoved fun _ _ _ _ _ _ us hl => lstN3 (fun _ _ _ => rfl) us hl
  have DLLawMore := df_mk (ps := ["_law_plan_here", "_law_state_here"]) X G aLLawMore lLLawMore cLLawMore kLLawMore fun _ _ _ _ _ _ us hl => lstN2 (fun _ _ => rfl) us hl
  have DLMoreRight := df_mk (ps := ["_law_plan_here", "_law_state_here", "_law_later", "_law_far"]) X G aLMoreRight lLMoreRight cLMoreRight kLMoreRight fun _ _ _ _ _ _ us hl => lstN4 (fun _ _ _ _ => rfl) us hl
  have DLaw := df_mk (ps := ["_law_script"]) X G aLaw lLaw cLaw kLaw fun _ _ _ _ _ _ us hl => lstN1 (fun _ => rfl) us hl
  have B : Bt mg := ⟨PySem.W.mg_none_of X G n_isinstance, PySem.W.mg_none_of X G n_bool, PySem.W.mg_none_of X G n_int, PySem.W.mg_none_of X G n_str, PySem.W.mg_none_of X G n_list, PySem.W.mg_none_of X G n_tuple, PySem.W.mg_none_of X G n_dict, PySem.W.mg_none_of X G n_len, PySem.W.mg_none_of X G n_range, PySem.W.mg_none_of X G n_enumerate, PySem.W.mg_none_of X G n_max, PySem.W.mg_none_of X G n_sum, PySem.W.mg_none_of X G n_set, PySem.W.mg_none_of X G n_zip, PySem.W.mg_none_of X G n_divmod, PySem.W.mg_none_of X G n_sorted, PySem.W.mg_none_of X G n_abs, PySem.W.mg_none_of X G n_min⟩
  have OX : OexC K C0 := ⟨⟨pnm, pq, pN, pbs, pbm, psn, psub, pab, pcol, pdd, pk0, pk1, pk2, pk3, pk5, pC, pR⟩, pSa, xb0, xt0, xk0⟩
  have XF : XfC K C0 := ⟨yg0, yk0, xb0, yd0⟩
  have SF : SupF P K mg C0 fI cc (nfPlan cc c0) arPlan := ⟨OX, rfl, ⟨_, _, _, pCell⟩, pCode, ⟨_, _, _, _, _, _, pKo, pKf, pKm⟩, pTop, PySem.W.mg_none_of X G n_super, rfl, rfl, rfl, pHs, pHo, pHB, pHm⟩
  have PL : Pl P K mg C0 fI ((nfPlan cc c0).fd docI pmI ctI) := ⟨⟨cc, c0, _, _, _, _, _, _, rfl, SF, lI⟩, pN1, pN2, PySem.W.mg_of X G e0, iC, tI, .all fun us hl => match us, hl with | [_, _, _], _ => rfl, XF⟩
  have FLp := fun_mk (st := sLapInit) q3 q4 q5
  have LPF : LapF K mg CL fL _ := ⟨PySem.W.mg_of X G qC, ⟨q10, q1, q2, q11⟩, ⟨q6, q7, q8, q9⟩, q12, q13, q14, q15, FLp, FLp.binds (ps := ["self", "plan", "time"]) fun _ _ _ _ _ _ us hl => match us, hl with | [_, _, _], _ => rfl⟩
  let T : Bd P K mg := { bt := B, CLap := CL, aLap := fL, dLap := _, lap := LPF, lcm := PySem.W.mg_of X G n_lcm, C := C0, aInit := fI, dInit := _, pl := PL, m1 := ⟨_, PySem.W.mg_of X G m1⟩, m2 := ⟨_, PySem.W.mg_of X G m2⟩, m3 := ⟨_, PySem.W.mg_of X G m3⟩, m4 := ⟨_, PySem.W.mg_of X G m4⟩, lim := hlim, tlim := htlim, mst := ⟨_, PySem.W.mg_of X G mst⟩, lastP := ⟨_, PySem.W.mg_of X G lastP⟩, CC := C2, cc := ⟨PySem.W.mg_of X G e2, x2, xk2, xb2, xt2⟩, CS := C1, cs := ⟨PySem.W.mg_of X G e1, x1, xk1, xb1, xt1⟩, CUr := C4, cur := ⟨PySem.W.mg_of X G e4, x4, xk4, xb4, xt4⟩, CUs := C5, cus := ⟨PySem.W.mg_of X G e5, x5, xk5, xb5, xt5⟩, CAr := C11, car := ⟨PySem.W.mg_of X G e11, x11, xk11, xb11, xt11⟩, aWithin := _, dWithin := _, Within := DWithin, aCheckCount := _, dCheckCount := _, CheckCount := DCheckCount, aCheckTicks := _, dCheckTicks := _, CheckTicks := DCheckTicks, aCheckBetween := _, dCheckBetween := _, CheckBetween := DCheckBetween, aPattern := _, dPattern := _, Pattern := DPattern, aCheckPlan := _, dCheckPlan := _, CheckPlan := DCheckPlan, aCheckSizes := _, dCheckSizes := _, CheckSizes := DCheckSizes, aCheckRoutes := _, dCheckRoutes := _, CheckRoutes := DCheckRoutes, aIsRoute := _, dIsRoute := _, IsRoute := DIsRoute, aPlacesOf := _, dPlacesOf := _, PlacesOf := DPlacesOf, aCheckShelf := _, dCheckShelf := _, CheckShelf := DCheckShelf, aShelvesOf := _, dShelvesOf := _, ShelvesOf := DShelvesOf, aNumPlaces := _, dNumPlaces := _, NumPlaces := DNumPlaces, aVisitsIn := _, dVisitsIn := _, VisitsIn := DVisitsIn, aCommon := _, dCommon := _, Common := DCommon, aRoutePat := _, dRoutePat := _, RoutePat := DRoutePat, aJoin := _, dJoin := _, Join := DJoin, aSplit := _, dSplit := _, Split := DSplit, aAfterTick := _, dAfterTick := _, AfterTick := DAfterTick, aEffectTicks := _, dEffectTicks := _, EffectTicks := DEffectTicks, aInverse := _, dInverse := _, Inverse := DInverse, aRepeated := _, dRepeated := _, Repeated := DRepeated, aOrderOf := _, dOrderOf := _, OrderOf := DOrderOf, aCyclesOf := _, dCyclesOf := _, CyclesOf := DCyclesOf, aCycleFrom := _, dCycleFrom := _, CycleFrom := DCycleFrom, aMoved := _, dMoved := _, Moved := DMoved, aStateOf := _, dStateOf := _, StateOf := DStateOf, aParcelsIn := _, dParcelsIn := _, ParcelsIn := DParcelsIn, aCheckState := _, dCheckState := _, CheckState := DCheckState, aFits := _, dFits := _, Fits := DFits, aTupOf := _, dTupOf := _, TupOf := DTupOf, aParcels := _, dParcels := _, Parcels := DParcels, aCheckParcel := _, dCheckParcel := _, CheckParcel := DCheckParcel, aPlaceOfParcel := _, dPlaceOfParcel := _, PlaceOfParcel := DPlaceOfParcel, aStartOf := _, dStartOf := _, StartOf := DStartOf, aAdvance := _, dAdvance := _, Advance := DAdvance, aPeriod := _, dPeriod := _, Period := DPeriod, aLeftsJ := _, dLeftsJ := _, LeftsJ := DLeftsJ, aCountIn := _, dCountIn := _, CountIn := DCountIn, aTimesLeft := _, dTimesLeft := _, TimesLeft := DTimesLeft, aStamps := _, dStamps := _, Stamps := DStamps, aStampsJ := _, dStampsJ := _, StampsJ := DStampsJ, aFamilies := _, dFamilies := _, Families := DFamilies, aFirstMeeting := _, dFirstMeeting := _, FirstMeeting := DFirstMeeting, aMarks := _, dMarks := _, Marks := DMarks, aShelvesLap := _, dShelvesLap := _, ShelvesLap := DShelvesLap, aMarksLap := _, dMarksLap := _, MarksLap := DMarksLap, aPairs := _, dPairs := _, Pairs := DPairs, aPlanSwaps := _, dPlanSwaps := _, PlanSwaps := DPlanSwaps, aFewest := _, dFewest := _, Fewest := DFewest, aCheckArr := _, dCheckArr := _, CheckArr := DCheckArr, aSwapsBetween := _, dSwapsBetween := _, SwapsBetween := DSwapsBetween, aExchange := _, dExchange := _, Exchange := DExchange, aLMix := _, dLMix := _, LMix := DLMix, aLNext := _, dLNext := _, LNext := DLNext, aLPlan := _, dLPlan := _, LPlan := DLPlan, aLState := _, dLState := _, LState := DLState, aLTurned := _, dLTurned := _, LTurned := DLTurned, aLRenamed := _, dLRenamed := _, LRenamed := DLRenamed, aLLawMoved := _, dLLawMoved := _, LLawMoved := DLLawMoved, aLLawMore := _, dLLawMore := _, LLawMore := DLLawMore, aLMoreRight := _, dLMoreRight := _, LMoreRight := DLMoreRight, aLaw := _, dLaw := _, Law := DLaw }
  refine ⟨_, [], spLaw K, (fun p hp => nomatch hp), (fun p hp => nomatch hp), (fun p hp => nomatch hp), fun s u => .of_eq rfl, fun H a ns hl _ hH hS => ⟨a, ns, rfl, hS, hl, fun _ => rfl⟩, fun base _ _ TB => ok_law T DLaw⟩
end
end Sv
open PySem PySem.W PyProof.Rows
set_option maxHeartbeats 0 in
theorem PySem.Challenge.cw_swapshelves_k20_whole_names_and_numbers_holds : PySem.Challenge.rw_swapshelves_k20_whole_names_and_numbers.Holds := by
  refine head ?_
  k_fill
  refine Sv.walk_ofTsX (l := PySem.Challenge.rw_swapshelves_k20_whole_names_and_numbers) (n := 63) (k := 14) (x := "_law_script") (CX := fun _ => L2.CX0) rfl (by decide) rfl ⟨rfl, by decide, by decide⟩ (fun w h Y => PySem.W.kIn_of Y) ?F (fun _ _ _ _ _ h => h)
  case F =>
    intro w mg fa h XPh Y KX G hmg
    have hlim : ∃ t, mg "COUNT_LIMIT" = some (.int 1000000000000000000 t) := by
      obtain ⟨v, hv, hr⟩ := XPh.2.val _ (List.mem_cons_self ..)
      cases hr
      exact ⟨_, hv⟩
    have htlim : ∃ t, mg "TIME_LIMIT" = some (.int 1000000000000000000000000000000 t) := by
      obtain ⟨v, hv, hr⟩ := XPh.2.val _ (List.mem_cons_of_mem _ (List.mem_cons_self ..))
      cases hr
      exact ⟨_, hv⟩
    refine' Sv.all_mk KX G hmg hlim htlim ?aWithin ?lWithin ?cWithin ?kWithin ?aCheckCount ?lCheckCount ?cCheckCount ?kCheckCount ?aCheckTicks ?lCheckTicks ?cCheckTicks ?kCheckTicks ?aCheckBetween ?lCheckBetween ?cCheckBetween ?kCheckBetween ?aPattern ?lPattern ?cPattern ?kPattern ?aCheckPlan ?lCheckPlan ?cCheckPlan ?kCheckPlan ?aCheckSizes ?lCheckSizes ?cCheckSizes ?kCheckSizes ?aCheckRoutes ?lCheckRoutes ?cCheckRoutes ?kCheckRoutes ?aIsRoute ?lIsRoute ?cIsRoute ?kIsRoute ?aPlacesOf ?lPlacesOf ?cPlacesOf ?kPlacesOf ?aCheckShelf ?lCheckShelf ?cCheckShelf ?kCheckShelf ?aShelvesOf ?lShelvesOf ?cShelvesOf ?kShelvesOf ?aNumPlaces ?lNumPlaces ?cNumPlaces ?kNumPlaces ?aVisitsIn ?lVisitsIn ?cVisitsIn ?kVisitsIn ?aCommon ?lCommon ?cCommon ?kCommon ?aRoutePat ?lRoutePat ?cRoutePat ?kRoutePat ?aJoin ?lJoin ?cJoin ?kJoin ?aSplit ?lSplit ?cSplit ?kSplit ?aAfterTick ?lAfterTick ?cAfterTick ?kAfterTick ?aEffectTicks ?lEffectTicks ?cEffectTicks ?kEffectTicks ?aInverse ?lInverse ?cInverse ?kInverse ?aRepeated ?lRepeated ?cRepeated ?kRepeated ?aOrderOf ?lOrderOf ?cOrderOf ?kOrderOf ?aCyclesOf ?lCyclesOf ?cCyclesOf ?kCyclesOf ?aCycleFrom ?lCycleFrom ?cCycleFrom ?kCycleFrom ?aMoved ?lMoved ?cMoved ?kMoved ?aStateOf ?lStateOf ?cStateOf ?kStateOf ?aParcelsIn ?lParcelsIn ?cParcelsIn ?kParcelsIn ?aCheckState ?lCheckState ?cCheckState ?kCheckState ?aFits ?lFits ?cFits ?kFits ?aTupOf ?lTupOf ?cTupOf ?kTupOf ?aParcels ?lParcels ?cParcels ?kParcels ?aCheckParcel ?lCheckParcel ?cCheckParcel ?kCheckParcel ?aPlaceOfParcel ?lPlaceOfParcel ?cPlaceOfParcel ?kPlaceOfParcel ?aStartOf ?lStartOf ?cStartOf ?kStartOf ?aAdvance ?lAdvance ?cAdvance ?kAdvance ?aPeriod ?lPeriod ?cPeriod ?kPeriod ?aLeftsJ ?lLeftsJ ?cLeftsJ ?kLeftsJ ?aCountIn ?lCountIn ?cCountIn ?kCountIn ?aTimesLeft ?lTimesLeft ?cTimesLeft ?kTimesLeft ?aStamps ?lStamps ?cStamps ?kStamps ?aStampsJ ?lStampsJ ?cStampsJ ?kStampsJ ?aFamilies ?lFamilies ?cFamilies ?kFamilies ?aFirstMeeting ?lFirstMeeting ?cFirstMeeting ?kFirstMeeting ?aMarks ?lMarks ?cMarks ?kMarks ?aShelvesLap ?lShelvesLap ?cShelvesLap ?kShelvesLap ?aMarksLap ?lMarksLap ?cMarksLap ?kMarksLap ?aPairs ?lPairs ?cPairs ?kPairs ?aPlanSwaps ?lPlanSwaps ?cPlanSwaps ?kPlanSwaps ?aFewest ?lFewest ?cFewest ?kFewest ?aCheckArr ?lCheckArr ?cCheckArr ?kCheckArr ?aSwapsBetween ?lSwapsBetween ?cSwapsBetween ?kSwapsBetween ?aExchange ?lExchange ?cExchange ?kExchange ?aLMix ?lLMix ?cLMix ?kLMix ?aLNext ?lLNext ?cLNext ?kLNext ?aLPlan ?lLPlan ?cLPlan ?kLPlan ?aLState ?lLState ?cLState ?kLState ?aLTurned ?lLTurned ?cLTurned ?kLTurned ?aLRenamed ?lLRenamed ?cLRenamed ?kLRenamed ?aLLawMoved ?lLLawMoved ?cLLawMoved ?kLLawMoved ?aLLawMore ?lLLawMore ?cLLawMore ?kLLawMore ?aLMoreRight ?lLMoreRight ?cLMoreRight ?kLMoreRight ?aLaw ?lLaw ?cLaw ?kLaw ?n_isinstance ?n_bool ?n_int ?n_str ?n_list ?n_tuple ?n_dict ?n_len ?n_range ?n_enumerate ?n_max ?n_sum ?n_set ?n_zip ?n_divmod ?n_sorted ?n_abs ?n_min ?n_super ?n_lcm ?m1 ?m2 ?m3 ?m4 ?mst ?lastP ?e0 ?e1 ?e2 ?e4 ?e5 ?e11 ?xk0 ?xb0 ?xt0 ?yg0 ?yk0 ?yd0 ?x1 ?xk1 ?xb1 ?xt1 ?x2 ?xk2 ?xb2 ?xt2 ?x4 ?xk4 ?xb4 ?xt4 ?x5 ?xk5 ?xb5 ?xt5 ?x11 ?xk11 ?xb11 ?xt11 ?qC ?q1 ?q2 ?q3 ?q4 ?q5 ?q6 ?q7 ?q8 ?q9 ?q10 ?q11 ?q12 ?q13 ?q14 ?q15 ?pC ?pR ?pSa ?pN1 ?pN2 ?iC ?tI ?lI ?pCell ?pCode ?pKo ?pKf ?pKm ?pTop ?pHs ?pHo ?pHB ?pHm
    (case aWithin => k_is)
    (case lWithin => k_is)
    (case cWithin => k_is)
    (case kWithin => k_is)
    (case aCheckCount => k_is)
    (case lCheckCount => k_is)
    (case cCheckCount => k_is)
    (case kCheckCount => k_is)
    (case aCheckTicks => k_is)
    (case lCheckTicks => k_is)
    (case cCheckTicks => k_is)
    (case kCheckTicks => k_is)
    (case aCheckBetween => k_is)
    (case lCheckBetween => k_is)
    (case cCheckBetween => k_is)
    (case kCheckBetween => k_is)
    (case aPattern => k_is)
    (case lPattern => k_is)
    (case cPattern => k_is)
    (case kPattern => k_is)
    (case aCheckPlan => k_is)
    (case lCheckPlan => k_is)
    (case cCheckPlan => k_is)
    (case kCheckPlan => k_is)
    (case aCheckSizes => k_is)
    (case lCheckSizes => k_is)
    (case cCheckSizes => k_is)
    (case kCheckSizes => k_is)
    (case aCheckRoutes => k_is)
    (case lCheckRoutes => k_is)
    (case cCheckRoutes => k_is)
    (case kCheckRoutes => k_is)
    (case aIsRoute => k_is)
    (case lIsRoute => k_is)
    (case cIsRoute => k_is)
    (case kIsRoute => k_is)
    (case aPlacesOf => k_is)
    (case lPlacesOf => k_is)
    (case cPlacesOf => k_is)
    (case kPlacesOf => k_is)
    (case aCheckShelf => k_is)
    (case lCheckShelf => k_is)
    (case cCheckShelf => k_is)
    (case kCheckShelf => k_is)
    (case aShelvesOf => k_is)
    (case lShelvesOf => k_is)
    (case cShelvesOf => k_is)
    (case kShelvesOf => k_is)
    (case aNumPlaces => k_is)
    (case lNumPlaces => k_is)
    (case cNumPlaces => k_is)
    (case kNumPlaces => k_is)
    (case aVisitsIn => k_is)
    (case lVisitsIn => k_is)
    (case cVisitsIn => k_is)
    (case kVisitsIn => k_is)
    (case aCommon => k_is)
    (case lCommon => k_is)
    (case cCommon => k_is)
    (case kCommon => k_is)
    (case aRoutePat => k_is)
    (case lRoutePat => k_is)
    (case cRoutePat => k_is)
    (case kRoutePat => k_is)
    (case aJoin => k_is)
    (case lJoin => k_is)
    (case cJoin => k_is)
    (case kJoin => k_is)
    (case aSplit => k_is)
    (case lSplit => k_is)
    (case cSplit => k_is)
    (case kSplit => k_is)
    (case aAfterTick => k_is)
    (case lAfterTick => k_is)
    (case cAfterTick => k_is)
    (case kAfterTick => k_is)
    (case aEffectTicks => k_is)
    (case lEffectTicks => k_is)
    (case cEffectTicks => k_is)
    (case kEffectTicks => k_is)
    (case aInverse => k_is)
    (case lInverse => k_is)
    (case cInverse => k_is)
    (case kInverse => k_is)
    (case aRepeated => k_is)
    (case lRepeated => k_is)
    (case cRepeated => k_is)
    (case kRepeated => k_is)
    (case aOrderOf => k_is)
    (case lOrderOf => k_is)
    (case cOrderOf => k_is)
    (case kOrderOf => k_is)
    (case aCyclesOf => k_is)
    (case lCyclesOf => k_is)
    (case cCyclesOf => k_is)
    (case kCyclesOf => k_is)
    (case aCycleFrom => k_is)
    (case lCycleFrom => k_is)
    (case cCycleFrom => k_is)
    (case kCycleFrom => k_is)
    (case aMoved => k_is)
    (case lMoved => k_is)
    (case cMoved => k_is)
    (case kMoved => k_is)
    (case aStateOf => k_is)
    (case lStateOf => k_is)
    (case cStateOf => k_is)
    (case kStateOf => k_is)
    (case aParcelsIn => k_is)
    (case lParcelsIn => k_is)
    (case cParcelsIn => k_is)
    (case kParcelsIn => k_is)
    (case aCheckState => k_is)
    (case lCheckState => k_is)
    (case cCheckState => k_is)
    (case kCheckState => k_is)
    (case aFits => k_is)
    (case lFits => k_is)
    (case cFits => k_is)
    (case kFits => k_is)
    (case aTupOf => k_is)
    (case lTupOf => k_is)
    (case cTupOf => k_is)
    (case kTupOf => k_is)
    (case aParcels => k_is)
    (case lParcels => k_is)
    (case cParcels => k_is)
    (case kParcels => k_is)
    (case aCheckParcel => k_is)
    (case lCheckParcel => k_is)
    (case cCheckParcel => k_is)
    (case kCheckParcel => k_is)
    (case aPlaceOfParcel => k_is)
    (case lPlaceOfParcel => k_is)
    (case cPlaceOfParcel => k_is)
    (case kPlaceOfParcel => k_is)
    (case aStartOf => k_is)
    (case lStartOf => k_is)
    (case cStartOf => k_is)
    (case kStartOf => k_is)
    (case aAdvance => k_is)
    (case lAdvance => k_is)
    (case cAdvance => k_is)
    (case kAdvance => k_is)
    (case aPeriod => k_is)
    (case lPeriod => k_is)
    (case cPeriod => k_is)
    (case kPeriod => k_is)
    (case aLeftsJ => k_is)
    (case lLeftsJ => k_is)
    (case cLeftsJ => k_is)
    (case kLeftsJ => k_is)
    (case aCountIn => k_is)
    (case lCountIn => k_is)
    (case cCountIn => k_is)
    (case kCountIn => k_is)
    (case aTimesLeft => k_is)
    (case lTimesLeft => k_is)
    (case cTimesLeft => k_is)
    (case kTimesLeft => k_is)
    (case aStamps => k_is)
    (case lStamps => k_is)
    (case cStamps => k_is)
    (case kStamps => k_is)
    (case aStampsJ => k_is)
    (case lStampsJ => k_is)
    (case cStampsJ => k_is)
    (case kStampsJ => k_is)
    (case aFamilies => k_is)
    (case lFamilies => k_is)
    (case cFamilies => k_is)
    (case kFamilies => k_is)
    (case aFirstMeeting => k_is)
    (case lFirstMeeting => k_is)
    (case cFirstMeeting => k_is)
    (case kFirstMeeting => k_is)
    (case aMarks => k_is)
    (case lMarks => k_is)
    (case cMarks => k_is)
    (case kMarks => k_is)
    (case aShelvesLap => k_is)
    (case lShelvesLap => k_is)
    (case cShelvesLap => k_is)
    (case kShelvesLap => k_is)
    (case aMarksLap => k_is)
    (case lMarksLap => k_is)
    (case cMarksLap => k_is)
    (case kMarksLap => k_is)
    (case aPairs => k_is)
    (case lPairs => k_is)
    (case cPairs => k_is)
    (case kPairs => k_is)
    (case aPlanSwaps => k_is)
    (case lPlanSwaps => k_is)
    (case cPlanSwaps => k_is)
    (case kPlanSwaps => k_is)
    (case aFewest => k_is)
    (case lFewest => k_is)
    (case cFewest => k_is)
    (case kFewest => k_is)
    (case aCheckArr => k_is)
    (case lCheckArr => k_is)
    (case cCheckArr => k_is)
    (case kCheckArr => k_is)
    (case aSwapsBetween => k_is)
    (case lSwapsBetween => k_is)
    (case cSwapsBetween => k_is)
    (case kSwapsBetween => k_is)
    (case aExchange => k_is)
    (case lExchange => k_is)
    (case cExchange => k_is)
    (case kExchange => k_is)
    (case aLMix => k_is)
    (case lLMix => k_is)
    (case cLMix => k_is)
    (case kLMix => k_is)
    (case aLNext => k_is)
    (case lLNext => k_is)
    (case cLNext => k_is)
    (case kLNext => k_is)
    (case aLPlan => k_is)
    (case lLPlan => k_is)
    (case cLPlan => k_is)
    (case kLPlan => k_is)
    (case aLState => k_is)
    (case lLState => k_is)
    (case cLState => k_is)
    (case kLState => k_is)
    (case aLTurned => k_is)
    (case lLTurned => k_is)
    (case cLTurned => k_is)
    (case kLTurned => k_is)
    (case aLRenamed => k_is)
    (case lLRenamed => k_is)
    (case cLRenamed => k_is)
    (case kLRenamed => k_is)
    (case aLLawMoved => k_is)
    (case lLLawMoved => k_is)
    (case cLLawMoved => k_is)
    (case kLLawMoved => k_is)
    (case aLLawMore => k_is)
    (case lLLawMore => k_is)
    (case cLLawMore => k_is)
    (case kLLawMore => k_is)
    (case aLMoreRight => k_is)
    (case lLMoreRight => k_is)
    (case cLMoreRight => k_is)
    (case kLMoreRight => k_is)
    (case aLaw => k_is)
    (case lLaw => k_is)
    (case cLaw => k_is)
    (case kLaw => k_is)
    (case n_isinstance => k_is)
    (case n_bool => k_is)
    (case n_int => k_is)
    (case n_str => k_is)
    (case n_list => k_is)
    (case n_tuple => k_is)
    (case n_dict => k_is)
    (case n_len => k_is)
    (case n_range => k_is)
    (case n_enumerate => k_is)
    (case n_max => k_is)
    (case n_sum => k_is)
    (case n_set => k_is)
    (case n_zip => k_is)
    (case n_divmod => k_is)
    (case n_sorted => k_is)
    (case n_abs => k_is)
    (case n_min => k_is)
    (case n_super => k_is)
    (case n_lcm => k_is)
    (case m1 => k_is)
    (case m2 => k_is)
    (case m3 => k_is)
    (case m4 => k_is)
    (case mst => k_is)
    (case lastP => k_is)
    (case e0 => k_is)
    (case e1 => k_is)
    (case e2 => k_is)
    (case e4 => k_is)
    (case e5 => k_is)
    (case e11 => k_is)
    (case xk0 => k_is)
    (case xb0 => k_is)
    (case xt0 => k_is)
    (case yg0 => k_is)
    (case yk0 => k_is)
    (case yd0 => k_is)
    (case x1 => first | k_exc | k_is)
    (case xk1 => k_is)
    (case xb1 => k_is)
    (case xt1 => k_is)
    (case x2 => first | k_exc | k_is)
    (case xk2 => k_is)
    (case xb2 => k_is)
    (case xt2 => k_is)
    (case x4 => first | k_exc | k_is)
    (case xk4 => k_is)
    (case xb4 => k_is)
    (case xt4 => k_is)
    (case x5 => first | k_exc | k_is)
    (case xk5 => k_is)
    (case xb5 => k_is)
    (case xt5 => k_is)
    (case x11 => first | k_exc | k_is)
    (case xk11 => k_is)
    (case xb11 => k_is)
    (case xt11 => k_is)
    (case qC => k_is)
    (case q1 => k_is)
    (case q2 => k_is)
    (case q3 => k_is)
    (case q4 => k_is)
    (case q5 => k_is)
    (case q6 => k_is)
    (case q7 => k_is)
    (case q8 => k_is)
    (case q9 => k_is)
    (case q10 => k_is)
    (case q11 => k_is)
    (case q12 => k_is)
    (case q13 => k_is)
    (case q14 => k_is)
    (case q15 => k_is)
    (case pC => k_is)
    (case pR => decide +kernel)
    (case pSa => k_is)
    (case pN1 => k_is)
    (case pN2 => k_is)
    (case iC => k_is)
    (case tI => k_is)
    (case lI => k_is)
    (case pCell => k_is)
    (case pCode => k_is)
    (case pKo => k_is)
    (case pKf => rfl)
    (case pKm => first | rfl | decide +kernel)
    (case pTop => first | rfl | decide +kernel)
    (case pHs => kernel_rfl)
    (case pHo => first | k_is | kernel_rfl)
    (case pHB => k_is)
    (case pHm => first | k_is | kernel_rfl)
