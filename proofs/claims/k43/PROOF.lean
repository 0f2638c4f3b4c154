import PyProof.Rows.All
import Wide.All
import OpenK.AllK
import Wide.FinOn
import KE.KStateDown
import HandS.ForMost
import HandS.More
import HandS.Star
import HandS.Property
import HandS.ClsMeth
import HandS.Defaults
import HandS.Head0
import HandS.Head1
import HandS.Head2
import HandS.HeadEnd
import HandS.HeadHook1
import HandS.HeadHook2
import HandS.HeadNt
import HandS.OwnEq
import HandS.IsInst
import KE.GoesEnum
import KE.KOpsOwn
import HandS.Text
import HandS.Iter
import HandS.Comp
import HandS.Conv
import HandS.Wide
import HandS.TupAny
import KE.KDictZip
import HandS.Walk
import PyProof.ListStr
import HandS.Codes
import HandS.SlotsOwn
import PyProof.InstNe
import HandS.NamedTup0
import HandS.Style
import HandS.Dict
import HandS.WideBits
import HandS.Lambda
import HandS.SortInts
import HandS.DictComp
import KE.GoesZip
import HandS.Zip
import HandS.GenList
import HandS.WordsExc
import HandS.TryOnly
import HandS.Strs
import KE.KAssignIn
import OpenK.KOps
import HandS.SetFor
import HandS.SetKeys
import HandS.SortRule
import KE.KMinKey
import HandS.EndTab
import HandS.HeadHook3
import HandS.MethStar
import PyProof.StrLawsIn
import HandS.Small
import HandS.ExcIs
import HandS.ExcOwn
import PySem.Challenge.RW_pastekeys_k43_undo_and_redo
set_option Elab.async false
set_option linter.all false
set_option maxRecDepth 100000
set_option maxHeartbeats 0
namespace Pk
open PySem PySem.W PySem.Calls PyProof.Rows He He5
/-! ### a hook: facts, defs, one more Bool -/
abbrev AlM : Type := He.AlD × Bool
def obsM (fa : List Fa) (fn : List DefA) (ex : Frag → Bool) (K : Frag) : AlM := (obsA fa fn K, ex K)
def valM (fn : List DefA) : AlM := (valA fn, true)
structure SaysM (fa : List Fa) (fn : List DefA) (ex : Frag → Bool) (K : Frag) : Prop where
  says : SaysA fa fn K
  more : ex K = true
theorem saysM_of {fa : List Fa} {fn : List DefA} {ex : Frag → Bool} {K : Frag} (h : obsM fa fn ex K = valM fn) : SaysM fa fn ex K := by
  have h1 : obsA fa fn K = valA fn := congrArg Prod.fst h
  have h2 : ex K = true := congrArg Prod.snd h
  exact { says := h1, more := h2 }
def obsMG (n : Nat) (fa : List Fa) (fn : List DefA) (ex : Frag → Bool) (g : Addr → Option Obj) : AlM := obsM fa fn ex (frG g (asA g n))
def hookM (n : Nat) (fa : List Fa) (fn : List DefA) (ex : Frag → Bool) : PySem.W.Hook where
  α := AlM
  obs := fun s => obsMG n fa fn ex s.heap.get?
  val := fun _ => valM fn
  says := fun _ h => ∃ K : Frag, K.In h ∧ SaysM fa fn ex K
  of := fun _ _ e => ⟨_, frG_in, saysM_of e⟩
  keeps := fun _ _ _ ⟨K, hK, c⟩ k => ⟨K, Frag.In.keeps hK k, c⟩
theorem obsMG_eq {n : Nat} {fa : List Fa} {fn : List DefA} {ex : Frag → Bool} {g : Addr → Option Obj} {s : Shared} (h : ∀ a, g a = s.heap.get? a) : obsMG n fa fn ex g = (hookM n fa fn ex).obs s := by
  have e : g = s.heap.get? := funext h
  rw [e] <;> rfl
end Pk
namespace Pk
open PySem PySem.W PySem.Calls PyProof.Rows He He5
/-! ### more facts of a class -/
def pgA (K : Frag) (C : Addr) (f : PySem.Str) : Addr := match recIn K (ma K C f) "property" with
  | some (.ref g :: _) => g
  | _ => 0
def propB (K : Frag) (C : Addr) (f : PySem.Str) : Bool := eqO (findIn K (.ref C) f) (some (some (.ref (ma K C f)))) && (eqO (specialIn K (.ref (ma K C f)) "__get__") (some (some (.builtin "property.__get__"))) && (decide (takesIn K (.ref (ma K C f)) = some true) &&
  (match recIn K (ma K C f) "property" with
    | some (.ref _ :: _) => true
    | _ => false)))
theorem prop_ok {K : Frag} {C : Addr} {f : PySem.Str} (h : propB K C f = true) : L2.PropOf K C f (ma K C f) (pgA K C f) := by
  obtain ⟨h1, h⟩ := ba h
  obtain ⟨h2, h⟩ := ba h
  obtain ⟨h3, h4⟩ := ba h
  refine ⟨eqO_ok h1, eqO_ok h2, of_decide_eq_true h3, ?_⟩
  unfold pgA
  split at h4
  · rename_i f' r e
    exact ⟨r, by rw [e]⟩
  · cases h4
def creadB (K : Frag) (C : Addr) : Bool := readsIn K C (.type "type") && eqO (specialIn K (.ref C) "__getattribute__") (some (some (.builtin "type.__getattribute__")))
theorem cread_ok {K : Frag} {C : Addr} (h : creadB K C = true) : ClX.CRead K C (.type "type") := by
  obtain ⟨h1, h2⟩ := ba h
  exact ⟨h1, eqO_ok h2⟩
def cmetB (K : Frag) (C : Addr) (m : PySem.Str) : Bool := wrapB K C "classmethod" "classmethod.__get__" m && fnIn K (wf K C "classmethod" m)
theorem cmet_ok {K : Frag} {C : Addr} {m : PySem.Str} (h : cmetB K C m = true) : ClX.CMet K C (.type "type") m (ma K C m) (wf K C "classmethod" m) := by
  obtain ⟨h1, h2⟩ := ba h
  exact cmet_of h1 h2
def cvalB (K : Frag) (C : Addr) (f : PySem.Str) (i : Int) : Bool := match findCls K (.ref C) (.type "type") f with
  | some (.val (.int j _)) => decide (j = i)
  | _ => false
theorem cval_ok {K : Frag} {C : Addr} {f : PySem.Str} {i : Int} (h : cvalB K C f i = true) : ∃ t, ClX.CVal K C (.type "type") f (.int i) (.int i t) := by
  unfold cvalB at h
  split at h
  · rename_i j t e
    have ej : j = i := of_decide_eq_true h
    subst ej
    exact ⟨t, e, ⟨t, rfl⟩⟩
  · cases h
/-- a def of the class at an address: found, a function -/
def opB (K : Frag) (C : Addr) (m : PySem.Str) : Bool := eqO (findIn K (.ref C) m) (some (some (.ref (ma K C m)))) && (isFn K (.ref (ma K C m)) && fnIn K (ma K C m))
structure OpF (K : Frag) (C : Addr) (m : PySem.Str) (f : Addr) : Prop where
  at_ : findIn K (.ref C) m = some (some (.ref f))
  fn : isFn K (.ref f) = true
  fi : fnIn K f = true
theorem op_ok {K : Frag} {C : Addr} {m : PySem.Str} (h : opB K C m = true) : OpF K C m (ma K C m) := by
  obtain ⟨h1, h⟩ := ba h
  obtain ⟨h2, h3⟩ := ba h
  exact ⟨eqO_ok h1, h2, h3⟩
/-- an operator with a built-in number at the right -/
def opTB (K : Frag) (C : Addr) (nm : String) (T : String) : Bool := selfFirst K C && (eqO (findIn K (.ref C) (dunderR nm)) (some none) && ((findIn K (.type T) (PySem.dunder nm)).isSome && ((findIn K (.type T) (dunderR nm)).isSome && decide (subIn K (.type T) (.ref C) = some false))))
structure OpT (K : Frag) (C : Addr) (nm : String) (T : String) : Prop where
  first : selfFirst K C = true
  noR : findIn K (.ref C) (dunderR nm) = some none
  l : ∃ fo, findIn K (.type T) (PySem.dunder nm) = some fo
  r : ∃ fo, findIn K (.type T) (dunderR nm) = some fo
  sub : subIn K (.type T) (.ref C) = some false
theorem opT_ok {K : Frag} {C : Addr} {nm T : String} (h : opTB K C nm T = true) : OpT K C nm T := by
  obtain ⟨h1, h⟩ := ba h
  obtain ⟨h2, h⟩ := ba h
  obtain ⟨h3, h⟩ := ba h
  obtain ⟨h4, h5⟩ := ba h
  exact ⟨h1, eqO_ok h2, Option.isSome_iff_exists.mp h3, Option.isSome_iff_exists.mp h4, of_decide_eq_true h5⟩
end Pk
/-! ## Rules that the layer lacks: operators of an own class, C(*x), cls(*x), enumerate over a tuple -/
namespace Pk
open PySem PySem.Spec PyProof.Rows L2
theorem no_tup_iter {h : Heap} {a it : Addr} {its : Array Value} {i : Nat} (p : h.IsTuple a its) (q : h.IsTupleIter it a i) : a ≠ it := fun e => by
  obtain ⟨o1, e1, c1, _⟩ := p
  obtain ⟨o2, e2, c2, _⟩ := q
  rw [e, e2] at e1
  cases e1
  rw [c2] at c1
  exact absurd c1 (by decide)
/-! ### enumerate(v) begins -/
theorem enum_new_meets {v : Value} {ob : Obj} {P : Heap → Prop} (B : Begins v ob P) :
    Meets (Builtin.«enumerate.__new__» ⟨[.type "enumerate", v], []⟩) (fun _ R s => P s.heap ∧
      R (.ok (.ret (.ref (s.heap.push ob).objs.size))) { s with heap := (s.heap.push ob).push { cls := .type "enumerate", data := .fields #[.none, .bool false, .ref s.heap.objs.size, rawInt 0, .none, .none] } }) :=
  .of_wp fun prog w A R s hh => by
    obtain ⟨hp, g, d, tk, os⟩ := s
    obtain ⟨hP, hR⟩ := hh
    have subE := sub_enumerate
    have mk : ∀ {A' : Around} {E : Value → Shared → Prop} {Q : Value → Shared → Prop}, Q (.ref hp.objs.size) ⟨hp.push ob, g, d, tk, os⟩ → wpAny (model prog w) A' (pyIter v) Q E ⟨hp, g, d, tk, os⟩ := fun q => B.iter prog w _ _ ⟨hp, g, d, tk, os⟩ _ hP q
    wp_walk using mk
    refine wpAny_stack_any fun stk => wpAny_pure ?_
    split
    · rename_i cc _ _ _ _ _
      cases (cc == Value.type "enumerate") <;> (wp_walk using mk; exact ⟨_, rfl, hR⟩)
    · wp_walk using mk
      exact ⟨_, rfl, hR⟩
theorem enum_new {prog : Program} {w : World} {A : Around} {E : Value → Shared → Prop} {s : Shared} {v : Value} {ob : Obj} {P : Heap → Prop} {Q : Value → Shared → Prop} (B : Begins v ob P) (hP : P s.heap)
    (hQ : ∀ h2, IsEnum h2 (s.heap.objs.size + 1) s.heap.objs.size 0 .none → h2.get? s.heap.objs.size = some ob → (∀ b o, s.heap.get? b = some o → h2.get? b = some o) → Q (.ref (s.heap.objs.size + 1)) { s with heap := h2 }) :
    wpAny (model prog w) A (call (.type "enumerate") [v]) Q E s := by
  refine callType_new F.called_enumerate (by decide) (F.typeCall_enumerate_1 _) (F.newCall_enumerate_1 _) (fun obj => F.args_object_init_2 obj _) F.entry_enumerate_new (enum_new_meets B) ⟨hP, ?_⟩
  have sz : (s.heap.push ob).objs.size = s.heap.objs.size + 1 := Heap.size_push ..
  have at_ := Heap.get?_push_size (s.heap.push ob) (o := { cls := .type "enumerate", data := .fields #[.none, .bool false, .ref s.heap.objs.size, rawInt 0, .none, .none] }) rfl
  rw [sz] at at_
  show _ ∧ _
  rw [sz]
  exact ⟨⟨_, at_, rfl⟩, hQ _ at_ (Heap.get?_push_of_some _ (Heap.get?_push_size _ B.free)) fun b o y => Heap.get?_push_of_some _ (Heap.get?_push_of_some _ y)⟩
/-! ### for i, x in enumerate(tuple) -/
def IteT (K : PySem.W.Frag) (a : Addr) : It :=
  ⟨fun i H => ∃ (xs : List V) (x : V), SqT K H a xs ∧ xs[i]? = some x, fun i H v H2 => ∃ T x, v = .ref T ∧ H T = none ∧ H2 = upd H T (.tup [.int (i : Nat), x]) ∧ ∀ xs, SqT K H a xs → xs[i]? = some x, fun i H => ∃ xs : List V, SqT K H a xs ∧ xs.length ≤ i⟩
theorem turn_enumT {P : Program} {w : World} {K : PySem.W.Frag} {elts : List Expr} {kk : Nat} {tpos : Pos} (a e it : Addr) :
    Turn P w K (.Tuple elts kk tpos) (IteT K a) [e, it] e (fun i h => (∃ old, IsEnum h e it ((i : Nat) : Int) old) ∧ h.IsTupleIter it a i ∧ e ≠ it ∧ e ≠ a) where
  mem := List.mem_cons_self
  obj := fun i h st b hb => by
    obtain ⟨⟨old, h1⟩, hit, _⟩ := st
    obtain ⟨o, ho, hc, hd⟩ := hit
    have hb2 : b = e ∨ b = it := by simpa using hb
    rcases hb2 with z | z
    · exact ⟨_, by rw [z]; exact h1, fun v q => by cases q⟩
    · exact ⟨o, by rw [z]; exact ho, fun v q => by rw [hd] at q; cases q⟩
  keep := fun i h h2 st k => let ⟨⟨old, h1⟩, hi, n1, n2⟩ := st; ⟨⟨old, k e List.mem_cons_self _ h1⟩, hi.at fun o q => k it (by simp) o q, n1, n2⟩
  item := by
    intro X hP hw hK hc i pins s σ H E I hf st hg
    subst hP hw hK
    obtain ⟨⟨old, hen⟩, hit, n1, n2⟩ := st
    obtain ⟨xs, x, hq, hx⟩ := hg
    obtain ⟨its, rv, p, hz⟩ := I.tuple hq
    obtain ⟨u, hu, ru⟩ := rv.get hx
    have pT : s.heap.IsTuple a its.toArray := p
    have nai := no_tup_iter pT hit
    have le_ : e < s.heap.objs.size := Heap.lt_size hen
    have li_ : it < s.heap.objs.size := by
      obtain ⟨_, q, _⟩ := id hit
      exact Heap.lt_size q
    have hcalm : X.A.in1.handled = none := I.ok.hd hc
    have hsz : i < its.toArray.size := by
      have q := (List.getElem?_eq_some_iff.mp hu).1
      simpa using q
    refine wpAny_pyNext_enum_itemC (Draws.tuple (prog := X.prog) (w := X.w) hcalm it a nai its.toArray) hen ⟨hit, pT⟩ hsz n1 (by simp [n1, n2]) fun y h1 tk hy ho1 st1 hT _ hk => ?_
    have ey : y = u := by
      have q : its.toArray[i]? = some u := by simpa using hu
      rw [q] at hy
      exact (Option.some.inj hy).symm
    subst ey
    refine ⟨_, rfl, wpAny_letOwnedTupleGo_enum (s := { s with heap := h1, toks := tk + 1 }) ho1 fun h2 hen2 sb => ?_⟩
    have hT2 := (sb.2 _ (Nat.ne_of_gt le_)).trans hT
    have new : ObjOk X.prog X.w (upd H s.heap.objs.size (.tup [.int (i : Nat), x])) h2 s.heap.objs.size (.tup [.int (i : Nat), x]) :=
      ⟨(by decide : 2 ≤ sizeLine), [.int (i : Nat) tk, y], .cons ⟨_, rfl⟩ (.cons ru .nil), ⟨_, hT2, rfl, _, rfl⟩⟩
    have I2 : Inv X pins σ (upd H s.heap.objs.size (.tup [.int (i : Nat), x])) { s with heap := h2, toks := tk + 1 } :=
      I.turnedNew (ch := [e, it]) (fun b ob hb q => (sb.2 b (fun z => hb (by simp [z]))).trans (hk b ob (fun z => hb (by simp [z])) (fun z => hb (by simp [z])) q)) hf (Nat.le_refl _) new
    refine ⟨.ref s.heap.objs.size, _, I2, rfl, ⟨_, x, rfl, I.hok.fresh (Nat.le_refl _), rfl, fun ys hy2 => by rw [I.tuple_inj hy2 hq]; exact hx⟩, ⟨⟨y, ?_⟩, st1.1.at fun o q => (sb.2 it n1.symm).trans q, n1, n2⟩, fun b hb => ?_⟩
    · rw [Int.natCast_succ]
      exact hen2
    · have hb2 : b < s.heap.objs.size := by
        have q : b = e ∨ b = it := by simpa using hb
        rcases q with z | z <;> rw [z] <;> assumption
      rw [upd_ne (Nat.ne_of_lt hb2)]
      exact (hf b hb).1
  done := by
    intro X hP hw hK hc i pins s σ H E I hf st hg
    subst hP hw hK
    obtain ⟨⟨old, hen⟩, hit, n1, n2⟩ := st
    obtain ⟨xs, hq, hx⟩ := hg
    obtain ⟨its, rv, p, hz⟩ := I.tuple hq
    obtain ⟨f0, f1, f2, f3, f4, f5⟩ := hf it (by simp)
    have pT : s.heap.IsTuple a its.toArray := p
    have nai := no_tup_iter pT hit
    have hcalm : X.A.in1.handled = none := I.ok.hd hc
    have hl := rv.length
    have D0 := Draws.tuple (prog := X.prog) (w := X.w) hcalm it a nai its.toArray
    refine wpAny_pyNext_enum_endD (n := i) (i := (i : Int)) (St := fun j h => j = i ∧ h.IsTupleIter it a i ∧ h.IsTuple a its.toArray) (P := fun _ _ => True) (fp := [it, a]) ⟨?_, ?_, ?_, ?_⟩ hen ⟨rfl, hit, pT⟩ fun h1 eb => ⟨rfl, I.turned (t' := s.toks) (fun b o hb q => eb b o hb q) f0 f1 f3 f4 f5⟩
    · exact fun j h z => let ⟨o, ho, _⟩ := z.2.1; ⟨o, ho⟩
    · exact fun j h h2 z k => ⟨z.1, D0.frame i h h2 z.2 k⟩
    · intro j s2 Q2 E2 hj st2 hQ2
      exact absurd st2.1 (Nat.ne_of_lt hj)
    · intro s2 Q2 E2 st2 hE2
      exact wpAny_nextOf_tuple_end hcalm st2.2.1 st2.2.2 (by simp; omega) hE2
  self := fun A i s Q E st h => let ⟨⟨_, hen⟩, _⟩ := st; wpAny_pyIter_enum hen h
def iEnumT (K : PySem.W.Frag) (ta : TA) : TI := fun σ H R => ta σ H fun vs H1 => ∃ a xs, vs = [.ref a] ∧ SqT K H1 a xs ∧ R (IteT K a) H1
theorem pi_enumT {X : Cx} {e : Expr} {ta : TA} {p pos tpos : Pos} {elts : List Expr} {kk : Nat} (hg : Gl X "enumerate") (hm : X.mg "enumerate" = none) (ha : PA X [e] ta) (hs : starEach [e] X.env = [(false, eval e X.env)] := by rfl) :
    PI X (.Tuple elts kk tpos) (.Call (.Name "enumerate" p) [e] [] pos) (iEnumT X.K ta) := ⟨fun pins s σ H R I h => by
  refine Call_ (ld_blt I hg hm boot_enumerate (PyProof.Rows.callWith_type1 (thn (ha.run pos pins s σ H _ I h) fun us s1 ⟨vs, H1, I1, r1, a, xs, ev, hq, q⟩ => ?_) hs rfl))
  subst ev
  cases r1 with
  | cons r rr =>
    cases rr
    cases r
    obtain ⟨its, rv, pt, hz⟩ := I1.tuple hq
    have pT : s1.heap.IsTuple a its.toArray := pt
    refine enum_new (begins_tuple a its.toArray) pT fun h2 hen hit hk => wpAny_pyIter_enum hen ?_
    have I2 : Inv X pins σ H1 { s1 with heap := h2 } := I1.kept (t' := s1.toks) hk
    obtain ⟨o, ho, _⟩ := id pT
    have hlt := Heap.lt_size ho
    refine ⟨s1.heap.objs.size + 1, [s1.heap.objs.size + 1, s1.heap.objs.size], _, _, H1, rfl, I2, turn_enumT a (s1.heap.objs.size + 1) s1.heap.objs.size, ⟨⟨.none, hen⟩, ⟨_, hit, rfl, rfl⟩, Nat.succ_ne_self _, fun z => absurd (show s1.heap.objs.size + 1 < s1.heap.objs.size by rw [z]; exact hlt) (Nat.not_lt.mpr (Nat.le_succ _))⟩, fun b hb => ?_, q⟩
    have hb2 : b = s1.heap.objs.size + 1 ∨ b = s1.heap.objs.size := by simpa using hb
    have hle : s1.heap.objs.size ≤ b := by
      rcases hb2 with z | z
      · rw [z]; exact Nat.le_succ _
      · rw [z]; exact Nat.le_refl _
    exact I1.fpOk hle (I1.hok.fresh hle)⟩
/-! ### operators of an own class -/
theorem cmp_back {X : Cx} {pins : List (Addr × Obj)} {σ : L2.St} {Q : VK} {u : Value} {s : Shared} (h : EP X pins σ Q u s) : PySem.W.CmpBack (EP X pins σ Q) u s := by
  have h0 := h
  obtain ⟨v, H, I, r, q⟩ := h
  cases u with
  | notImplemented => cases v <;> first | (cases r; done) | (obtain ⟨_, z⟩ := r; cases z)
  | _ => exact h0
section
variable {X : Cx} {CX : CXT} {k : Nat} {C f : Addr} {sp : Sp} {E : XK}
/-- a op b: both of the class -/
def rOwn (C : Addr) (sp : Sp) (E : XK) : R2 := fun x y H Q => ∃ a b da fa db fb, x = .ref a ∧ y = .ref b ∧ H a = some (.ins C da fa) ∧ H b = some (.ins C db fb) ∧ sp [x, y] H Q E
theorem op_own {op : Operator} (hs : OpF X.K C (PySem.dunder op.info.2) f) (hc : PySem.W.selfFirst X.K C = true) (F : FnR X.prog X.w X.K X.mg X.base CX k f sp) (hr : Room k X.A) (hx : Passes CX X E) : OpR X (binaryOp op) (rOwn C sp E) := by
  intro pins s σ H x y v u Q I rx ry ⟨a, b, da, fa, db, fb, ex, ey, ha, hb, q⟩
  subst ex ey
  cases rx
  cases ry
  obtain ⟨mA, O, _⟩ := ins_get I.hok ha
  obtain ⟨oa, JA, _⟩ := O.look
  obtain ⟨mB, O2, _⟩ := ins_get I.hok hb
  obtain ⟨ob, JB, _⟩ := O2.look
  obtain ⟨m, hF⟩ := I.fr
  refine PySem.W.binop_K hF I.ok.mod.kin JA JB.type hc hs.at_ hs.fn (wpAny_call ?_)
  refine codeAny_mono (run_fnR F hr hx I (vs := [V.ref a, V.ref b]) (.cons rfl (.cons rfl .nil)) q) fun r s2 hq => ?_
  cases r with
  | error e => exact hq
  | ok fl => cases fl with
    | ret w => exact cmp_back hq
    | _ => exact hq.elim
/-- a op n: n an int -/
def rOwnI (C : Addr) (sp : Sp) (E : XK) : R2 := fun x y H Q => ∃ a n da fa, x = .ref a ∧ y = .int n ∧ H a = some (.ins C da fa) ∧ sp [x, y] H Q E
theorem op_ownI {op : Operator} (hs : OpF X.K C (PySem.dunder op.info.2) f) (ht : OpT X.K C op.info.2 "int") (F : FnR X.prog X.w X.K X.mg X.base CX k f sp) (hr : Room k X.A) (hx : Passes CX X E) : OpR X (binaryOp op) (rOwnI C sp E) := by
  intro pins s σ H x y v u Q I rx ry ⟨a, n, da, fa, ex, ey, ha, q⟩
  subst ex ey
  cases rx
  obtain ⟨t, et⟩ := ry
  subst et
  obtain ⟨mA, O, _⟩ := ins_get I.hok ha
  obtain ⟨oa, JA, _⟩ := O.look
  obtain ⟨m, hF⟩ := I.fr
  obtain ⟨fo, h1⟩ := ht.l
  obtain ⟨ro, h2⟩ := ht.r
  refine PySem.W.ksp_binT (T := "int") hF I.ok.mod.kin JA rfl ht.first hs.at_ hs.fn ht.noR (.inl rfl) h1 h2 ht.sub (wpAny_call ?_)
  refine codeAny_mono (run_fnR F hr hx I (vs := [V.ref a, V.int n]) (.cons rfl (.cons ⟨t, rfl⟩ .nil)) q) fun r s2 hq => ?_
  cases r with
  | error e => exact hq
  | ok fl => cases fl with
    | ret w => exact cmp_back hq
    | _ => exact hq.elim
/-- a[i]: __getitem__ of an own class -/
def rGetO (C : Addr) (sp : Sp) (E : XK) : R2 := fun x y H Q => ∃ a da fa, x = .ref a ∧ H a = some (.ins C da fa) ∧ sp [x, y] H Q E
/-- x in a: __contains__ -/
def rInO (C : Addr) (sp : Sp) (E : XK) : R2 := fun x y H Q => ∃ a da fa, y = .ref a ∧ H a = some (.ins C da fa) ∧ sp [y, x] H (fun v H2 => ∃ b, v = .bl b ∧ Q v H2) E
/-! ### C(*x) -/
def tMakeS (K : PySem.W.Frag) (C : Addr) (sp : Sp) (E : XK) (te : TE) : TE := fun σ H Q => te σ H fun y H1 => ∃ a xs, y = V.ref a ∧ (SqT K H1 a xs ∨ SqL K H1 a xs) ∧ ∀ x dx, H1 x = none → H1 dx = none → dx ≠ x →
  sp (V.ref x :: xs) (upd (upd H1 dx (.own x)) x (.ins C dx [])) (fun v H2 => v = .non ∧ Q (.ref x) H2) E
variable {x : Str} {e : Expr} {te : TE} {p pos sp_ : Pos} {i : Nat}
theorem pe_makeS (M : Mk X.K C f) (F : FnR X.prog X.w X.K X.mg X.base CX k f sp) (hr : Room (k + 1) X.A) (hg : Gl X x) (hm : X.mg x = some (.ref C)) (hx : Passes CX X E) (he : PE X e te) (hd : (x == ("__debug__" : Str)) = false := by decide)
    (hst : starEach [.Starred e sp_] X.env = [(true, eval e X.env)] := by rfl) : PE X (.Call (.Name x p) [.Starred e sp_] [] pos) (tMakeS X.K C sp E te) := ⟨fun pins s σ H Q I h => by
  refine wpAny_Call_Name_kw (ld_glob I hg hm ?_ hd)
  refine PySem.W.callWith_S (h₀ := X.base) I.ok.mod.kin M.kp (thn (he.run pins s σ H _ I h) fun v s1 ⟨y, H1, I1, ry, a, xs, ey, hxs, q⟩ => ?_) hst
  subst ey
  cases ry
  exact StX.star_any I1 hxs fun us s2 I2 rv => ⟨I2.kIn, StX.run_makeR M F hr hx I2 rv q⟩⟩
/-- cls(*x): the class stands in a local -/
theorem pe_makeSL (M : Mk X.K C f) (F : FnR X.prog X.w X.K X.mg X.base CX k f sp) (hr : Room (k + 1) X.A) (hN : X.N[i]? = some x) (hv : Vis X.env.scope x) (hx : Passes CX X E) (he : PE X e te) (hd : (x == ("__debug__" : Str)) = false := by decide) (hcd : (x == ("__classdict__" : Str)) = false := by decide)
    (hst : starEach [.Starred e sp_] X.env = [(true, eval e X.env)] := by rfl) : PE X (.Call (.Name x p) [.Starred e sp_] [] pos) (fun σ H Q => σ[i]? = some (some (.ref C)) ∧ tMakeS X.K C sp E te σ H Q) := ⟨fun pins s σ H Q I h => by
  obtain ⟨hs, h⟩ := h
  refine wpAny_Call_Name_kw (thn ((pe_var (pos := p) hN hv hd hcd).run pins s σ H (fun v H1 => v = .ref C ∧ H1 = H) I ⟨.ref C, hs, rfl, rfl⟩) fun uu s0 ⟨v0, H0, I0, r0, e0, e1⟩ => ?_)
  subst e0 e1
  cases r0
  refine PySem.W.callWith_S (h₀ := X.base) I0.ok.mod.kin M.kp (thn (he.run pins s0 σ _ _ I0 h) fun v s1 ⟨y, H1, I1, ry, a, xs, ey, hxs, q⟩ => ?_) hst
  subst ey
  cases ry
  exact StX.star_any I1 hxs fun us s2 I2 rv => ⟨I2.kIn, StX.run_makeR M F hr hx I2 rv q⟩⟩
end
end Pk
/-! ## Promises without exceptions, their calls; isinstance of built-in types -/
namespace Pk
open PySem PySem.Spec PyProof.Rows L2
/-- the def at f keeps sp (nothing is raised) -/
def Kp (P : Program) (w : World) (K : PySem.W.Frag) (mg : Str → Option Value) (base : Heap) (k : Nat) (f : Addr) (sp : Sp) : Prop := ∃ fd ps, FnOk P w K mg base CX0 k f fd ps sp ∧ Binds K fd ps [] ∧ PySem.W.keepIn K (.ref f) = true
section
variable {P : Program} {w : World} {K : PySem.W.Frag} {mg : Str → Option Value} {base : Heap} {k j : Nat} {f : Addr} {sp : Sp}
theorem Kp.mono (G : Kp P w K mg base j f sp) (h : j ≤ k) : Kp P w K mg base k f sp := by
  obtain ⟨fd, ps, F, b, kp⟩ := G
  exact ⟨fd, ps, F.mono h, b, kp⟩
theorem Kp.fnR (G : Kp P w K mg base k f sp) : FnR P w K mg base CX0 k f sp := by
  obtain ⟨fd, ps, F, b, kp⟩ := G
  exact (F.raw b .nil).imp fun vs H Q E h => by rw [List.append_nil]; exact h
/-- a def of the text keeps its promise: the body's term and its reading -/
theorem kp_of {x qual : Str} {st : Stmt} {kws : List (Str × V)} {N ps : List Str} (D : ∃ fd, FunD K x qual (defArgs st) (defBody st) (defScope st) [] kws f fd) (S : FnScope N ps (defScope st))
    (hb : ∀ (kV doc pm : Value) (an : Option Addr) (cdv ct : Value) (us : List Value), us.length = ps.length → bindArgs (PySem.W.fnOf x qual (defArgs st) (defBody st) (defScope st) .none kV doc pm an cdv ct) ⟨us, []⟩ = pure (ps.zip us))
    (len : ∀ vs H Q E, sp vs H Q E → vs.length = ps.length)
    (hbody : ∀ (cdv : Value) (A : Around) (outer : List Env) (s : Shared) (H : Hp) (vs : List V) (Q : VK) (E : XK), Room k (A.deeper (envOfC qual (defScope st) s.heap.objs.size f cdv)) → sp vs H Q E →
      ∃ t, PSs (cxOf CX0 P w K mg base N qual (defScope st) f cdv A outer s H E).nox (defBody st) t ∧ t { nx := fun _ H' => Q .non H', rt := Q } (start N vs) H) : Kp P w K mg base (k + 1) f sp := by
  obtain ⟨fd, F⟩ := D
  refine ⟨fd, ps, F.ok S len fun cdv A outer s H vs Q E hr h => ?_, F.bindsN hb, F.kp⟩
  obtain ⟨t, h1, h2⟩ := hbody cdv A outer s H vs Q E hr h
  exact ⟨t, h1.nox, h2⟩
end
theorem b_int : bootBuiltins "int" = some (.type "int") := by decide +kernel
theorem b_bool : bootBuiltins "bool" = some (.type "bool") := by decide +kernel
theorem b_str : bootBuiltins "str" = some (.type "str") := by decide +kernel
theorem b_tuple : bootBuiltins "tuple" = some (.type "tuple") := by decide +kernel
theorem b_list : bootBuiltins "list" = some (.type "list") := by decide +kernel
theorem b_len : bootBuiltins "len" = some (.builtin "len") := by decide +kernel
theorem b_all : bootBuiltins "all" = some (.builtin "all") := by decide +kernel
theorem b_min : bootBuiltins "min" = some (.builtin "min") := by decide +kernel
theorem b_max : bootBuiltins "max" = some (.builtin "max") := by decide +kernel
section
variable {X : Cx} {k : Nat} {f C : Addr} {sp : Sp} {x m : Str} {p pos apos : Pos} {e o : Expr} {es : List Expr} {t : TA} {te ta : TE}
def tCl (sp : Sp) (t : TA) : TE := fun σ H Q => t σ H fun vs H1 => sp vs H1 Q E0
theorem pk_call (G : Kp X.prog X.w X.K X.mg X.base k f sp) (hr : Room k X.A) (hm : X.mg x = some (.ref f)) (ha : PA X (e :: es) t) (hg : Gl X x := by rfl) (hdb : (x == ("__debug__" : Str)) = false := by decide)
    (he : starEach (e :: es) X.env = (false, eval e X.env) :: starEach es X.env := by rfl) (hpl : (backTo pos (starEach es X.env)).any (·.1) = false := by rfl) : PE X (.Call (.Name x p) (e :: es) [] pos) (tCl sp t) := ⟨fun pins s σ H Q I h => by
  obtain ⟨fd, ps, F, b, kp⟩ := G
  refine (pe_call F hr hg hm kp b .nil pass0 ha hdb he hpl).run pins s σ H Q I ?_
  show t σ H fun vs H1 => sp (vs ++ []) H1 Q E0
  simp only [List.append_nil]
  exact h⟩
/-- isinstance(x, T), T a built-in type, by names of types -/
def rIsiB (K : PySem.W.Frag) : List V → Hp → VK → Prop := fun xs H Q => ∃ (x : V) (ty t : String) (r : Bool), xs = [x, .ty ty] ∧ TyX K H x (.type t) ∧ kitB t ty = some r ∧ Q (.bl r) H
theorem call_isiB : CallR X (.builtin "isinstance") (rIsiB X.K) := fun pins s σ H xs us Q I r h => by
  obtain ⟨x, ty, t, b, ex, h1, h2, q⟩ := h
  exact call_isi pins s σ H xs us Q I r ⟨x, .ty ty, .type t, .type ty, b, ex, .ty ty, h1, kit_ty h2, q⟩
/-- a built-in type as a value -/
theorem pe_ty {y : Str} {ty : String} (hm : X.mg y = none) (hb : bootBuiltins y = some (.type ty)) (hg : Gl X y := by rfl) (hn : y ≠ "__name__" := by decide) (hd : (y == ("__debug__" : Str)) = false := by decide) : PE X (.Name y p) (tC (.ty ty)) := pe_bltn hg hm hb rfl hn hd
theorem pe_isi {ty : String} {y : Str} {p2 : Pos} (he : PE X e te) (hi : X.mg ("isinstance" : Str) = none) (hy : X.mg y = none) (hb : bootBuiltins y = some (.type ty)) (hn : y ≠ "__name__" := by decide) (hd : (y == ("__debug__" : Str)) = false := by decide) (hgi : Gl X "isinstance" := by rfl) (hgy : Gl X y := by rfl)
    (h1 : starEach (e :: [.Name y p2]) X.env = (false, eval e X.env) :: starEach [.Name y p2] X.env := by rfl) (hpl : (backTo pos (starEach [.Name y p2] X.env)).any (·.1) = false := by rfl) :
    PE X (.Call (.Name "isinstance" p) [e, .Name y p2] [] pos) (tCB (rIsiB X.K) (tCons te (tCons (tC (.ty ty)) tNil))) := pe_callB call_isiB hgi hi boot_isinstance (pa_cons he (pa_cons (pe_ty hy hb hgy hn hd) pa_nil) h1) (by decide) (by decide) h1 hpl
theorem pk_prop {fl : Str} {g pa : Addr} (he : PE X e te) (c : Cls X.K C) (hp : PropOf X.K C fl pa g) (G : Kp X.prog X.w X.K X.mg X.base k g sp) (hr : Room (k + 1) X.A) (hab : attributeBase e fl X.env (eval e X.env) = eval e X.env := by rfl) : PE X (.Attribute e fl pos) (tProp C sp [] E0 te) := by
  obtain ⟨fd, ps, F, b, kp⟩ := G
  exact pe_prop he c hp F hr b .nil pass0 hab
/-- constants of the module -/
theorem pe_gI {i : Int} {tk : Tok} (hm : X.mg x = some (.int i tk)) (hg : Gl X x := by rfl) (hd : (x == ("__debug__" : Str)) = false := by decide) : PE X (.Name x p) (tC (.int i)) := pe_glob hg hm ⟨tk, rfl⟩ hd
theorem pe_gS {z : Str} {tk : Tok} (hm : X.mg x = some (.str z tk)) (hg : Gl X x := by rfl) (hd : (x == ("__debug__" : Str)) = false := by decide) : PE X (.Name x p) (tC (.str z)) := pe_glob hg hm ⟨tk, rfl⟩ hd
theorem pe_gR {a : Addr} (hm : X.mg x = some (.ref a)) (hg : Gl X x := by rfl) (hd : (x == ("__debug__" : Str)) = false := by decide) : PE X (.Name x p) (tC (.ref a)) := pe_glob hg hm rfl hd
/-- built-ins by short words: of one argument -/
theorem pk_b1 {y : Str} {id : String} {r : List V → Hp → VK → Prop} (hc : CallR X (.builtin id) r) (hm : X.mg y = none) (hv : bootBuiltins y = some (.builtin id)) (he : PE X e te) (hg : Gl X y := by rfl) (hn : y ≠ "__name__" := by decide) (hd : (y == ("__debug__" : Str)) = false := by decide)
    (h1 : starEach [e] X.env = [(false, eval e X.env)] := by rfl) : PE X (.Call (.Name y p) [e] [] pos) (tCB r (tCons te tNil)) := pe_callB hc hg hm hv (pa_cons he pa_nil h1) hn hd h1 rfl
theorem pk_t1 {y : Str} {ty : String} {r : List V → Hp → VK → Prop} (hc : CallR X (.type ty) r) (hm : X.mg y = none) (hv : bootBuiltins y = some (.type ty)) (he : PE X e te) (hg : Gl X y := by rfl) (hn : y ≠ "__name__" := by decide) (hd : (y == ("__debug__" : Str)) = false := by decide)
    (h1 : starEach [e] X.env = [(false, eval e X.env)] := by rfl) : PE X (.Call (.Name y p) [e] [] pos) (tCB r (tCons te tNil)) := pe_callTy hc hg hm hv (pa_cons he pa_nil h1) hn hd h1 rfl
end
end Pk
/-! ## for i, (x, y) in enumerate(zip(l1, l2)) -/
namespace Pk
open PySem PySem.Spec PyProof.Rows L2
/-- a zip of two lists at turn i; held: the pair that it gave last, which still lives -/
structure ZAt (h : Heap) (z TI TO i1 i2 a b : Addr) (i : Nat) (held : Option Addr) : Prop where
  pair : IsPair h TI (.ref i1) (.ref i2)
  it1 : h.IsListIter i1 a i
  it2 : h.IsListIter i2 b i
  out : ∃ x y, IsPair h TO x y
  at_ : match held with
    | none => IsZip h z TI TO .none
    | some T => ∃ f, IsZipHeld h z TI TO T f
section
variable {prog : Program} {w : World} {A : Around} {E : Value → Shared → Prop} {s : Shared} {z TI TO i1 i2 a b : Addr} {i : Nat} {held : Option Addr}
theorem ZAt.ty {h : Heap} (Z : ZAt h z TI TO i1 i2 a b i held) : ∃ o, h.get? z = some o ∧ o.cls = .type "zip" := by
  have h0 := Z.at_
  cases held with
  | none => exact ⟨_, h0, rfl⟩
  | some T =>
    obtain ⟨f, h1⟩ := h0
    exact ⟨_, h1, rfl⟩
theorem zip_turn {xs ys : Array Value} {x y : Value} {Q : Value → Shared → Prop} (D : ZipApart z TI TO i1 i2 a b) (Z : ZAt s.heap z TI TO i1 i2 a b i held) (alive : ∀ T, held = some T → ∃ o, s.heap.get? T = some o)
    (l1 : s.heap.IsList a xs) (l2 : s.heap.IsList b ys) (ex : xs[i]? = some x) (ey : ys[i]? = some y)
    (q : ∀ h2, ZAt h2 z TI TO i1 i2 a b (i + 1) (some (held.getD s.heap.objs.size)) → IsPair h2 s.heap.objs.size x y → h2.objs.size = s.heap.objs.size + 1 → (∀ c o, c ∉ [z, TO, i1, i2] → s.heap.get? c = some o → h2.get? c = some o) → Q (.ref s.heap.objs.size) { s with heap := h2 }) :
    wpAny (model prog w) A (Builtin.SmallTypes.nextOf (.ref z)) Q E s := by
  have ty : s.TypeIs (.ref z) "zip" := Z.ty
  have hp := Z.pair
  have h1 := Z.it1
  have h2 := Z.it2
  unfold Builtin.SmallTypes.nextOf
  refine wpAny_bind (wpAny_callSpecial?_slot (name := Str.ofString "__next__") ty F.slot_zip_next (wpAny_call_entry F.slot_zip_next ty F.entry_zip_next ?_ (F.args_zip_next_1 _)))
  have nTI : TI ∉ [z, TO, i1, i2] := by simp [D.TIz, D.TITO, D.TIi1, D.TIi2]
  have h0 := Z.at_
  cases held with
  | none =>
    have hz : IsZip _ z TI TO .none := h0
    obtain ⟨x0, y0, hTO⟩ := Z.out
    refine zip_next_item D hz hp hTO h1 h2 l1 l2 ex ey fun hq a1 a2 a3 a4 a5 a6 a7 => wpAny_pure ?_
    have kp : ∀ c o, c ∉ [z, TO, i1, i2] → s.heap.get? c = some o → hq.get? c = some o := fun c o hc e => by
      simp only [List.mem_cons, List.not_mem_nil, or_false, not_or] at hc
      exact a7 c o hc.1 hc.2.1 hc.2.2.1 hc.2.2.2 e
    exact q hq ⟨kp _ _ nTI hp, a3, a4, ⟨_, _, a2⟩, false, a1⟩ a5 a6 kp
  | some T =>
    obtain ⟨f, hz⟩ := h0
    obtain ⟨oT, hT⟩ := alive T rfl
    refine zip_next_item_held D hz hT hp h1 h2 l1 l2 ex ey fun hq a1 a3 a4 a5 a6 a7 => wpAny_pure ?_
    have kp : ∀ c o, c ∉ [z, TO, i1, i2] → s.heap.get? c = some o → hq.get? c = some o := fun c o hc e => by
      simp only [List.mem_cons, List.not_mem_nil, or_false, not_or] at hc
      exact a7 c o hc.1 hc.2.2.1 hc.2.2.2 e
    exact q hq ⟨kp _ _ nTI hp, a3, a4, let ⟨x0, y0, hTO⟩ := Z.out; ⟨x0, y0, a7 _ _ D.TOz D.TOi1 D.TOi2 hTO⟩, true, a1⟩ a5 a6 kp
theorem zip_over {xs ys : Array Value} {Q : Value → Shared → Prop} (hh : A.handled = none) (D : ZipApart z TI TO i1 i2 a b) (Z : ZAt s.heap z TI TO i1 i2 a b i held) (alive : ∀ T, held = some T → ∃ o, s.heap.get? T = some o)
    (l1 : s.heap.IsList a xs) (l2 : s.heap.IsList b ys) (none_ : xs[i]? = none ∨ ys[i]? = none)
    (q : ∀ h2 e, (∀ c o, c ∉ [z, TO, i1, i2] → s.heap.get? c = some o → h2.get? c = some o) → (∃ o, h2.get? e = some o ∧ o.cls = .type "StopIteration") → E (.ref e) { s with heap := h2 }) :
    wpAny (model prog w) A (Builtin.SmallTypes.nextOf (.ref z)) Q E s := by
  have ty : s.TypeIs (.ref z) "zip" := Z.ty
  have hp := Z.pair
  have h1 := Z.it1
  have h2 := Z.it2
  unfold Builtin.SmallTypes.nextOf
  refine wpAny_bind (wpAny_callSpecial?_slot (name := Str.ofString "__next__") ty F.slot_zip_next (wpAny_call_entry F.slot_zip_next ty F.entry_zip_next ?_ (F.args_zip_next_1 _)))
  have h0 := Z.at_
  cases held with
  | none =>
    have hz : IsZip _ z TI TO .none := h0
    obtain ⟨x0, y0, hTO⟩ := Z.out
    refine zip_next_end hh D hz hp hTO h1 h2 l1 l2 none_ fun hq e a7 he => q hq e (fun c o hc k => ?_) he
    simp only [List.mem_cons, List.not_mem_nil, or_false, not_or] at hc
    exact a7 c o hc.1 hc.2.1 hc.2.2.1 hc.2.2.2 k
  | some T =>
    obtain ⟨f, hz⟩ := h0
    obtain ⟨oT, hT⟩ := alive T rfl
    refine zip_next_end_held hh D hz hT hp h1 h2 l1 l2 none_ fun hq e a7 he => q hq e (fun c o hc k => ?_) he
    simp only [List.mem_cons, List.not_mem_nil, or_false, not_or] at hc
    exact a7 c o hc.1 hc.2.2.1 hc.2.2.2 k
/-- one turn of an enumerate, whatever it goes through -/
theorem enum_turn {elts : List Expr} {kk : Nat} {tpos : Pos} {en it : Addr} {c : Int} {prev : Value} {G : Value → Heap → Nat → Prop} {Q : Option Value → Shared → Prop}
    (here : IsEnum s.heap en it c prev)
    (inner : wpAny (model prog w) A.in1 (Builtin.SmallTypes.nextOf (.ref it)) (fun x s1 => ∃ h1 tk, s1 = { s with heap := h1, toks := tk } ∧ IsEnum h1 en it c prev ∧ G x h1 tk) (fun _ _ => False) s)
    (fin : ∀ x h1 tk, G x h1 tk → ∀ h2, IsEnumOut h2 en it (c + 1) x h1.objs.size → h2.get? h1.objs.size = some { cls := .type "tuple", data := .seq #[.int c tk, x] } → (∀ b o, b ≠ en → h1.get? b = some o → h2.get? b = some o) → Q (some (.ref h1.objs.size)) { s with heap := h2, toks := tk + 1 }) :
    wpAny (model prog w) A (pyNext (.ref en)) Q E s := by
  have ty : s.TypeIs (.ref en) "enumerate" := ⟨_, here, rfl⟩
  unfold pyNext
  refine wpAny_bind (wpAny_attempt (wpAny_callSpecial?_slot (name := Str.ofString "__next__") ty F.slot_enumerate_next (wpAny_call_entry F.slot_enumerate_next ty F.entry_enumerate_next ?_ (F.args_enumerate_next_1 _))))
  change wpAny _ _ (field (Value.ref en) 2 >>= _) _ _ s
  refine wpAny_bind (wpAny_field (i := 2) here rfl (x := .ref it) rfl ?_)
  refine wpAny_bind (wpAny_mono inner (fun x s1 r1 => ?_) fun _ _ z => z.elim)
  obtain ⟨h1, tk, rfl, here1, g1⟩ := r1
  change wpAny _ _ (field (Value.ref en) 3 >>= _) _ _ _
  refine wpAny_bind (wpAny_field (i := 3) here1 rfl (x := rawInt c) rfl ?_)
  change wpAny _ _ (field (Value.ref en) 4 >>= _) _ _ _
  refine wpAny_bind (wpAny_field (i := 4) here1 rfl (x := .none) rfl ?_)
  change wpAny _ _ (mkInt c >>= _) _ _ _
  refine wpAny_bind (m := mkInt c) (wpAny_mkInt ?_)
  change wpAny _ _ (setField (Value.ref en) 3 (rawInt (c + 1)) >>= _) _ _ _
  refine wpAny_bind (m := setField (.ref en) 3 (rawInt (c + 1))) (wpAny_setField_rec here1 (by simp) fun h2 here2 same2 => ?_)
  replace here2 : IsEnum h2 en it (c + 1) prev := here2
  replace same2 : Heap.SameBut en h1 h2 := same2
  change wpAny _ _ (setField (Value.ref en) 4 Value.none >>= _) _ _ _
  refine wpAny_bind (m := setField (.ref en) 4 .none) (wpAny_setField_rec here2 (by simp) fun h3 here3 same3 => ?_)
  replace here3 : IsEnum h3 en it (c + 1) prev := here3
  replace same3 : Heap.SameBut en h2 h3 := same3
  have size3 : h3.objs.size = h1.objs.size := by rw [same3.1, same2.1]
  change wpAny _ _ (newTuple [Value.int c tk, x] >>= _) _ _ _
  refine wpAny_bind (m := newTuple [.int c tk, x]) (wpAny_newTuple ?_)
  have here4 : IsEnum (h3.push { cls := .type "tuple", data := .seq #[.int c tk, x] }) en it (c + 1) prev := Heap.get?_push_of_some _ here3
  have tup4 : (h3.push { cls := .type "tuple", data := .seq #[.int c tk, x] }).get? h1.objs.size = some { cls := .type "tuple", data := .seq #[.int c tk, x] } := by
    rw [← size3]
    exact Heap.get?_push_size _ rfl
  have keep4 : ∀ b o, b ≠ en → h1.get? b = some o → (h3.push { cls := .type "tuple", data := .seq #[.int c tk, x] }).get? b = some o := fun b o n e => Heap.get?_push_of_some _ (same3.extBut b o n (same2.extBut b o n e))
  have lt1 : en < h1.objs.size := Heap.lt_size here1
  show wpAny _ _ (Builtin.SmallTypes.ownedTupleIsFree (.ref en) >>= _) _ _ _
  rw [size3]
  generalize h3.push { cls := .type "tuple", data := .seq #[.int c tk, x] } = h4 at here4 tup4 keep4
  change wpAny _ _ _ _ _ { s with heap := h4, toks := tk + 1 }
  clear here3 same3 here2 same2 size3 h3 h2
  refine wpAny_bind ?_
  unfold Builtin.SmallTypes.ownedTupleIsFree
  refine wpAny_bind (wpAny_field (i := 0) here4 rfl (x := .none) rfl (wpAny_pure ?_))
  simp only [if_true]
  refine wpAny_bind (wpAny_rule ?_)
  refine wpAny_bind (wpAny_field here4 rfl (x := prev) rfl ?_)
  refine wpAny_bind (wpAny_setField_rec here4 (by simp) fun h5 here5 same5 => ?_)
  replace here5 : IsEnum h5 en it (c + 1) x := here5
  replace same5 : Heap.SameBut en h4 h5 := same5
  refine wpAny_bind ?_
  unfold Builtin.SmallTypes.ownedTupleHandOut
  refine wpAny_bind (wpAny_setField_rec here5 (by simp) fun h6 here6 same6 => ?_)
  replace here6 : IsEnumOut h6 en it (c + 1) x h1.objs.size := here6
  replace same6 : Heap.SameBut en h5 h6 := same6
  refine wpAny_setField_rec here6 (by simp) fun h7 here7 same7 => ?_
  replace here7 : IsEnumOut h7 en it (c + 1) x h1.objs.size := here7
  replace same7 : Heap.SameBut en h6 h7 := same7
  have keep7 : ∀ b o, b ≠ en → h4.get? b = some o → h7.get? b = some o := fun b o n e => same7.extBut b o n (same6.extBut b o n (same5.extBut b o n e))
  exact wpAny_bind (wpAny_letGo (wpAny_pure ⟨_, rfl, wpAny_pure (fin x h1 tk g1 h7 here7 (keep7 _ _ (Nat.ne_of_gt lt1) tup4) fun b o n e => keep7 b o n (keep4 b o n e))⟩))
theorem enum_over {en it : Addr} {c : Int} {prev : Value} {G : Heap → Prop} {Q : Option Value → Shared → Prop}
    (here : IsEnum s.heap en it c prev)
    (inner : ∀ Q2 : Value → Shared → Prop, wpAny (model prog w) A.in1 (Builtin.SmallTypes.nextOf (.ref it)) Q2 (fun ev s1 => ∃ e h1, ev = .ref e ∧ s1 = { s with heap := h1 } ∧ (∃ o, h1.get? e = some o ∧ o.cls = .type "StopIteration") ∧ G h1) s)
    (fin : ∀ h1, G h1 → Q none { s with heap := h1 }) : wpAny (model prog w) A (pyNext (.ref en)) Q E s := by
  have ty : s.TypeIs (.ref en) "enumerate" := ⟨_, here, rfl⟩
  unfold pyNext
  refine wpAny_bind (wpAny_attempt (wpAny_callSpecial?_slot (name := Str.ofString "__next__") ty F.slot_enumerate_next (wpAny_call_entry F.slot_enumerate_next ty F.entry_enumerate_next ?_ (F.args_enumerate_next_1 _))))
  change wpAny _ _ (field (Value.ref en) 2 >>= _) _ _ s
  refine wpAny_bind (wpAny_field (i := 2) here rfl (x := .ref it) rfl ?_)
  refine wpAny_bind (wpAny_mono (inner fun _ _ => False) (fun _ _ z => z.elim) fun ev s1 r1 => ?_)
  obtain ⟨e, h1, rfl, rfl, ⟨o, ho, hc⟩, g1⟩ := r1
  refine wpAny_bind (wpAny_isInstance (T := "StopIteration") (b := true) ⟨o, ho, hc⟩ isSubtype_stop ?_)
  exact wpAny_pure (fin h1 g1)
end
end Pk
namespace Pk
open PySem PySem.Spec PyProof.Rows L2
theorem enum_self_meets {z TI TO : Addr} : Meets (Builtin.«enumerate.__new__» ⟨[.type "enumerate", .ref z], []⟩) (fun _ R s => IsZip s.heap z TI TO .none ∧
      R (.ok (.ret (.ref s.heap.objs.size))) { s with heap := s.heap.push { cls := .type "enumerate", data := .fields #[.none, .bool false, .ref z, rawInt 0, .none, .none] } }) :=
  .of_wp fun prog w A R s hh => by
    obtain ⟨hp, g, d, tk, os⟩ := s
    obtain ⟨hP, hR⟩ := hh
    have subE := sub_enumerate
    have mk : ∀ {A' : Around} {E : Value → Shared → Prop} {Q : Value → Shared → Prop}, Q (.ref z) ⟨hp, g, d, tk, os⟩ → wpAny (model prog w) A' (pyIter (.ref z)) Q E ⟨hp, g, d, tk, os⟩ := fun q => wpAny_pyIter_zip hP q
    wp_walk using mk
    refine wpAny_stack_any fun stk => wpAny_pure ?_
    split
    · rename_i cc _ _ _ _ _
      cases (cc == Value.type "enumerate") <;> (wp_walk using mk; exact ⟨_, rfl, hR⟩)
    · wp_walk using mk
      exact ⟨_, rfl, hR⟩
theorem enum_zip_new {prog : Program} {w : World} {A : Around} {E : Value → Shared → Prop} {s : Shared} {z TI TO : Addr} {Q : Value → Shared → Prop} (hP : IsZip s.heap z TI TO .none)
    (hQ : ∀ h2, IsEnum h2 s.heap.objs.size z 0 .none → (∀ b o, s.heap.get? b = some o → h2.get? b = some o) → Q (.ref s.heap.objs.size) { s with heap := h2 }) :
    wpAny (model prog w) A (call (.type "enumerate") [.ref z]) Q E s := by
  refine callType_new F.called_enumerate (by decide) (F.typeCall_enumerate_1 _) (F.newCall_enumerate_1 _) (fun obj => F.args_object_init_2 obj _) F.entry_enumerate_new enum_self_meets ⟨hP, ?_⟩
  have at_ := Heap.get?_push_size s.heap (o := { cls := .type "enumerate", data := .fields #[.none, .bool false, .ref z, rawInt 0, .none, .none] }) rfl
  exact ⟨⟨_, at_, rfl⟩, hQ _ at_ fun b o y => Heap.get?_push_of_some _ y⟩
/-- for tg in enumerate(zip(e1, e2)), lists: each turn lays a pair and a pair of it; what a turn leaves keeps them -/
def tForEZ (K : PySem.W.Frag) (ta : TA) (g : TG) (tb : TS) : TS := fun D σ H => ta σ H fun vs H1 => ∃ (a b : Addr) (xs ys : List V), vs = [.ref a, .ref b] ∧ SqL K H1 a xs ∧ SqL K H1 b ys ∧
  ∃ W : Nat → Nat → L2.St → Hp → Prop, (∃ m, W 0 m σ H1) ∧ ∀ i m σ H, W i m σ H → SqL K H a xs ∧ SqL K H b ys ∧ (((xs.length ≤ i ∨ ys.length ≤ i) ∧ D.nx σ H) ∨
    ∃ x y, xs[i]? = some x ∧ ys[i]? = some y ∧ ∃ N : L2.St → Hp → Prop, (∀ σ2 H2, N σ2 H2 → ∃ m2, m2 < m ∧ W (i + 1) m2 σ2 H2) ∧
      ∀ T T2, H T = none → (upd H T (.tup [x, y])) T2 = none → g (.ref T2) σ (upd (upd H T (.tup [x, y])) T2 (.tup [.int (i : Nat), .ref T])) fun σ2 H2 =>
        tb { D with nx := fun σ3 H3 => Same (upd (upd H T (.tup [x, y])) T2 (.tup [.int (i : Nat), .ref T])) H3 ∧ N σ3 H3, ct := fun σ3 H3 => Same (upd (upd H T (.tup [x, y])) T2 (.tup [.int (i : Nat), .ref T])) H3 ∧ N σ3 H3, bk := D.nx } σ2 H2)
section
variable {X : Cx}
theorem ps_forEZ {p1 p2 pos1 pos2 pos tpos : Pos} {elts : List Expr} {kk : Nat} {e e2 : Expr} {ta : TA} {body : List Stmt} {g : TG} {tb : TS} (hp : PassesOwn (model X.prog X.w) X.A X.env X.xe) (hc : X.calm = true)
    (ge : Gl X "enumerate") (me : X.mg "enumerate" = none) (gz : Gl X "zip") (mz : X.mg "zip" = none) (ha : PA X [e, e2] ta) (hg : PG X (.Tuple elts kk tpos) g) (hb : PSs X body tb)
    (hs : starEach [e, e2] X.env = (false, eval e X.env) :: starEach [e2] X.env := by rfl) (hpl : (backTo pos2 (starEach [e2] X.env)).any (·.1) = false := by rfl)
    (na : starEach [.Call (.Name "zip" p2) [e, e2] [] pos2] X.env = (false, eval (.Call (.Name "zip" p2) [e, e2] [] pos2) X.env) :: starEach [] X.env := by rfl)
    (fs : ∀ x, foldedSetIterable (.Call (.Name "enumerate" p1) [.Call (.Name "zip" p2) [e, e2] [] pos2] [] pos1) X.env x = pure x := by intro _; rfl) :
    PS X (.For (.Tuple elts kk tpos) (.Call (.Name "enumerate" p1) [.Call (.Name "zip" p2) [e, e2] [] pos2] [] pos1) body [] pos) (tForEZ X.K ta g tb) := ⟨fun pins s σ H D I h => by
  refine wpAny_For (Call_ (ld_blt I ge me boot_enumerate (PyProof.Rows.callWith_type1 (PyProof.Rows.args_cons (Call_ (ld_blt I gz mz PyProof.Rows.boot_zip (PyProof.Rows.callWith_type1 (thn (ha.run pos2 pins s σ H _ I h) fun us s1 k1 => ?_) hs hpl))) na) na))) fs
  obtain ⟨vs, H1, I1, r1, a, b, xs, ys, ev, la, lb, W, ⟨m0, w0⟩, turn⟩ := k1
  subst ev
  cases r1 with
  | cons r rr =>
  cases rr with
  | cons r2 rr =>
  cases rr
  cases r
  cases r2
  obtain ⟨its, rv, q1, _⟩ := I1.list la
  obtain ⟨its2, rv2, q2, _⟩ := I1.list lb
  have lta : a < s1.heap.objs.size := q1.lt
  have ltb : b < s1.heap.objs.size := q2.lt
  have DD := PySem.W.ktu_apart s1.heap.objs.size a b lta ltb
  refine call_zip_2 q1.isList q2.isList fun h1 hz hTI hTO t1 t2 size1 kp1 => PyProof.Rows.args_nil (enum_zip_new hz fun h2 hen kp2 => ?_)
  have I2 : Inv X pins σ H1 { s1 with heap := h2 } := I1.kept (t' := s1.toks) fun b o e => kp2 b o (kp1 b o e)
  have kz := kp2 _ _ hz
  have kTI := kp2 _ _ hTI
  have kTO := kp2 _ _ hTO
  have k1 := t1.at fun o q => kp2 _ o q
  have k2 := t2.at fun o q => kp2 _ o q
  rw [size1] at hen ⊢
  have hen0 : IsEnum h2 (s1.heap.objs.size + 5) (s1.heap.objs.size + 4) 0 .none := hen
  have ft : ∀ c ∈ [s1.heap.objs.size + 5, s1.heap.objs.size + 4, s1.heap.objs.size + 2, s1.heap.objs.size + 3, s1.heap.objs.size, s1.heap.objs.size + 1], FpOk X pins H1 c := fun c hc => by
    have hle : s1.heap.objs.size ≤ c := by
      simp only [List.mem_cons, List.not_mem_nil, or_false] at hc
      omega
    exact I1.fpOk hle (I1.hok.fresh hle)
  have apart : ∀ c ∈ [s1.heap.objs.size + 4, s1.heap.objs.size + 2, s1.heap.objs.size + 3, s1.heap.objs.size, s1.heap.objs.size + 1], c ≠ s1.heap.objs.size + 5 := fun c hc => by
    simp only [List.mem_cons, List.not_mem_nil, or_false] at hc
    omega
  have nab : a ≠ s1.heap.objs.size + 5 ∧ b ≠ s1.heap.objs.size + 5 := ⟨Nat.ne_of_lt (Nat.lt_of_lt_of_le lta (Nat.le_add_right _ _)), Nat.ne_of_lt (Nat.lt_of_lt_of_le ltb (Nat.le_add_right _ _))⟩
  change wpAny _ _ (pyIter (.ref (s1.heap.objs.size + 5))) _ _ _
  generalize s1.heap.objs.size + 5 = en at *
  generalize s1.heap.objs.size + 4 = z at *
  generalize s1.heap.objs.size + 2 = TI at *
  generalize s1.heap.objs.size + 3 = TO at *
  generalize s1.heap.objs.size + 1 = i2 at *
  generalize s1.heap.objs.size = i1 at *
  refine wpAny_pyIter_enum hen0 ?_
  have stat : ∀ {H4 : Hp}, (∀ c ∈ [en, z, TI, TO, i1, i2], H4 c = none) → ∀ c ∈ [en, z, TI, TO, i1, i2], FpOk X pins H4 c := fun hn c hc => ⟨hn c hc, (ft c hc).2⟩
  refine codeAny_forLoop_any (fun n s4 => ∃ i σ4 H4 held, Inv X pins σ4 H4 s4 ∧ (∃ prev, IsEnum s4.heap en z ((i : Nat) : Int) prev) ∧ ZAt s4.heap z TI TO i1 i2 a b i held ∧ (∀ T, held = some T → ∃ us, H4 T = some (.tup us)) ∧ (∀ c ∈ [en, z, TI, TO, i1, i2], H4 c = none) ∧ W i n σ4 H4) ?_ m0
    ⟨0, σ, H1, none, I2, ⟨_, hen0⟩, ⟨kTI, k1, k2, ⟨_, _, kTO⟩, kz⟩, fun _ q => (by cases q), fun c hc => (ft c hc).1, w0⟩
  rintro n s4 ⟨i, σ4, H4, held, I4, ⟨prev, en4⟩, Z4, alive4, fr4, w4⟩
  obtain ⟨la4, lb4, turn4⟩ := turn i n σ4 H4 w4
  obtain ⟨jts, rw1, u1, _⟩ := I4.list la4
  obtain ⟨jts2, rw2, u2, _⟩ := I4.list lb4
  have alive : ∀ T, held = some T → ∃ o, s4.heap.get? T = some o := fun T hT => by
    obtain ⟨us, hu⟩ := alive4 T hT
    obtain ⟨its, _, ⟨o, ho, _⟩, _⟩ := I4.tuple (xs := us) (.inl (.inl hu))
    exact ⟨o, ho⟩
  have hh : X.A.in1.handled = none := I4.ok.hd hc
  have ez : en ≠ z := fun q => apart z (by simp) q.symm
  have sub : ∀ c, c ∉ [en, z, TI, TO, i1, i2] → c ∉ [z, TO, i1, i2] := fun c hc q => hc (by
    simp only [List.mem_cons, List.not_mem_nil, or_false] at q ⊢
    rcases q with q | q | q | q <;> simp [q])
  have en_out : en ∉ [z, TO, i1, i2] := fun q => by
    simp only [List.mem_cons, List.not_mem_nil, or_false] at q
    rcases q with q | q | q | q
    · exact apart z (by simp) q.symm
    · exact apart TO (by simp) q.symm
    · exact apart i1 (by simp) q.symm
    · exact apart i2 (by simp) q.symm
  rcases turn4 with ⟨over, qn⟩ | ⟨x, y, hx, hy, N, hN, step⟩
  · have none_ : jts.toArray[i]? = none ∨ jts2.toArray[i]? = none := by
      have l1 := rw1.length
      have l2 := rw2.length
      rcases over with q | q
      · exact .inl (by simp; omega)
      · exact .inr (by simp; omega)
    refine wpAny_passesOwn hp (enum_over (G := fun h5 => ∀ c o, c ∉ [z, TO, i1, i2] → s4.heap.get? c = some o → h5.get? c = some o) en4 (fun Q2 => zip_over hh DD Z4 alive u1.isList u2.isList none_ fun h5 e k5 st5 => ⟨e, h5, rfl, rfl, st5, k5⟩) fun h5 k5 => ?_)
    exact wpAny_execs_nil ⟨σ4, H4, I4.turnedL (t' := s4.toks) (ch := [en, z, TI, TO, i1, i2]) (fun c o hc e => k5 c o (sub c hc) e) (stat fr4), qn⟩
  · obtain ⟨v1, hv1, rv1⟩ := rw1.get hx
    obtain ⟨v2, hv2, rv2⟩ := rw2.get hy
    refine wpAny_passesOwn hp (enum_turn (elts := elts) (kk := kk) (tpos := tpos) (G := fun u h5 tk => u = .ref s4.heap.objs.size ∧ tk = s4.toks ∧ ZAt h5 z TI TO i1 i2 a b (i + 1) (some (held.getD s4.heap.objs.size)) ∧ IsPair h5 s4.heap.objs.size v1 v2 ∧ h5.objs.size = s4.heap.objs.size + 1 ∧ (∀ c o, c ∉ [z, TO, i1, i2] → s4.heap.get? c = some o → h5.get? c = some o)) en4
      (zip_turn DD Z4 alive u1.isList u2.isList (x := v1) (y := v2) (by simpa using hv1) (by simpa using hv2) fun h5 Z5 p5 size5 k5 => ⟨h5, s4.toks, rfl, k5 _ _ en_out en4, rfl, rfl, Z5, p5, size5, k5⟩) fun u h5 tk g5 h6 out6 tup6 k6 => ?_)
    obtain ⟨rfl, rfl, Z5, p5, size5, k5⟩ := g5
    rw [size5] at out6 tup6 ⊢
    refine wpAny_passesOwn hp (wpAny_letOwnedTupleGo_enum (s := { s4 with heap := h6, toks := s4.toks + 1 }) out6 fun h7 en7 sb => ?_)
    have fresh4 : H4 s4.heap.objs.size = none := I4.hok.fresh (Nat.le_refl _)
    have lts : ∀ c ∈ [en, z, TI, TO, i1, i2], c < s4.heap.objs.size := fun c hc => by
      simp only [List.mem_cons, List.not_mem_nil, or_false] at hc
      obtain ⟨oz, hoz, _⟩ := Z4.ty
      obtain ⟨o1, ho1, _⟩ := Z4.it1
      obtain ⟨o2, ho2, _⟩ := Z4.it2
      rcases hc with q | q | q | q | q | q
      · rw [q]; exact Heap.lt_size en4
      · rw [q]; exact Heap.lt_size hoz
      · rw [q]; exact Heap.lt_size Z4.pair
      · rw [q]
        obtain ⟨_, _, hto⟩ := Z4.out
        exact Heap.lt_size hto
      · rw [q]; exact Heap.lt_size ho1
      · rw [q]; exact Heap.lt_size ho2
    have nf : ∀ c ∈ [en, z, TI, TO, i1, i2], c ≠ s4.heap.objs.size := fun c hc => Nat.ne_of_lt (lts c hc)
    have k57 : ∀ c o, c ≠ en → h5.get? c = some o → h7.get? c = some o := fun c o n e => (sb.2 c n).trans (k6 c o n e)
    have new5 : ObjOk X.prog X.w (upd H4 s4.heap.objs.size (.tup [x, y])) h5 s4.heap.objs.size (.tup [x, y]) := ⟨(by decide : 2 ≤ sizeLine), [v1, v2], .cons rv1 (.cons rv2 .nil), ⟨_, p5, rfl, _, rfl⟩⟩
    have I5 : Inv X pins σ4 (upd H4 s4.heap.objs.size (.tup [x, y])) { s4 with heap := h5, toks := s4.toks } :=
      I4.turnedNew (t' := s4.toks) (ch := [en, z, TI, TO, i1, i2]) (fun c o hc e => k5 c o (sub c hc) e) (stat fr4) (Nat.le_refl _) new5
    have fr5 : ∀ c ∈ [en, z, TI, TO, i1, i2], (upd H4 s4.heap.objs.size (.tup [x, y])) c = none := fun c hc => by
      rw [upd_ne (nf c hc)]
      exact fr4 c hc
    have tup7 : h7.get? (s4.heap.objs.size + 1) = some { cls := .type "tuple", data := .seq #[.int (i : Nat) s4.toks, .ref s4.heap.objs.size] } := (sb.2 _ (Nat.ne_of_gt (Nat.lt_succ_of_lt (lts en (by simp))))).trans tup6
    have new7 : ObjOk X.prog X.w (upd (upd H4 s4.heap.objs.size (.tup [x, y])) (s4.heap.objs.size + 1) (.tup [.int (i : Nat), .ref s4.heap.objs.size])) h7 (s4.heap.objs.size + 1) (.tup [.int (i : Nat), .ref s4.heap.objs.size]) :=
      ⟨(by decide : 2 ≤ sizeLine), [.int (i : Nat) s4.toks, .ref s4.heap.objs.size], .cons ⟨_, rfl⟩ (.cons rfl .nil), ⟨_, tup7, rfl, _, rfl⟩⟩
    have I7 : Inv X pins σ4 (upd (upd H4 s4.heap.objs.size (.tup [x, y])) (s4.heap.objs.size + 1) (.tup [.int (i : Nat), .ref s4.heap.objs.size])) { s4 with heap := h7, toks := s4.toks + 1 } :=
      I5.turnedNew (t' := s4.toks + 1) (ch := [en]) (fun c o hc e => k57 c o (fun q => hc (by simp [q])) e) (fun c hc => stat fr5 c (by simp only [List.mem_cons, List.not_mem_nil, or_false] at hc; simp [hc])) (Nat.le_of_eq size5) new7
    have fr7 : ∀ c ∈ [en, z, TI, TO, i1, i2], (upd (upd H4 s4.heap.objs.size (.tup [x, y])) (s4.heap.objs.size + 1) (.tup [.int (i : Nat), .ref s4.heap.objs.size])) c = none := fun c hc => by
      rw [upd_ne (Nat.ne_of_lt (Nat.lt_succ_of_lt (lts c hc)))]
      exact fr5 c hc
    have fresh5 : (upd H4 s4.heap.objs.size (.tup [x, y])) (s4.heap.objs.size + 1) = none := I5.hok.fresh (Nat.le_of_eq size5)
    have nTI : TI ≠ en := apart TI (by simp)
    have n1 : i1 ≠ en := apart i1 (by simp)
    have n2 : i2 ≠ en := apart i2 (by simp)
    have nz : z ≠ en := apart z (by simp)
    have nO : TO ≠ en := apart TO (by simp)
    have Z7 : ZAt h7 z TI TO i1 i2 a b (i + 1) (some (held.getD s4.heap.objs.size)) := ⟨k57 _ _ nTI Z5.pair, Z5.it1.at fun o q => k57 _ o n1 q, Z5.it2.at fun o q => k57 _ o n2 q, let ⟨_, _, q⟩ := Z5.out; ⟨_, _, k57 _ _ nO q⟩, let ⟨f, q⟩ := Z5.at_; ⟨f, k57 _ _ nz q⟩⟩
    have en7' : IsEnum h7 en z ((i + 1 : Nat) : Int) (.ref s4.heap.objs.size) := by
      rw [Int.natCast_succ]
      exact en7
    have alive7 : ∀ T, some (held.getD s4.heap.objs.size) = some T → ∃ us, (upd (upd H4 s4.heap.objs.size (.tup [x, y])) (s4.heap.objs.size + 1) (.tup [.int (i : Nat), .ref s4.heap.objs.size])) T = some (.tup us) := fun T hT => by
      have s57 : Same (upd H4 s4.heap.objs.size (.tup [x, y])) (upd (upd H4 s4.heap.objs.size (.tup [x, y])) (s4.heap.objs.size + 1) (.tup [.int (i : Nat), .ref s4.heap.objs.size])) := fun c o e => by
        rw [upd_ne (ne_of_none e fresh5)]
        exact e
      have s45 : Same H4 (upd H4 s4.heap.objs.size (.tup [x, y])) := fun c o e => by
        rw [upd_ne (ne_of_none e fresh4)]
        exact e
      cases held with
      | none =>
        cases hT
        exact ⟨_, s57 _ _ upd_same⟩
      | some T0 =>
        cases hT
        obtain ⟨us, hu⟩ := alive4 T0 rfl
        exact ⟨us, s57 _ _ (s45 _ _ hu)⟩
    have obj7 : ∀ c ∈ [en, z, TI, TO, i1, i2], ∃ o, h7.get? c = some o ∧ ∀ v, o.data ≠ .cell v := fun c hc => by
      obtain ⟨f, hz7⟩ := Z7.at_
      obtain ⟨_, _, hO7⟩ := Z7.out
      obtain ⟨o1, e1, _, d1⟩ := Z7.it1
      obtain ⟨o2, e2, _, d2⟩ := Z7.it2
      simp only [List.mem_cons, List.not_mem_nil, or_false] at hc
      rcases hc with q | q | q | q | q | q <;> rw [q]
      · exact ⟨_, en7', fun v q => nomatch q⟩
      · exact ⟨_, hz7, fun v q => nomatch q⟩
      · exact ⟨_, Z7.pair, fun v q => nomatch q⟩
      · exact ⟨_, hO7, fun v q => nomatch q⟩
      · exact ⟨o1, e1, fun v q => by rw [d1] at q; cases q⟩
      · exact ⟨o2, e2, fun v q => by rw [d2] at q; cases q⟩
    have I7p := I7.pinned (stat fr7) obj7
    refine wpAny_passesOwn hp (thn (hg.run _ _ σ4 _ (.ref (s4.heap.objs.size + 1)) _ _ I7p rfl (step s4.heap.objs.size (s4.heap.objs.size + 1) fresh4 fresh5)) fun _ s8 ⟨σ8, H8, I8, q8⟩ => ?_)
    refine wpAny_passesOwn hp (thn (hb.run _ s8 σ8 H8 _ I8 q8) fun f s9 q9 => ?_)
    have again : ∀ {σ9 : L2.St} {H9 : Hp}, Inv X (pins ++ pinsAt [en, z, TI, TO, i1, i2] h7) σ9 H9 s9 → Same (upd (upd H4 s4.heap.objs.size (.tup [x, y])) (s4.heap.objs.size + 1) (.tup [.int (i : Nat), .ref s4.heap.objs.size])) H9 ∧ N σ9 H9 →
        ∃ m, m < n ∧ ∃ i σ4 H4 held, Inv X pins σ4 H4 s9 ∧ (∃ prev, IsEnum s9.heap en z ((i : Nat) : Int) prev) ∧ ZAt s9.heap z TI TO i1 i2 a b i held ∧ (∀ T, held = some T → ∃ us, H4 T = some (.tup us)) ∧ (∀ c ∈ [en, z, TI, TO, i1, i2], H4 c = none) ∧ W i m σ4 H4 := fun {σ9 H9} I9 n9 => by
      obtain ⟨m9, hm, w9⟩ := hN σ9 H9 n9.2
      have pn : ∀ c ∈ [en, z, TI, TO, i1, i2], ∀ o, h7.get? c = some o → s9.heap.get? c = some o := fun c hc o e => (I9.pin (c, o) (List.mem_append_right _ (List.mem_append_right _ (mem_pinsAt hc e)))).1
      refine ⟨m9, hm, i + 1, σ9, H9, some (held.getD s4.heap.objs.size), I9.unpinned, ⟨_, pn en (by simp) _ en7'⟩, ⟨pn TI (by simp) _ Z7.pair, Z7.it1.at fun o q => pn i1 (by simp) o q, Z7.it2.at fun o q => pn i2 (by simp) o q, let ⟨_, _, q⟩ := Z7.out; ⟨_, _, pn TO (by simp) _ q⟩, let ⟨f, q⟩ := Z7.at_; ⟨f, pn z (by simp) _ q⟩⟩, fun T hT => ?_, fun c hc => ?_, w9⟩
      · obtain ⟨us, hu⟩ := alive7 T hT
        exact ⟨us, n9.1 _ _ hu⟩
      · obtain ⟨o, e, d⟩ := obj7 c hc
        exact (I9.pin (c, o) (List.mem_append_right _ (List.mem_append_right _ (mem_pinsAt hc e)))).2.1
    cases f with
    | next => obtain ⟨σ9, H9, I9, n9⟩ := q9; exact again I9 n9
    | cont => obtain ⟨σ9, H9, I9, n9⟩ := q9; exact again I9 n9
    | brk => obtain ⟨σ9, H9, I9, q9⟩ := q9; exact ⟨σ9, H9, I9.unpinned, q9⟩
    | ret v => obtain ⟨x9, σ9, H9, I9, r9, q9⟩ := q9; exact ⟨x9, σ9, H9, I9.unpinned, r9, q9⟩⟩
end
end Pk
/-! ## Texts in plain Lean: steps, sizes, the keys of all places -/
namespace Pk
open PySem L2
def sL (l : List Nat) : Str := ⟨l.toArray⟩
theorem sL_len (l : List Nat) : (sL l).length = l.length := by simp [sL, Str.length]
theorem sL_app (a b : List Nat) : sL a ++ sL b = sL (a ++ b) := by
  show Str.append (sL a) (sL b) = _
  simp [sL, Str.append]
theorem sL_inj {a b : List Nat} : sL a = sL b ↔ a = b := by
  constructor
  · intro h
    have h1 := congrArg (fun z : Str => z.cps.toList) h
    simpa [sL] using h1
  · intro h
    rw [h]
theorem sL_of (z : Str) : z = sL z.cps.toList := by cases z; simp [sL]
def isLet (c : Nat) : Bool := decide (97 ≤ c) && decide (c ≤ 122)
inductive Stp where
  | wr (w : List Nat)
  | pa (f l t : Nat)
  deriving DecidableEq
namespace Stp
/-- keys that are typed -/
def ks : Stp → Nat
  | wr w => w.length
  | pa _ _ _ => 0
/-- places that are added -/
def gr : Stp → Nat
  | wr w => w.length
  | pa f l t => (l + 1 - f) * t
/-- letters that are typed -/
def ty : Stp → List Nat
  | wr w => w
  | pa _ _ _ => []
def ok (s : Nat) : Stp → Bool
  | wr w => decide (1 ≤ w.length) && decide (w.length ≤ 20) && w.all isLet
  | pa f l t => decide (f ≤ l) && decide (l < s) && decide (1 ≤ t) && decide (t ≤ 1000000000)
end Stp
def sz (st : List Stp) : Nat := (st.map Stp.gr).sum
def nk (st : List Stp) : Nat := (st.map Stp.ks).sum
def typed (st : List Stp) : List Nat := st.flatMap Stp.ty
theorem sz_cons (x : Stp) (r : List Stp) : sz (x :: r) = x.gr + sz r := by simp [sz]
theorem sz_app (a b : List Stp) : sz (a ++ b) = sz a + sz b := by simp [sz]
theorem nk_app (a b : List Stp) : nk (a ++ b) = nk a + nk b := by simp [nk]
theorem typed_app (a b : List Stp) : typed (a ++ b) = typed a ++ typed b := by simp [typed]
theorem typed_len (st : List Stp) : (typed st).length = nk st := by
  induction st with
  | nil => rfl
  | cons x r ih =>
    have h : (x.ty).length = x.ks := by cases x <;> rfl
    simp only [typed, List.flatMap_cons, List.length_append, h, nk, List.map_cons, List.sum_cons] at ih ⊢
    rw [ih]
/-- every step is one where it stands, and the text is not too long behind it -/
def Goes (most : Nat) : Nat → List Stp → Prop
  | _, [] => True
  | s, x :: r => x.ok s = true ∧ s + x.gr ≤ most ∧ Goes most (s + x.gr) r
theorem goes_app {most : Nat} : ∀ {s : Nat} {a b : List Stp}, Goes most s (a ++ b) ↔ Goes most s a ∧ Goes most (s + sz a) b
  | s, [], b => by simp [Goes, sz]
  | s, x :: a, b => by
    show (x.ok s = true ∧ s + x.gr ≤ most ∧ Goes most (s + x.gr) (a ++ b)) ↔ (x.ok s = true ∧ s + x.gr ≤ most ∧ Goes most (s + x.gr) a) ∧ _
    rw [goes_app (a := a) (b := b), sz_cons, Nat.add_assoc]
    constructor
    · rintro ⟨h1, h2, h3, h4⟩; exact ⟨⟨h1, h2, h3⟩, h4⟩
    · rintro ⟨⟨h1, h2, h3⟩, h4⟩; exact ⟨h1, h2, h3, h4⟩
theorem goes_at {most : Nat} {st : List Stp} {i : Nat} {x : Stp} (h : Goes most 0 st) (e : st[i]? = some x) : x.ok (sz (st.take i)) = true ∧ sz (st.take i) + x.gr ≤ most := by
  have hlt : i < st.length := (List.getElem?_eq_some_iff.mp e).1
  have hd : st = st.take i ++ st.drop i := (List.take_append_drop i st).symm
  have hx : st.drop i = x :: st.drop (i + 1) := by
    rw [List.drop_eq_getElem_cons hlt]
    have := (List.getElem?_eq_some_iff.mp e).2
    rw [this]
  rw [hx] at hd
  rw [hd] at h
  have h2 := (goes_app.mp h).2
  rw [Nat.zero_add] at h2
  exact ⟨h2.1, h2.2.1⟩
theorem goes_mono {m n : Nat} (hmn : m ≤ n) : ∀ {s : Nat} {a : List Stp}, Goes m s a → Goes n s a
  | _, [], _ => trivial
  | _, _ :: _, h => ⟨h.1, Nat.le_trans h.2.1 hmn, goes_mono hmn h.2.2⟩
theorem goes_sz {most : Nat} : ∀ {s : Nat} {a : List Stp}, Goes most s a → a ≠ [] → s + sz a ≤ most
  | s, [], _, h => absurd rfl h
  | s, [x], h, _ => by rw [sz_cons]; simpa [sz] using h.2.1
  | s, x :: y :: r, h, _ => by
    have := goes_sz h.2.2 (by simp)
    rw [sz_cons]
    omega
theorem ks_le {s : Nat} {x : Stp} (h : x.ok s = true) : x.ks ≤ 20 := by
  cases x with
  | wr w => simp [Stp.ok] at h; exact h.1.2
  | pa f l t => exact Nat.zero_le _
theorem nk_le {most : Nat} : ∀ {s : Nat} {a : List Stp}, Goes most s a → nk a ≤ 20 * a.length
  | _, [], _ => by simp [nk]
  | s, x :: r, h => by
    have h1 := ks_le h.1
    have h2 := nk_le h.2.2
    simp only [nk, List.map_cons, List.sum_cons, List.length_cons] at h2 ⊢
    omega
theorem take_succ {α : Type} {l : List α} {i : Nat} {x : α} (e : l[i]? = some x) : l.take (i + 1) = l.take i ++ [x] := by
  rw [List.take_add_one, e]
  rfl
/-! ### the keys of all places -/
def exF (E : List Nat) (n : Nat) : List Stp → List Nat
  | [] => E
  | .wr w :: r => exF (E ++ List.range' n w.length) (n + w.length) r
  | .pa f l t :: r => exF (E ++ (List.replicate t ((E.drop f).take (l + 1 - f))).flatten) n r
def ex (st : List Stp) : List Nat := exF [] 0 st
/-- one more step -/
def ex1 (E : List Nat) (n : Nat) : Stp → List Nat
  | .wr w => E ++ List.range' n w.length
  | .pa f l t => E ++ (List.replicate t ((E.drop f).take (l + 1 - f))).flatten
theorem exF_app : ∀ (E : List Nat) (n : Nat) (a b : List Stp), exF E n (a ++ b) = exF (exF E n a) (n + nk a) b
  | E, n, [], b => by simp [exF, nk]
  | E, n, .wr w :: a, b => by
    show exF _ _ (a ++ b) = _
    rw [exF_app _ _ a b]
    simp [exF, nk, Stp.ks, Nat.add_assoc]
  | E, n, .pa f l t :: a, b => by
    show exF _ _ (a ++ b) = _
    rw [exF_app _ _ a b]
    simp [exF, nk, Stp.ks]
theorem ex_snoc (st : List Stp) (x : Stp) : ex (st ++ [x]) = ex1 (ex st) (nk st) x := by
  unfold ex
  rw [exF_app, Nat.zero_add]
  cases x <;> rfl
theorem ex1_pre (E : List Nat) (n : Nat) (x : Stp) : ∃ F, ex1 E n x = E ++ F := by
  cases x <;> exact ⟨_, rfl⟩
theorem ex1_len {E : List Nat} {n : Nat} {x : Stp} (h : x.ok E.length = true) : (ex1 E n x).length = E.length + x.gr := by
  cases x with
  | wr w => simp [ex1, Stp.gr]
  | pa f l t =>
    simp [Stp.ok] at h
    have e : min (l + 1 - f) (E.length - f) = l + 1 - f := by omega
    simp [ex1, Stp.gr, e, Nat.mul_comm]
theorem ex_len {most : Nat} (st : List Stp) (h : Goes most 0 st) : (ex st).length = sz st := by
  have key : ∀ k, k ≤ st.length → (ex (st.take k)).length = sz (st.take k) := by
    intro k
    induction k with
    | zero => intro _; rfl
    | succ k ih =>
      intro hk
      have e : st[k]? = some (st[k]'(by omega)) := List.getElem?_eq_getElem (by omega)
      have ih := ih (by omega)
      obtain ⟨o, _⟩ := goes_at h e
      rw [take_succ e, ex_snoc, sz_app, ex1_len (by rw [ih]; exact o), ih, sz_cons]
      simp [sz]
  have := key st.length (Nat.le_refl _)
  rwa [List.take_length] at this
theorem goes_take {most : Nat} {st : List Stp} (h : Goes most 0 st) (k : Nat) : Goes most 0 (st.take k) := by
  rw [← List.take_append_drop k st] at h
  exact (goes_app.mp h).1
theorem exF_pre : ∀ (E : List Nat) (n : Nat) (b : List Stp), ∃ F, exF E n b = E ++ F
  | E, n, [] => ⟨[], by simp [exF]⟩
  | E, n, .wr w :: r => by
    obtain ⟨F, h⟩ := exF_pre (E ++ List.range' n w.length) (n + w.length) r
    exact ⟨_, by show exF _ _ r = _; rw [h, List.append_assoc]⟩
  | E, n, .pa f l t :: r => by
    obtain ⟨F, h⟩ := exF_pre (E ++ (List.replicate t ((E.drop f).take (l + 1 - f))).flatten) n r
    exact ⟨_, by show exF _ _ r = _; rw [h, List.append_assoc]⟩
/-- the keys ahead of a step stay -/
theorem ex_pre (a b : List Stp) : ∃ F, ex (a ++ b) = ex a ++ F := by
  unfold ex
  rw [exF_app]
  exact exF_pre _ _ b
theorem ex_at_pre {most : Nat} {st : List Stp} {k p : Nat} (h : Goes most 0 st) (hp : p < sz (st.take k)) : (ex st)[p]? = (ex (st.take k))[p]? := by
  obtain ⟨F, e⟩ := ex_pre (st.take k) (st.drop k)
  rw [List.take_append_drop] at e
  rw [e, List.getElem?_append_left (by rw [ex_len _ (goes_take h k)]; exact hp)]
/-- a place that was written -/
theorem ex_wr {most : Nat} {st : List Stp} {k p : Nat} {w : List Nat} (h : Goes most 0 st) (e : st[k]? = some (.wr w)) (h1 : sz (st.take k) ≤ p) (h2 : p < sz (st.take (k + 1))) : (ex st)[p]? = some (nk (st.take k) + (p - sz (st.take k))) := by
  rw [ex_at_pre h h2, take_succ e, ex_snoc]
  have hl := ex_len _ (goes_take h k)
  rw [take_succ e, sz_app, sz_cons] at h2
  simp [sz, Stp.gr] at h2
  have h3 : p - sz (st.take k) < w.length := by simp [sz]; simp [sz] at h1; omega
  show (ex (st.take k) ++ List.range' (nk (st.take k)) w.length)[p]? = _
  rw [List.getElem?_append_right (by rw [hl]; exact h1), hl, List.getElem?_range' h3]
  simp
theorem rep_at (seg : List Nat) : ∀ (t j : Nat), j < seg.length * t → (List.replicate t seg).flatten[j]? = seg[j % seg.length]?
  | 0, j, h => by simp at h
  | t + 1, j, h => by
    rw [List.replicate_succ, List.flatten_cons]
    by_cases hj : j < seg.length
    · rw [List.getElem?_append_left hj, Nat.mod_eq_of_lt hj]
    · have hj' : seg.length ≤ j := by omega
      have hm : j % seg.length = (j - seg.length) % seg.length := Nat.mod_eq_sub_mod hj'
      rw [List.getElem?_append_right hj', hm]
      exact rep_at seg t (j - seg.length) (by rw [Nat.mul_succ] at h; omega)
/-- a place that was pasted -/
theorem ex_pa {most : Nat} {st : List Stp} {k p f l t : Nat} (h : Goes most 0 st) (e : st[k]? = some (.pa f l t)) (h1 : sz (st.take k) ≤ p) (h2 : p < sz (st.take (k + 1))) :
    (ex st)[p]? = (ex st)[f + (p - sz (st.take k)) % (l + 1 - f)]? ∧ f + (p - sz (st.take k)) % (l + 1 - f) < sz (st.take k) := by
  obtain ⟨o, _⟩ := goes_at h e
  simp [Stp.ok] at o
  have hl := ex_len _ (goes_take h k)
  have hm : (p - sz (st.take k)) % (l + 1 - f) < l + 1 - f := Nat.mod_lt _ (by omega)
  have hlt : f + (p - sz (st.take k)) % (l + 1 - f) < sz (st.take k) := by omega
  refine ⟨?_, hlt⟩
  rw [ex_at_pre h h2, ex_at_pre (k := k) h hlt, take_succ e, ex_snoc]
  rw [take_succ e, sz_app, sz_cons] at h2
  have hz : sz ([] : List Stp) = 0 := rfl
  rw [hz, Nat.add_zero] at h2
  have hgr : (Stp.pa f l t).gr = (l + 1 - f) * t := rfl
  rw [hgr] at h2
  have hseg : (((ex (st.take k)).drop f).take (l + 1 - f)).length = l + 1 - f := by
    rw [List.length_take, List.length_drop, hl]
    omega
  show (ex (st.take k) ++ (List.replicate t (((ex (st.take k)).drop f).take (l + 1 - f))).flatten)[p]? = _
  rw [List.getElem?_append_right (by rw [hl]; exact h1), hl, rep_at _ _ _ (by rw [hseg]; omega), hseg, List.getElem?_take_of_lt hm, List.getElem?_drop]
end Pk
/-! ## Texts in the heap -/
namespace Pk
open PySem PySem.Spec PyProof.Rows L2
abbrev Fr := PySem.W.Frag
theorem same_sqT {K : Fr} {H H2 : Hp} {a : Addr} {xs : List V} (e : Same H H2) (h : SqT K H a xs) : SqT K H2 a xs := by
  rcases h with (h | ⟨o, h⟩) | h
  · exact .inl (.inl (e _ _ h))
  · exact .inl (.inr ⟨o, e _ _ h⟩)
  · exact .inr h
theorem same_upd {H : Hp} {p : Addr} {o : HO} (h : H p = none) : Same H (upd H p o) := fun b u e => by
  rw [upd_ne (ne_of_none e h)]
  exact e
/-- all but the object at r stands -/
def But (r : Addr) (H H2 : Hp) : Prop := ∀ b o, b ≠ r → H b = some o → H2 b = some o
theorem But.refl (r : Addr) (H : Hp) : But r H H := fun _ _ _ h => h
theorem But.trans {r : Addr} {H H1 H2 : Hp} (a : But r H H1) (b : But r H1 H2) : But r H H2 := fun c o n h => b c o n (a c o n h)
theorem Same.but {r : Addr} {H H1 : Hp} (a : Same H H1) : But r H H1 := fun c o _ h => a c o h
/-- the values of a step -/
def stV : Stp → List V
  | .wr w => [.str "write", .str (sL w)]
  | .pa f l t => [.str "paste", .int f, .int l, .int t]
structure StepsAt (K : Fr) (H : Hp) (as : List Addr) (st : List Stp) : Prop where
  len : as.length = st.length
  at_ : ∀ (i : Nat) (x : Stp), st[i]? = some x → ∃ a, as[i]? = some a ∧ SqT K H a (stV x)
theorem StepsAt.same {K : Fr} {H H2 : Hp} {as : List Addr} {st : List Stp} (h : StepsAt K H as st) (e : Same H H2) : StepsAt K H2 as st :=
  ⟨h.len, fun i x hx => let ⟨a, h1, h2⟩ := h.at_ i x hx; ⟨a, h1, same_sqT e h2⟩⟩
theorem StepsAt.nil {K : Fr} {H : Hp} : StepsAt K H [] [] := ⟨rfl, fun i x h => by simp at h⟩
theorem StepsAt.snoc {K : Fr} {H : Hp} {as : List Addr} {st : List Stp} {a : Addr} {x : Stp} (h : StepsAt K H as st) (ha : SqT K H a (stV x)) : StepsAt K H (as ++ [a]) (st ++ [x]) := by
  refine ⟨by simp [h.len], fun i y hy => ?_⟩
  by_cases hi : i < st.length
  · rw [List.getElem?_append_left hi] at hy
    obtain ⟨b, h1, h2⟩ := h.at_ i y hy
    exact ⟨b, by rw [List.getElem?_append_left (by rw [h.len]; exact hi)]; exact h1, h2⟩
  · rw [List.getElem?_append_right (by omega)] at hy
    have hi0 : i - st.length = 0 := by
      have := (List.getElem?_eq_some_iff.mp hy).1
      simp at this
      omega
    rw [hi0] at hy
    have e : x = y := by simpa using hy
    subst e
    exact ⟨a, by rw [List.getElem?_append_right (by rw [h.len]; omega), h.len, hi0]; rfl, ha⟩
/-- the fields of a span: where it begins, the keys ahead of it -/
def spF (x : Stp) (s n : Nat) : List (Str × V) := match x with
  | .wr w => [("begin", .int s), ("end", .int (s + w.length : Nat)), ("key", .int n), ("source", .int 0), ("width", .int 0)]
  | .pa f l t => [("begin", .int s), ("end", .int (s + (l + 1 - f) * t : Nat)), ("key", .non), ("source", .int f), ("width", .int (l + 1 - f : Nat))]
structure SpansAt (CS : Addr) (H : Hp) (ss : List Addr) (st : List Stp) : Prop where
  len : ss.length = st.length
  at_ : ∀ (i : Nat) (x : Stp), st[i]? = some x → ∃ a dx, ss[i]? = some a ∧ H a = some (.ins CS dx (spF x (sz (st.take i)) (nk (st.take i))))
theorem SpansAt.same {CS : Addr} {H H2 : Hp} {ss : List Addr} {st : List Stp} (h : SpansAt CS H ss st) (e : Same H H2) : SpansAt CS H2 ss st :=
  ⟨h.len, fun i x hx => let ⟨a, dx, h1, h2⟩ := h.at_ i x hx; ⟨a, dx, h1, e _ _ h2⟩⟩
theorem SpansAt.nil {CS : Addr} {H : Hp} : SpansAt CS H [] [] := ⟨rfl, fun i x h => by simp at h⟩
theorem SpansAt.snoc {CS : Addr} {H : Hp} {ss : List Addr} {st : List Stp} {a dx : Addr} {x : Stp} (h : SpansAt CS H ss st) (ha : H a = some (.ins CS dx (spF x (sz st) (nk st)))) : SpansAt CS H (ss ++ [a]) (st ++ [x]) := by
  refine ⟨by simp [h.len], fun i y hy => ?_⟩
  by_cases hi : i < st.length
  · rw [List.getElem?_append_left hi] at hy
    obtain ⟨b, d, h1, h2⟩ := h.at_ i y hy
    refine ⟨b, d, by rw [List.getElem?_append_left (by rw [h.len]; exact hi)]; exact h1, ?_⟩
    rw [List.take_append_of_le_length (by omega)]
    exact h2
  · rw [List.getElem?_append_right (by omega)] at hy
    have hi0 : i - st.length = 0 := by
      have := (List.getElem?_eq_some_iff.mp hy).1
      simp at this
      omega
    rw [hi0] at hy
    have e : x = y := by simpa using hy
    subst e
    have hi1 : i = st.length := by omega
    refine ⟨a, dx, by rw [List.getElem?_append_right (by rw [h.len]; omega), h.len, hi0]; rfl, ?_⟩
    rw [hi1, List.take_left]
    exact ha
/-- the fields of a text -/
def txF (ts sp : Addr) (st : List Stp) : List (Str × V) := [("_steps", .ref ts), ("spans", .ref sp), ("_size", .int (sz st)), ("_typed", .str (sL (typed st)))]
def most : Nat := 1000000000000000000
/-- the text of the steps st stands at x -/
structure TextAt (K : Fr) (CT CS : Addr) (H : Hp) (x : Addr) (st : List Stp) : Prop where
  good : Goes most 0 st
  few : st.length ≤ 30
  obj : ∃ dx ts sp as ss, H x = some (.ins CT dx (txF ts sp st)) ∧ SqT K H ts (as.map V.ref) ∧ StepsAt K H as st ∧ SqT K H sp (ss.map V.ref) ∧ SpansAt CS H ss st
theorem TextAt.same {K : Fr} {CT CS : Addr} {H H2 : Hp} {x : Addr} {st : List Stp} (h : TextAt K CT CS H x st) (e : Same H H2) : TextAt K CT CS H2 x st := by
  obtain ⟨dx, ts, sp, as, ss, h1, h2, h3, h4, h5⟩ := h.obj
  exact ⟨h.good, h.few, dx, ts, sp, as, ss, e _ _ h1, same_sqT e h2, h3.same e, same_sqT e h4, h5.same e⟩
theorem sz_most {st : List Stp} (h : Goes most 0 st) : sz st ≤ most := by
  cases st with
  | nil => exact Nat.zero_le _
  | cons x r =>
    have := goes_sz h (by simp)
    rwa [Nat.zero_add] at this
end Pk
/-! ## Comprehensions that change nothing; walks -/
namespace Pk
open PySem PySem.Spec PyProof.Rows L2
theorem walk_enumT {K : Fr} {a : Addr} {xs : List V} : Walk (IteT K a) xs.length (fun H => SqT K H a xs) (YPair (fun i => some (.int (i : Nat))) (fun i => xs[i]?)) := by
  refine ⟨fun i _ hi q => ⟨xs, xs[i], q, by simp [hi]⟩, fun _ q => ⟨xs, q, Nat.le_refl _⟩, fun i H v H2 _ q y => ?_⟩
  obtain ⟨T, x, h1, h2, h3, h4⟩ := y
  exact ⟨T, .int (i : Nat), x, h1, h2, h3, rfl, h4 xs q⟩
/-! ### rules told of K by name: for a comprehension's block -/
section
variable {X : Cx}
theorem ixT (K : Fr) (h : X.K = K := by rfl) : IxR X (rIxT K) := h ▸ ix_tup
theorem ixL (K : Fr) (h : X.K = K := by rfl) : IxR X (rIxL K) := h ▸ ix_list
theorem slL (K : Fr) (h : X.K = K := by rfl) : SlR X (rSlL K) := h ▸ sl_list
theorem slT (K : Fr) (h : X.K = K := by rfl) : SlR X (rSlT K) := h ▸ sl_tup
theorem lenQ (K : Fr) (h : X.K = K := by rfl) : CallR X (.builtin "len") (fun xs H Q => ∃ p ys, xs = [.ref p] ∧ (SqL K H p ys ∨ SqT K H p ys) ∧ Q (.int ys.length) H) := h ▸ call_len_seq
theorem fldK (K : Fr) {e : Expr} {f : Str} {ta : TE} {pos : Pos} (ha : PE X e ta) (hb : attributeBase e f X.env (eval e X.env) = eval e X.env := by rfl) (h : X.K = K := by rfl) : PE X (.Attribute e f pos) (tFld K ta f) := by
  subst h
  exact pe_fld ha hb
end
section
variable {J : It} {n : Nat} {G : Hp → Prop} {Y : Nat → Hp → V → Hp → Prop} {g : TG} {te : TE} {tt : TT} {vs : List Nat} {σ : L2.St} {H1 : Hp} {D : Addr} {Qd : Hp → Prop}
/-- the values that a comprehension keeps -/
def keeps (n : Nat) (f : Nat → Bool) (v : Nat → V) : List V := ((List.range n).filter f).map v
theorem keeps_succ (n : Nat) (f : Nat → Bool) (v : Nat → V) : keeps (n + 1) f v = if f n = true then keeps n f v ++ [v n] else keeps n f v := by
  unfold keeps
  rw [List.range_succ, List.filter_append]
  by_cases h : f n = true
  · simp [h]
  · simp [h]
theorem keeps_le (n : Nat) (f : Nat → Bool) (v : Nat → V) : (keeps n f v).length ≤ n := by
  unfold keeps
  rw [List.length_map]
  exact Nat.le_trans (List.length_filter_le _ _) (by simp)
/-- with a test -/
theorem lc_keep (wk : Walk J n G Y) (hD : H1 D = none) (f : Nat → Bool) (v : Nat → V) (hn : n ≤ sizeLine) (hG : ∀ H, Same H1 H → G H)
    (hs : ∀ i x H H2 (N : VK) (N0 : Hp → Prop), i < n → Same H1 H → Y i H x H2 → (f i = true → ∀ H5, Same H H5 → N (v i) H5) → (f i = false → ∀ H5, Same H H5 → N0 H5) →
      g x (wipe σ vs) H2 fun σ2 H3 => wipe σ2 vs = wipe σ vs ∧ tt σ2 H3 fun b H4 => if b = true then te σ2 H4 N else N0 H4)
    (hd : ∀ H, Same H1 H → H D = some (.lst (keeps n f v)) → Qd H) :
    ∃ W : Nat → Nat → Hp → Prop, (∃ m, W 0 m (upd H1 D (.lst []))) ∧ ∀ i m H, W i m H →
      (J.stop i H ∧ Qd H) ∨ (J.go i H ∧ ∃ Nx : Hp → Prop, (∀ H', Nx H' → ∃ m', m' < m ∧ W (i + 1) m' H') ∧ ∀ x H', J.yld i H x H' → g x (wipe σ vs) H' fun σ2 H2 => wipe σ2 vs = wipe σ vs ∧ tt σ2 H2 fun b H3 =>
        if b = true then te σ2 H3 fun y H4 => ∃ acc, H4 D = some (.lst acc) ∧ acc.length < sizeLine ∧ Nx (upd H4 D (.lst (acc ++ [y]))) else Nx H3) := by
  refine lc_it wk (fun i H => Same H1 H ∧ H D = some (.lst (keeps i f v))) ⟨same_upd hD, upd_same⟩ (fun i H _ p => hG H p.1) ?_ fun H p => hd H p.1 p.2
  intro i x H H2 hi p y
  obtain ⟨p1, p2⟩ := p
  refine hs i x H H2 _ _ hi p1 y (fun hb H5 s5 => ?_) fun hb H5 s5 => ?_
  · refine ⟨_, s5 _ _ p2, Nat.lt_of_le_of_lt (keeps_le i f v) (by omega), fun b o e => ?_, ?_⟩
    · by_cases hbD : b = D
      · rw [hbD, hD] at e
        cases e
      · rw [upd_ne hbD]
        exact s5 _ _ (p1 _ _ e)
    · rw [upd_same, keeps_succ, if_pos hb]
  · refine ⟨p1.trans s5, ?_⟩
    rw [s5 _ _ p2, keeps_succ, hb]
    rfl
/-- without a test -/
theorem lc_map (wk : Walk J n G Y) (hD : H1 D = none) (v : Nat → V) (hn : n ≤ sizeLine) (hG : ∀ H, Same H1 H → G H)
    (hs : ∀ i x H H2 (N : VK), i < n → Same H1 H → Y i H x H2 → (∀ H5, Same H H5 → N (v i) H5) → g x (wipe σ vs) H2 fun σ2 H3 => wipe σ2 vs = wipe σ vs ∧ te σ2 H3 N)
    (hd : ∀ H, Same H1 H → H D = some (.lst ((List.range n).map v)) → Qd H) :
    ∃ W : Nat → Nat → Hp → Prop, (∃ m, W 0 m (upd H1 D (.lst []))) ∧ ∀ i m H, W i m H →
      (J.stop i H ∧ Qd H) ∨ (J.go i H ∧ ∃ Nx : Hp → Prop, (∀ H', Nx H' → ∃ m', m' < m ∧ W (i + 1) m' H') ∧ ∀ x H', J.yld i H x H' → g x (wipe σ vs) H' fun σ2 H2 => wipe σ2 vs = wipe σ vs ∧ tYes σ2 H2 fun b H3 =>
        if b = true then te σ2 H3 fun y H4 => ∃ acc, H4 D = some (.lst acc) ∧ acc.length < sizeLine ∧ Nx (upd H4 D (.lst (acc ++ [y]))) else Nx H3) := by
  refine lc_it wk (fun i H => Same H1 H ∧ H D = some (.lst ((List.range i).map v))) ⟨same_upd hD, upd_same⟩ (fun i H _ p => hG H p.1) ?_ fun H p => hd H p.1 p.2
  intro i x H H2 hi p y
  obtain ⟨p1, p2⟩ := p
  refine hs i x H H2 (fun y H4 => ∃ acc, H4 D = some (.lst acc) ∧ acc.length < sizeLine ∧ _) hi p1 y fun H5 s5 => ?_
  refine ⟨_, s5 _ _ p2, by rw [List.length_map, List.length_range]; omega, fun b o e => ?_, ?_⟩
  · by_cases hbD : b = D
    · rw [hbD, hD] at e
      cases e
    · rw [upd_ne hbD]
      exact s5 _ _ (p1 _ _ e)
  · rw [upd_same, List.range_succ, List.map_append]
    rfl
end
end Pk
namespace Pk
open PySem PySem.Spec PyProof.Rows L2
def tCO (C : Addr) (sp : Sp) (tf : TE) (t : TA) : TE := fun σ H Q => tf σ H fun y H1 => ∃ a, y = V.ref a ∧ t σ H1 fun vs H2 => (∃ dx fs, H2 a = some (.ins C dx fs)) ∧ sp (V.ref a :: vs) H2 Q E0
theorem pk_callO {X : Cx} {k : Nat} {C g : Addr} {sp : Sp} {fe e : Expr} {es : List Expr} {tf : TE} {t : TA} {pos : Pos} (hf : PE X fe tf) (c : StX.CallO X.K C g) (G : Kp X.prog X.w X.K X.mg X.base k g sp) (hr : Room k X.A) (ha : PA X (e :: es) t)
    (ht : eval (.Call fe (e :: es) [] pos) X.env = (do callWith pos (← eval fe X.env) [] (backTo pos (starEach (e :: es) X.env)) (backToKw pos (keywordEach [] X.env))) := by rfl)
    (he : starEach (e :: es) X.env = (false, eval e X.env) :: starEach es X.env := by rfl) (hpl : (backTo pos (starEach es X.env)).any (·.1) = false := by rfl) : PE X (.Call fe (e :: es) [] pos) (tCO C sp tf t) := ⟨fun pins s σ H Q I h => by
  refine Call_ (thn (hf.run pins s σ H _ I h) fun u s1 k1 => ?_) ht
  obtain ⟨y, H1, I1, ry, a, ey, q⟩ := k1
  subst ey
  obtain rfl : u = Value.ref a := ry
  refine StX.callO_with (thn (ha.run pos pins s1 σ H1 _ I1 q) fun us s2 k2 => ?_) he hpl
  obtain ⟨vs, H2, I2, r, hi, q2⟩ := k2
  obtain ⟨ox, od, J, hd⟩ := StX.insC_at I2 (.inr hi)
  exact ⟨⟨C, ox, od, J, hd⟩, StX.run_callO c G.fnR hr pass0 I2 (.inr hi) r q2⟩⟩
theorem vals_idx : ∀ (xs : List V) (us : List Value), xs.length = us.length → (∀ (j : Nat) x u, xs[j]? = some x → us[j]? = some u → RelV x u) → Vals xs us
  | [], [], _, _ => .nil
  | [], _ :: _, h, _ => by cases h
  | _ :: _, [], h, _ => by cases h
  | x :: xs, u :: us, h, k => .cons (k 0 x u rfl rfl) (vals_idx xs us (by simpa using h) fun j y v hy hv => k (j + 1) y v hy hv)
/-- list(s), s a text -/
def rListS : List V → Hp → VK → Prop := fun xs H Q => ∃ z : Str, xs = [.str z] ∧ z.length ≤ sizeLine ∧ ∀ l, H l = none → Q (.ref l) (upd H l (.lst (z.cps.toList.map fun c => V.str ⟨#[c]⟩)))
theorem call_listS {X : Cx} (hc : X.calm = true) : CallR X (.type "list") rListS := by
  intro pins s σ H xs us Q I r h
  obtain ⟨z, rfl, hz, q⟩ := h
  obtain ⟨u, rfl, t, rfl⟩ := vals1 r
  refine call_list_str (I.ok.hd hc) z t (fun h1 tk acc c1 hk e hi => ?_) (by rw [sizeLine_eq] at *; exact hz)
  refine ⟨.ref s.heap.objs.size, upd H s.heap.objs.size (.lst (z.cps.toList.map fun c => V.str ⟨#[c]⟩)), I.laid hk (Nat.le_refl _) (show ObjOk X.prog X.w _ _ _ (.lst _) from ⟨?_, acc.toList, c1, ?_, ?_⟩), rfl, q _ (I.hok.fresh (Nat.le_refl _))⟩
  · rw [List.length_map]
    exact hz
  · obtain ⟨h1, h2⟩ := hi
    refine vals_idx _ _ (by simp [h1]) fun j x u hx hu => ?_
    obtain ⟨c, t2, hc2, rfl⟩ := h2 j u (by rw [← hu, Array.getElem?_toList])
    rw [List.getElem?_map, Array.getElem?_toList, hc2] at hx
    cases hx
    exact ⟨t2, rfl⟩
  · rw [Array.toArray_toList]
    exact e
end Pk
namespace Pk
open PySem PySem.W PySem.Calls PyProof.Rows He He5
/-- what isinstance of the class itself asks, beyond its class facts -/
def insB (K : Frag) (C : Addr) : Bool := eqO (findIn K (.ref C) "__class__") (some (some (.builtin "object.__class__"))) && (eqO (specialIn K (.builtin "object.__class__") "__get__") (some (some (.builtin "getset_descriptor.__get__"))) &&
  (decide (takesIn K (.builtin "object.__class__") = some true) && (decide (mroIn K C (.type "object") = some true) && decide (kitOne K (.ref C) (.ref C) = some true))))
theorem ins_ok {K : Frag} {C : Addr} (c : L2.Cls K C) (h : insB K C = true) : C8.InsC K C := by
  obtain ⟨h1, h⟩ := ba h
  obtain ⟨h2, h⟩ := ba h
  obtain ⟨h3, h⟩ := ba h
  obtain ⟨h4, h5⟩ := ba h
  exact ⟨c, eqO_ok h1, eqO_ok h2, of_decide_eq_true h3, of_decide_eq_true h4, of_decide_eq_true h5⟩
end Pk
namespace Pk
open PySem PySem.W PySem.Calls PyProof.Rows He He5
/-- isinstance of the class: of a tuple it says no -/
def insTB (K : Frag) (C : Addr) : Bool := decide (kitOne K (.type "tuple") (.ref C) = some false)
end Pk
/-! ## a[i], x in a, a == b, a != b of an own class -/
namespace Pk
open PySem PySem.Spec PyProof.Rows L2
section
variable {X : Cx} {CX : CXT} {k : Nat} {C f : Addr} {sp : Sp} {E : XK}
theorem pe_getO {a b : Expr} {ta tb : TE} {pos : Pos} (hs : OpF X.K C "__getitem__" f) (F : FnR X.prog X.w X.K X.mg X.base CX k f sp) (hr : Room (k + 1) X.A) (hx : Passes CX X E) (ha : PE X a ta) (hb : PE X b tb)
    (hsl : ∀ o i, subscripted b true o i = runValue (.builtin "lifetime.subscript" ⟨[o, i], []⟩) := by intro _ _; rfl) : PE X (.Subscript a b pos) (tOp (rGetO C sp E) ta tb) := ⟨fun pins s σ H Q I h => by
  refine Subscript_ (binT ha hb I h fun v u s2 x y H2 I2 rx ry q => ?_)
  obtain ⟨a0, da, fa, ex, hA, q⟩ := q
  subst ex
  cases rx
  obtain ⟨mA, O, _⟩ := ins_get I2.hok hA
  obtain ⟨oa, JA, _⟩ := O.look
  obtain ⟨m, hF⟩ := I2.fr
  exact PySem.W.sub_K hF I2.ok.mod.kin JA hs.at_ hs.fi hs.fn (wpAny_call (codeAny_mono (SlX.run_at (us := [.ref a0, u]) (ws := [V.ref a0, y]) F hr.in1 I2.env0.in1 hx I2 (.cons rfl (.cons ry .nil)) q) fun r s3 hq => by
    cases r with
    | error e => exact hq
    | ok fl => cases fl with
      | ret w => exact hq
      | _ => exact hq.elim)) (hsl _ _)⟩
theorem op_inO (hs : OpF X.K C "__contains__" f) (F : FnR X.prog X.w X.K X.mg X.base CX k f sp) (hr : Room k X.A) (hx : Passes CX X E) : OpR X (compareOp .In) (rInO C sp E) := by
  intro pins s σ H x y v u Q I rx ry ⟨a, da, fa, ey, hA, q⟩
  subst ey
  cases ry
  obtain ⟨mA, O, _⟩ := ins_get I.hok hA
  obtain ⟨oa, JA, _⟩ := O.look
  obtain ⟨m, hF⟩ := I.fr
  refine PySem.W.in_K hF I.ok.mod.kin JA hs.at_ hs.fn (wpAny_call (codeAny_mono (run_fnR (us := [.ref a, v]) (vs := [V.ref a, x]) F hr hx I (.cons rfl (.cons rx .nil)) q) fun r s3 hq => ?_))
  cases r with
  | error e => exact hq
  | ok fl => cases fl with
    | ret w =>
      obtain ⟨z, H3, I3, rz, b, eb, q3⟩ := hq
      subst eb
      cases rz
      exact wpAny_truthy_bool ⟨.bl b, H3, I3, rfl, q3⟩
    | _ => exact hq.elim
/-- a == y: y of the class too, or a tuple -/
def rEqO (K : PySem.W.Frag) (C : Addr) (sp : Sp) (E : XK) : R2 := fun x y H Q => ∃ a da fa, x = .ref a ∧ H a = some (.ins C da fa) ∧ ((∃ b db fb, y = .ref b ∧ H b = some (.ins C db fb)) ∨ ∃ t xs, y = .ref t ∧ SqT K H t xs ∧ PySem.W.subIn K (.type "tuple") (.ref C) = some false) ∧ sp [x, y] H Q E
theorem looks_ty {h : Heap} {M : Model} {b : Addr} {o : Obj} {t : Value} (e : h.get? b = some o) (c : o.cls = t) : PySem.W.Looks M h (typeOf (.ref b)) t := fun A Q E s k q => wpAny_typeOf_ref (k _ _ e) (by rw [c]; exact q)
theorem op_eqO (hs : OpF X.K C "__eq__" f) (F : FnR X.prog X.w X.K X.mg X.base CX k f sp) (hr : Room k X.A) (hx : Passes CX X E) : OpR X (compareOp .Eq) (rEqO X.K C sp E) := by
  intro pins s σ H x y v u Q I rx ry ⟨a, da, fa, ex, hA, hy, q⟩
  subst ex
  cases rx
  obtain ⟨mA, O, _⟩ := ins_get I.hok hA
  obtain ⟨oa, JA, _⟩ := O.look
  obtain ⟨m, hF⟩ := I.fr
  have hu : X.A.units < cLine := by have := hr.units; omega
  have run : wpAny (model X.prog X.w) X.A (call (.ref f) [.ref a, u]) (PySem.W.CmpBack (EP X pins σ Q)) X.xe s := wpAny_call (codeAny_mono (run_fnR (us := [.ref a, u]) (vs := [V.ref a, y]) F hr hx I (.cons rfl (.cons ry .nil)) q) fun r s3 hq => by
    cases r with
    | error e => exact hq
    | ok fl => cases fl with
      | ret w => exact cmp_back hq
      | _ => exact hq.elim)
  show wpAny _ _ (richCompare .Eq (.ref a) u) _ _ _
  rcases hy with ⟨b, db, fb, ey, hB⟩ | ⟨t, xs, ey, hT, hsub⟩
  · subst ey
    cases ry
    obtain ⟨mB, O2, _⟩ := ins_get I.hok hB
    obtain ⟨ob, JB, _⟩ := O2.look
    exact PySem.W.cmp_K (op := .Eq) hu hF I.ok.mod.kin JA JB.type (by unfold PySem.W.notFirst; simp) hs.at_ hs.fn run
  · subst ey
    cases ry
    obtain ⟨its, rv, ⟨o, ho, hc, _⟩, _⟩ := I.tuple hT
    exact PySem.W.cmp_K (op := .Eq) hu hF I.ok.mod.kin JA (looks_ty ho hc) (by unfold PySem.W.notFirst; rw [hsub]; simp) hs.at_ hs.fn run
end
end Pk
/-! ## a != b: the class has __eq__ alone -/
namespace Pk
open PySem PySem.Spec PyProof.Rows L2
/-- a built-in slot, asked for if it is bound -/
theorem bound_b {M : Model} {A : Around} {E : Value → Shared → Prop} {s : Shared} {me : Value} {nm : PySem.Str} {id : String} {rest : List Value} {Q : Option Value → Shared → Prop} (sp : PySem.W.Looks M s.heap (specialOf me nm) (some (.builtin id)))
    (hb : bindSpecial (.builtin id) me = pure (.builtin id, [me])) (hc : wpAny M A (call (.builtin id) (me :: rest)) (fun v => Q (some v)) E s) : wpAny M A (callSpecialIfBound? me nm rest) Q E s := by
  simp only [callSpecialIfBound?, bindSpecialIfBound?]
  refine wpAny_holding (wpAny_bind (wpAny_bind (sp.here ?_)))
  simp only [hb]
  refine wpAny_bind (wpAny_askSetting (wpAny_ite ?_))
  have fin : wpAny M A (call (.builtin id) ([me] ++ rest) >>= fun v => pure (some v)) Q E s := wpAny_bind (wpAny_mono hc (fun v s2 z => wpAny_pure z) fun _ _ z => z)
  split
  · exact wpAny_bind (wpAny_pure (wpAny_pure fin))
  · exact wpAny_tryCatch (wpAny_bind (wpAny_pure (wpAny_pure fin)))
section
variable {prog : Program} {w : World} {A : Around} {E : Value → Shared → Prop} {s : Shared} {K : PySem.W.Frag} {x y C f : Addr} {ox oy : Obj} {od od2 : Option Obj} {h0 : Heap} {L : Addr}
theorem ne_entry {Q : PySem.Fin → Shared → Prop} (X : K.In s.heap) (J : PySem.W.InstAt s.heap x ox C od) (hs : OpF K C "__eq__" f) (hu : A.units < cLine)
    (hc : wpAny (model prog w) A (call (.ref f) [.ref x, .ref y]) (fun v s2 => ∃ b, v = .bool b ∧ Q (.done (.ret (.bool (!b)))) s2) E s) : wpAny (model prog w) A (Builtin.«object.__ne__» ⟨[.ref x, .ref y], []⟩) Q E s := by
  obtain ⟨hp, g, d, tk, os⟩ := s
  unfold Builtin.«object.__ne__»
  repeat (first
    | with_reducible refine wpAny_cRoomFor hu ?_
    | (refine wpAny_bind (m := callSpecialIfBound? (.ref x) (Str.ofString "__eq__") [.ref y])
        (PySem.W.ifBound_K X J hs.at_ hs.fn (wpAny_mono hc (fun r s2 z => by
          obtain ⟨b, rfl, q⟩ := z
          repeat (first | exact q | exact wpAny_pure q | exact wpAny_truthy_bool q | (refine wpAny_bind (m := truthy (.bool _)) (wpAny_truthy_bool ?_)) | wp_step)) fun _ _ z => z)))
    | wp_step)
end
/-- a != b, both of the class -/
def rNeO (C : Addr) (sp : Sp) (E : XK) : R2 := fun x y H Q => ∃ a b da fa db fb, x = .ref a ∧ y = .ref b ∧ H a = some (.ins C da fa) ∧ H b = some (.ins C db fb) ∧ sp [x, y] H (fun v H2 => ∃ r, v = .bl r ∧ Q (.bl (!r)) H2) E
section
variable {X : Cx} {CX : CXT} {k : Nat} {C f : Addr} {sp : Sp} {E : XK}
theorem op_neO (hs : OpF X.K C "__eq__" f) (hne : PySem.W.findIn X.K (.ref C) "__ne__" = some (some (.builtin "object.__ne__"))) (hm : PySem.W.mroIn X.K C (.type "object") = some true) (F : FnR X.prog X.w X.K X.mg X.base CX k f sp) (hr : Room (k + 1) X.A) (hx : Passes CX X E) : OpR X (compareOp .NotEq) (rNeO C sp E) := by
  intro pins s σ H x y v u Q I rx ry ⟨a, b, da, fa, db, fb, ex, ey, hA, hB, q⟩
  subst ex ey
  cases rx
  cases ry
  obtain ⟨mA, O, _⟩ := ins_get I.hok hA
  obtain ⟨oa, JA, _⟩ := O.look
  obtain ⟨mB, O2, _⟩ := ins_get I.hok hB
  obtain ⟨ob, JB, _⟩ := O2.look
  have XK := I.kIn
  have hu : X.A.units + 1 < cLine := by have := hr.units; omega
  have run : wpAny (model X.prog X.w) X.A.in1 (call (.ref f) [.ref a, .ref b]) (fun v s2 => ∃ r, v = .bool r ∧ EP X pins σ Q (.bool (!r)) s2) X.xe s := wpAny_call (codeAny_mono (SlX.run_at (us := [.ref a, .ref b]) (ws := [V.ref a, V.ref b]) F hr.in1 I.env0.in1 hx I (.cons rfl (.cons rfl .nil)) q) fun r s3 hq => by
    cases r with
    | error e => exact hq
    | ok fl => cases fl with
      | ret w =>
        obtain ⟨z, H3, I3, rz, r, er, q3⟩ := hq
        subst er
        cases rz
        exact ⟨r, rfl, .bl (!r), H3, I3, rfl, q3⟩
      | _ => exact hq.elim)
  have sub : PySem.W.Looks (model X.prog X.w) s.heap (isInstance (.ref a) (.type "object")) true := JA.type.andThen (PySem.W.looks_mroIn XK hm)
  have spl : PySem.W.Looks (model X.prog X.w) s.heap (specialOf (.ref a) "__ne__") (some (.builtin "object.__ne__")) := JA.type.andThen (PySem.W.looks_findIn XK hne)
  have one : wpAny (model X.prog X.w) X.A (tryCompare (.ref a) "__ne__" (.ref b)) (fun r s2 => ∃ v, r = some v ∧ EP X pins σ Q v s2) X.xe s := by
    unfold tryCompare
    refine wpAny_bind (bound_b spl (PySem.F.slot_object_ne.bind _) (wpAny_call (codeAny_call_builtin PySem.F.slot_object_ne.plain PySem.F.cmpEntry_ne (PySem.W.check_slot PySem.F.cmpKind_ne PySem.F.cmpSplit_ne sub (PySem.F.cmpArgs_ne _ _)
      (ne_entry XK JA hs (show X.A.in1.units < cLine from hu) (wpAny_mono run (fun v s2 z => ?_) fun _ _ z => z))))))
    obtain ⟨r, rfl, q2⟩ := z
    refine ⟨r, rfl, ?_⟩
    exact wpAny_pure ⟨_, rfl, q2⟩
  show wpAny _ _ (richCompare .NotEq (.ref a) (.ref b)) _ _ _
  unfold richCompare
  simp only [oneThing_ref]
  refine wpAny_holding (wpAny_bind (wpAny_cRoomFor (Nat.lt_of_succ_lt hu) ?_))
  rw [cmpInfo_NotEq]
  dsimp only
  refine wpAny_bind (JA.type.here (wpAny_bind (JB.type.here ?_)))
  rw [show (Value.ref C != Value.ref C) = false from by simp]
  simp only [Bool.false_eq_true, if_false]
  refine wpAny_bind (wpAny_pure ?_)
  simp only [Bool.false_eq_true, if_false]
  refine wpAny_bind (wpAny_mono one (fun r s2 z => ?_) fun _ _ z => z)
  obtain ⟨v, rfl, q2⟩ := z
  exact wpAny_pure q2
end
end Pk
/-! ## t[::-1], t a tuple -/
namespace Pk
open PySem PySem.Spec PyProof.Rows L2
theorem adjust_back (n : Nat) : Builtin.Slice.sliceAdjust none none (-1) (n : Int) = ((n : Int) - 1, -1) := by
  unfold Builtin.Slice.sliceAdjust
  simp
theorem places_back (n : Nat) : Builtin.Slice.slicePlaces ((n : Int) - 1) (-1) (-1) = n := by
  unfold Builtin.Slice.slicePlaces
  simp
  omega
theorem fm_congr {α β : Type} {f g : α → Option β} : ∀ {l : List α}, (∀ x ∈ l, f x = g x) → l.filterMap f = l.filterMap g
  | [], _ => rfl
  | a :: r, h => by
    rw [List.filterMap_cons, List.filterMap_cons, h a List.mem_cons_self, fm_congr fun x hx => h x (List.mem_cons_of_mem _ hx)]
theorem pick_back (xs : List Value) : ((List.range xs.length).filterMap fun (m : Nat) => xs.toArray[(((xs.length : Int) - 1) + (m : Int) * (-1)).toNat]?) = xs.reverse := by
  have e : ∀ m ∈ List.range xs.length, xs.toArray[(((xs.length : Int) - 1) + (m : Int) * (-1)).toNat]? = xs.reverse[m]? := fun m hm => by
    rw [List.mem_range] at hm
    have h : (((xs.length : Int) - 1) + (m : Int) * (-1)).toNat = xs.length - 1 - m := by omega
    rw [h, List.getElem?_reverse hm]
    simp
  rw [fm_congr e]
  have hl : xs.length = xs.reverse.length := List.length_reverse.symm
  rw [hl]
  generalize xs.reverse = ys
  refine List.ext_getElem? fun i => ?_
  induction ys generalizing i with
  | nil => rfl
  | cons y r ih =>
    rw [List.length_cons, List.range_succ_eq_map, List.filterMap_cons]
    simp only [List.getElem?_cons_zero, List.filterMap_map]
    cases i with
    | zero => rfl
    | succ i =>
      rw [List.getElem?_cons_succ, List.getElem?_cons_succ]
      exact ih i
section
variable {prog : Program} {w : World} {A : Around} {E : Value → Shared → Prop} {s : Shared}
theorem tuple_back {t sl : Addr} {items : List Value} {vl vu vs : Value} {Q : Value → Shared → Prop} (ht : IsTup s.heap t items.toArray) (hs : s.heap.IsSliceOf sl vl vu vs) (pl : IsPart vl none) (pu : IsPart vu none) (ps : IsPart vs (some (-1)))
    (h : Q (.ref s.heap.objs.size) { s with heap := s.heap.push { cls := .type "tuple", data := .seq items.reverse.toArray } }) (hsz : items.length ≤ sizeLine) : wpAny (model prog w) A (getItem (.ref t) (.ref sl)) Q E s := by
  have hok : sizeOk (.seq items.reverse.toArray) := by
    show items.reverse.toArray.size ≤ sizeLine
    rw [List.size_toArray, List.length_reverse]
    exact hsz
  obtain ⟨os, hos, hcs, hds⟩ := id hs
  have isl : s.TypeIs (.ref sl) "slice" := ⟨os, hos, hcs⟩
  unfold getItem
  try with_reducible refine wpAny_holding ?_
  first | refine wpAny_bind (wpAny_pure ?_) | skip
  refine wpAny_bind (wpAny_sequenceKey ht.typeIs (by decide) ?_)
  refine wpAny_bind (wpAny_callSpecial?_slot (name := Str.ofString "__getitem__") ht.typeIs PyProof.Rows.slot_tuple_getitem (wpAny_call_entry PyProof.Rows.slot_tuple_getitem ht.typeIs entry_tuple_getitem ?_ (args_tuple_getitem _ _)))
  change wpAny _ _ (Builtin.Tuple.tupleItemsOf (Value.ref t) >>= _) _ _ s
  refine wpAny_bind (tupleItemsOf_ ht ?_)
  refine wpAny_bind (wpAny_typeOf isl ?_)
  rw [if_pos (by decide)]
  have app : ∀ {R : Int × Int × Nat → Shared → Prop}, R ((items.length : Int) - 1, -1, items.length) s → wpAny (model prog w) A.in1 (Builtin.Slice.sliceApplied (.ref sl) (pure (items.toArray.size : Int))) R E s := fun {R} q => by
    unfold Builtin.Slice.sliceApplied Builtin.Slice.sliceFields
    refine wpAny_bind (wpAny_bind (wpAny_field hos hds (x := vl) rfl (wpAny_bind (wpAny_field hos hds (x := vu) rfl (wpAny_bind (wpAny_field hos hds (x := vs) rfl (wpAny_pure ?_)))))))
    refine wpAny_bind (HT.slicePart_ ps ?_)
    change wpAny _ _ (if ((-1 : Int) == 0) = true then _ else _) _ _ s
    rw [if_neg (by decide)]
    refine wpAny_bind (HT.slicePart_ pl (wpAny_bind (HT.slicePart_ pu (wpAny_bind (wpAny_pure ?_)))))
    change wpAny _ _ (match Builtin.Slice.sliceAdjust none none (-1) (items.toArray.size : Int) with | (lo, hi) => pure (lo, (-1 : Int), Builtin.Slice.slicePlaces lo hi (-1))) _ _ s
    rw [List.size_toArray, adjust_back]
    change wpAny _ _ (pure ((items.length : Int) - 1, (-1 : Int), Builtin.Slice.slicePlaces ((items.length : Int) - 1) (-1) (-1))) _ _ s
    rw [places_back]
    exact wpAny_pure q
  refine wpAny_bind (app ?_)
  have no : ¬ ((((items.length : Int) - 1) == 0 && (-1 : Int) == 1 && items.length == items.toArray.size) = true) := by
    intro q
    rw [Bool.and_eq_true, Bool.and_eq_true] at q
    exact absurd q.1.2 (by decide)
  change wpAny _ _ (if (((items.length : Int) - 1) == 0 && (-1 : Int) == 1 && items.length == items.toArray.size) = true then _ else _) _ _ s
  rw [if_neg no, pick_back]
  first
    | exact wpAny_bind (m := Builtin.Tuple.tupleExact _) (wpAny_newObj_type (wpAny_pure ⟨_, rfl, wpAny_pure h⟩) hok)
    | exact wpAny_bind (m := Builtin.Tuple.tupleExact _) (wpAny_newObj_type (wpAny_bind (wpAny_pure (wpAny_pure ⟨_, rfl, wpAny_pure h⟩))) hok)
    | exact wpAny_bind (wpAny_bind (m := Builtin.Tuple.tupleExact _) (wpAny_newObj_type (wpAny_pure (wpAny_pure ⟨_, rfl, wpAny_pure h⟩)) hok))
    | exact wpAny_bind (wpAny_bind (m := Builtin.Tuple.tupleExact _) (wpAny_newObj_type (wpAny_pure ⟨_, rfl, wpAny_pure h⟩) hok))
end
def tRevT (K : PySem.W.Frag) (te : TE) : TE := fun σ H Q => te σ H fun x H1 => ∃ a xs, x = .ref a ∧ SqT K H1 a xs ∧ ∀ p, H1 p = none → Q (.ref p) (upd H1 p (.tup xs.reverse))
theorem pe_revT {X : Cx} {e : Expr} {te : TE} {k : Nat} {p1 p2 p3 pos : Pos} (he : PE X e te) : PE X (.Subscript e (.Slice none none (some (.UnaryOp .USub (.Constant (.int 1) k p1) p2)) p3) pos) (tRevT X.K te) := ⟨fun pins s σ H Q I h => by
  refine Subscript_ (thn (he.run pins s σ H _ I h) fun v s1 k1 => ?_)
  obtain ⟨x, H1, I1, r1, a, xs, ex, hx, q⟩ := k1
  subst ex
  cases r1
  have hst : PO X (some (.UnaryOp .USub (.Constant (.int 1) k p1) p2)) (tPart (tUn (rU fun i => .int (-i)) (tC (.int 1)))) := po_some (pe_un un_neg pe_int)
  refine wpAny_Slice (thn (po_none.run pins s1 σ H1 (fun o H2 => o = none ∧ H2 = H1) I1 ⟨rfl, rfl⟩) fun vl s2 k2 => ?_)
  obtain ⟨l, H2, I2, pl, el, e2⟩ := k2
  subst el e2
  refine thn (po_none.run pins s2 σ H2 (fun o H3 => o = none ∧ H3 = H2) I2 ⟨rfl, rfl⟩) fun vu s3 k3 => ?_
  obtain ⟨u, H3, I3, pu, eu, e3⟩ := k3
  subst eu e3
  refine thn (hst.run pins s3 σ H3 (fun o H4 => o = some (-1) ∧ H4 = H3) I3 ⟨1, rfl, -1, rfl, rfl, rfl⟩) fun vs s4 k4 => ?_
  obtain ⟨o, H4, I4, ps, eo, e4⟩ := k4
  subst eo e4
  have I5 : Inv X pins σ H4 { s4 with heap := s4.heap.push { cls := .type "slice", data := .fields #[vl, vu, vs] } } := I4.kept (t' := s4.toks) fun b ob q => Heap.get?_push_of_some _ q
  obtain ⟨its, r, ht, hz⟩ := I5.tuple hx
  have hlen := r.length
  change wpAny (model X.prog X.w) X.A (subscriptTail e (.Slice none none (some (.UnaryOp .USub (.Constant (.int 1) k p1) p2)) p3) (.ref a) (.ref s4.heap.objs.size)) (EP X pins σ Q) X.xe { s4 with heap := s4.heap.push { cls := .type "slice", data := .fields #[vl, vu, vs] } }
  refine tail_any (ops := [.ref a, .ref s4.heap.objs.size]) ht.typeIs (PyProof.Rows.slot_tuple_getitem.lookup) ?_ (by with_unfolding_all rfl)
  refine tuple_back ht (Heap.IsSliceOf.new _ vl vu vs) pl pu ps ?_ (by omega)
  refine ⟨.ref _, _, I5.laid (t' := s4.toks) (o := .tup xs.reverse) (fun b ob q => Heap.get?_push_of_some _ q) (Nat.le_refl _) ?_, rfl, q _ (I5.hok.fresh (Nat.le_refl _))⟩
  exact ⟨by rw [List.length_reverse]; exact hz, _, r.reverse, IsTup.new _ _⟩⟩
end Pk
/-! ## xs[i] += e, a list, i from 0 -/
namespace Pk
open PySem PySem.Spec PyProof.Rows L2
def rGetL (K : PySem.W.Frag) : V → V → Hp → VK → Prop := fun o i H Q => ∃ (p : Addr) (xs : List V) (n : Nat) (z : V), o = .ref p ∧ i = .int (n : Nat) ∧ SqL K H p xs ∧ xs[n]? = some z ∧ Q z H
theorem get_listP {X : Cx} : PGet X (rGetL X.K) := by
  intro pins s σ H o i ov iv Q I ro ri h
  obtain ⟨p, xs, n, z, rfl, rfl, hq, he, q⟩ := h
  cases ro
  obtain ⟨t, rfl⟩ := ri
  obtain ⟨its, r, pl, hz⟩ := I.list hq
  obtain ⟨u, hu, ru⟩ := r.get he
  have hl := r.length
  have hn := line63
  have fin : EP X pins σ Q u s := ⟨z, H, I, ru, q⟩
  have hlt : n < its.length := (List.getElem?_eq_some_iff.mp hu).1
  exact wpAny_getItem_list pl.isList (by omega) (by omega) (by simpa using hu) fin
end Pk
/-! ## Numbers that stand in the order in which they come first -/
namespace Pk
open PySem L2
def InOrd : Nat → List Nat → Prop
  | _, [] => True
  | n, k :: r => k ≤ n ∧ InOrd (if k = n then n + 1 else n) r
def fin : Nat → List Nat → Nat
  | n, [] => n
  | n, k :: r => fin (if k = n then n + 1 else n) r
theorem fin_app : ∀ (n : Nat) (a b : List Nat), fin n (a ++ b) = fin (fin n a) b
  | _, [], _ => rfl
  | n, k :: r, b => fin_app _ r b
theorem inOrd_app : ∀ {n : Nat} {a b : List Nat}, InOrd n a → InOrd (fin n a) b → InOrd n (a ++ b)
  | _, [], _, _, h => h
  | n, k :: r, b, h, h2 => ⟨h.1, inOrd_app h.2 h2⟩
theorem inOrd_left : ∀ {n : Nat} {a b : List Nat}, InOrd n (a ++ b) → InOrd n a ∧ InOrd (fin n a) b
  | _, [], _, h => ⟨trivial, h⟩
  | n, k :: r, b, h => let ⟨h1, h2⟩ := inOrd_left (a := r) h.2; ⟨⟨h.1, h1⟩, h2⟩
theorem ord_range : ∀ (m n : Nat), InOrd n (List.range' n m) ∧ fin n (List.range' n m) = n + m
  | 0, n => ⟨trivial, rfl⟩
  | m + 1, n => by
    obtain ⟨h1, h2⟩ := ord_range m (n + 1)
    rw [List.range'_succ]
    refine ⟨⟨Nat.le_refl _, ?_⟩, ?_⟩
    · rw [if_pos rfl]
      exact h1
    · show fin (if n = n then n + 1 else n) _ = _
      rw [if_pos rfl, h2]
      omega
theorem ord_lt : ∀ {n : Nat} {l : List Nat}, (∀ k ∈ l, k < n) → InOrd n l ∧ fin n l = n
  | _, [], _ => ⟨trivial, rfl⟩
  | n, k :: r, h => by
    have h0 := h k (List.mem_cons_self)
    obtain ⟨h1, h2⟩ := ord_lt (l := r) fun j hj => h j (List.mem_cons_of_mem _ hj)
    have e : (if k = n then n + 1 else n) = n := if_neg (by omega)
    refine ⟨⟨by omega, ?_⟩, ?_⟩
    · rw [e]
      exact h1
    · show fin (if k = n then n + 1 else n) r = n
      rw [e]
      exact h2
theorem exF_ord : ∀ (st : List Stp) (E : List Nat) (n : Nat), InOrd 0 E → fin 0 E = n → (∀ k ∈ E, k < n) → InOrd 0 (exF E n st) ∧ fin 0 (exF E n st) = n + nk st ∧ ∀ k ∈ exF E n st, k < n + nk st
  | [], E, n, h1, h2, h3 => ⟨h1, h2, h3⟩
  | .wr w :: r, E, n, h1, h2, h3 => by
    obtain ⟨g1, g2⟩ := ord_range w.length n
    have e : n + nk (.wr w :: r) = (n + w.length) + nk r := by simp [nk, Stp.ks]; omega
    rw [e]
    refine exF_ord r _ _ (inOrd_app h1 (by rw [h2]; exact g1)) (by rw [fin_app, h2, g2]) fun k hk => ?_
    rcases List.mem_append.mp hk with h | h
    · have := h3 k h
      omega
    · rw [List.mem_range'_1] at h
      omega
  | .pa f l t :: r, E, n, h1, h2, h3 => by
    have e : n + nk (.pa f l t :: r) = n + nk r := by simp [nk, Stp.ks]
    rw [e]
    have hl : ∀ k ∈ (List.replicate t ((E.drop f).take (l + 1 - f))).flatten, k < n := fun k hk => by
      obtain ⟨s, hs, hk⟩ := List.mem_flatten.mp hk
      rw [List.eq_of_mem_replicate hs] at hk
      exact h3 k (List.mem_of_mem_drop (List.mem_of_mem_take hk))
    obtain ⟨g1, g2⟩ := ord_lt hl
    refine exF_ord r _ _ (inOrd_app h1 (by rw [h2]; exact g1)) (by rw [fin_app, h2, g2]) fun k hk => ?_
    rcases List.mem_append.mp hk with h | h
    · exact h3 k h
    · exact hl k h
theorem ex_ord (st : List Stp) : InOrd 0 (ex st) := (exF_ord st [] 0 trivial rfl (fun k h => by simp at h)).1
theorem ex_fin (st : List Stp) : fin 0 (ex st) = nk st := by
  have := (exF_ord st [] 0 trivial rfl (fun k h => by simp at h)).2.1
  rwa [Nat.zero_add] at this
theorem ex_lt (st : List Stp) : ∀ k ∈ ex st, k < nk st := by
  have := (exF_ord st [] 0 trivial rfl (fun k h => by simp at h)).2.2
  intro k hk
  have := this k hk
  omega
theorem fin_le : ∀ (n : Nat) (l : List Nat), n ≤ fin n l
  | n, [] => Nat.le_refl _
  | n, k :: r => by
    show n ≤ fin (if k = n then n + 1 else n) r
    refine Nat.le_trans ?_ (fin_le _ r)
    split <;> omega
theorem fin_mem : ∀ {n : Nat} {l : List Nat}, n < fin n l → fin n l - 1 ∈ l
  | n, [], h => absurd h (Nat.lt_irrefl _)
  | n, k :: r, h => by
    by_cases e : k = n
    · have e2 : fin n (k :: r) = fin (n + 1) r := by
        show fin (if k = n then n + 1 else n) r = _
        rw [if_pos e]
      rw [e2] at h ⊢
      by_cases h2 : n + 1 < fin (n + 1) r
      · exact List.mem_cons_of_mem _ (fin_mem h2)
      · have : fin (n + 1) r = n + 1 := by have := fin_le (n + 1) r; omega
        rw [this, ← e]
        exact List.mem_cons_self
    · have e2 : fin n (k :: r) = fin n r := by
        show fin (if k = n then n + 1 else n) r = _
        rw [if_neg e]
      rw [e2] at h ⊢
      exact List.mem_cons_of_mem _ (fin_mem h)
/-- after the first i numbers: what comes next is at most what was seen -/
theorem ord_at {n : Nat} {l : List Nat} {i k : Nat} (h : InOrd n l) (e : l[i]? = some k) : k ≤ fin n (l.take i) ∧ fin n (l.take (i + 1)) = if k = fin n (l.take i) then fin n (l.take i) + 1 else fin n (l.take i) := by
  have hlt : i < l.length := (List.getElem?_eq_some_iff.mp e).1
  have hx : l.drop i = k :: l.drop (i + 1) := by
    rw [List.drop_eq_getElem_cons hlt]
    have := (List.getElem?_eq_some_iff.mp e).2
    rw [this]
  have h2 := (inOrd_left (a := l.take i) (b := l.drop i) (by rw [List.take_append_drop]; exact h)).2
  rw [hx] at h2
  refine ⟨h2.1, ?_⟩
  rw [take_succ e, fin_app]
  rfl
theorem fin_take_le {n : Nat} (l : List Nat) (i : Nat) : fin n (l.take i) ≤ fin n l := by
  have := fin_app n (l.take i) (l.drop i)
  rw [List.take_append_drop] at this
  rw [this]
  exact fin_le _ _
theorem fin_len : ∀ (n : Nat) (l : List Nat), fin n l ≤ n + l.length
  | n, [] => Nat.le_refl _
  | n, k :: r => by
    have := fin_len (if k = n then n + 1 else n) r
    show fin (if k = n then n + 1 else n) r ≤ _
    rw [List.length_cons]
    split at this <;> split <;> omega
/-- numbers that come in order are below what was seen -/
theorem ord_all_lt {l : List Nat} {k : Nat} (h : InOrd 0 l) (hk : k ∈ l) : k < fin 0 l := by
  obtain ⟨i, hi, rfl⟩ := List.mem_iff_getElem.mp hk
  obtain ⟨h1, h2⟩ := ord_at h (List.getElem?_eq_getElem hi)
  have h3 := fin_take_le (n := 0) l (i + 1)
  rw [h2] at h3
  split at h3 <;> omega
end Pk
/-! ## How often a key stands before a place -/
namespace Pk
open PySem L2
def cnt (st : List Stp) (k p : Nat) : Nat := ((ex st).take p).count k
theorem cnt_zero (st : List Stp) (k : Nat) : cnt st k 0 = 0 := rfl
theorem cnt_mono (st : List Stp) (k : Nat) {p q : Nat} (h : p ≤ q) : cnt st k p ≤ cnt st k q := by
  unfold cnt
  exact List.Sublist.count_le _ (List.take_sublist_take_left h)
/-- repeated parts -/
theorem rep_take (seg : List Nat) : ∀ (t m : Nat), m ≤ seg.length * t → (List.replicate t seg).flatten.take m = (List.replicate (m / seg.length) seg).flatten ++ seg.take (m % seg.length)
  | 0, m, h => by
    have hm : m = 0 := by simpa using h
    subst hm
    simp
  | t + 1, m, h => by
    rcases Nat.eq_zero_or_pos seg.length with h0 | h0
    · have : seg = [] := List.length_eq_zero_iff.mp h0
      subst this
      simp
    by_cases hm : m < seg.length
    · rw [List.replicate_succ, List.flatten_cons, List.take_append_of_le_length (by omega), Nat.div_eq_of_lt hm, Nat.mod_eq_of_lt hm]
      simp
    · have hm2 : seg.length ≤ m := by omega
      have e1 : m / seg.length = (m - seg.length) / seg.length + 1 := by
        rw [Nat.div_eq_sub_div h0 hm2]
      have e2 : m % seg.length = (m - seg.length) % seg.length := Nat.mod_eq_sub_mod hm2
      have ih := rep_take seg t (m - seg.length) (by rw [Nat.mul_succ] at h; omega)
      rw [e1, e2, List.replicate_succ, List.flatten_cons, List.take_append, List.take_of_length_le hm2, ih, List.replicate_succ, List.flatten_cons, List.append_assoc]
theorem rep_count (k : Nat) (seg : List Nat) (n : Nat) : ((List.replicate n seg).flatten).count k = n * seg.count k := by
  induction n with
  | zero => simp
  | succ n ih =>
    rw [List.replicate_succ, List.flatten_cons, List.count_append, ih, Nat.succ_mul]
    omega
theorem part_count (E : List Nat) (k f m : Nat) : ((E.drop f).take m).count k = (E.take (f + m)).count k - (E.take f).count k := by
  have e : E.take (f + m) = E.take f ++ (E.drop f).take m := List.take_add
  rw [e, List.count_append]
  omega
/-- the whole is the part ahead of a step, then what the step adds -/
theorem ex_split {most : Nat} {st : List Stp} {i : Nat} {x : Stp} (h : Goes most 0 st) (e : st[i]? = some x) : ∃ A F, ex st = ex (st.take i) ++ (A ++ F) ∧ ex1 (ex (st.take i)) (nk (st.take i)) x = ex (st.take i) ++ A ∧ A.length = x.gr ∧ (ex (st.take i)).length = sz (st.take i) := by
  have hl := ex_len _ (goes_take h i)
  obtain ⟨ok, _⟩ := goes_at h e
  obtain ⟨A, hA⟩ := ex1_pre (ex (st.take i)) (nk (st.take i)) x
  obtain ⟨F, hF⟩ := ex_pre (st.take (i + 1)) (st.drop (i + 1))
  rw [List.take_append_drop, take_succ e, ex_snoc, hA] at hF
  have hlen := ex1_len (E := ex (st.take i)) (n := nk (st.take i)) (x := x) (by rw [hl]; exact ok)
  rw [hA, List.length_append] at hlen
  exact ⟨A, F, by rw [hF, List.append_assoc], hA, by omega, hl⟩
theorem range_count (k : Nat) : ∀ (m n : Nat), (List.range' n m).count k = if n ≤ k ∧ k < n + m then 1 else 0
  | 0, n => by
    rw [if_neg (by omega)]
    rfl
  | m + 1, n => by
    rw [List.range'_succ, List.count_cons, range_count k m (n + 1)]
    have e : (if (n == k) = true then 1 else 0) = if n = k then 1 else 0 := by simp
    rw [e]
    split <;> split <;> split <;> omega
theorem cnt_wr {most : Nat} {st : List Stp} {i : Nat} {w : List Nat} (h : Goes most 0 st) (e : st[i]? = some (.wr w)) (k m : Nat) (hm : m ≤ w.length) :
    cnt st k (sz (st.take i) + m) = cnt st k (sz (st.take i)) + if nk (st.take i) ≤ k ∧ k < nk (st.take i) + m then 1 else 0 := by
  obtain ⟨A, F, h1, h2, h3, h4⟩ := ex_split h e
  have hA : A = List.range' (nk (st.take i)) w.length := (List.append_cancel_left h2).symm
  unfold cnt
  rw [h1, ← h4, List.take_length_add_append, List.take_left, List.count_append, List.take_append_of_le_length (by rw [h3]; exact hm), hA]
  congr 1
  have e3 : (List.range' (nk (st.take i)) w.length).take m = List.range' (nk (st.take i)) m := by
    refine List.ext_getElem (by simp; omega) fun j h1 h2 => ?_
    simp
  rw [e3]
  exact range_count k m _
theorem cnt_pa {most : Nat} {st : List Stp} {i f l t : Nat} (h : Goes most 0 st) (e : st[i]? = some (.pa f l t)) (k m : Nat) (hm : m ≤ (l + 1 - f) * t) :
    cnt st k (sz (st.take i) + m) = cnt st k (sz (st.take i)) + (m / (l + 1 - f)) * (cnt st k (l + 1) - cnt st k f) + (cnt st k (f + m % (l + 1 - f)) - cnt st k f) := by
  obtain ⟨A, F, h1, h2, h3, h4⟩ := ex_split h e
  obtain ⟨ok, _⟩ := goes_at h e
  simp [Stp.ok] at ok
  have hA : A = (List.replicate t (((ex (st.take i)).drop f).take (l + 1 - f))).flatten := (List.append_cancel_left h2).symm
  have hseg : (((ex (st.take i)).drop f).take (l + 1 - f)).length = l + 1 - f := by
    rw [List.length_take, List.length_drop, h4]
    omega
  have low : ∀ q, q ≤ sz (st.take i) → (ex st).take q = (ex (st.take i)).take q := fun q hq => by
    rw [h1, List.take_append_of_le_length (by omega)]
  have hmod : m % (l + 1 - f) < l + 1 - f := Nat.mod_lt _ (by omega)
  unfold cnt
  rw [low (l + 1) (by omega), low f (by omega), low (f + m % (l + 1 - f)) (by omega)]
  rw [h1, ← h4, List.take_length_add_append, List.take_left, List.count_append, List.take_append_of_le_length (by rw [h3]; exact hm), hA, rep_take _ _ _ (by rw [hseg]; exact hm), hseg, List.count_append, rep_count, part_count, List.take_take, Nat.min_eq_left (by omega), part_count]
  rw [show f + (l + 1 - f) = l + 1 by omega]
  omega
/-- behind the end of a text nothing more stands -/
theorem cnt_all {most : Nat} {st : List Stp} (h : Goes most 0 st) (k : Nat) {p : Nat} (hp : sz st ≤ p) : cnt st k p = (ex st).count k := by
  unfold cnt
  rw [List.take_of_length_le (by rw [ex_len _ h]; exact hp)]
end Pk
/-! ## Weights at places -/
namespace Pk
open PySem L2
abbrev WL := List (Nat × Int)
def kvW (W : WL) : List (Key × V) := W.map fun p => ((.inl (p.1 : Int) : Key), V.int p.2)
def val (st : List Stp) (k : Nat) (W : WL) : Int := (W.map fun p => p.2 * (cnt st k p.1 : Int)).sum
def addW : WL → Nat → Int → WL
  | [], p, w => [(p, w)]
  | q :: r, p, w => if q.1 = p then (q.1, q.2 + w) :: r else q :: addW r p w
def dropW (W : WL) (p : Nat) : WL := W.filter fun q => decide (q.1 ≠ p)
def getW : WL → Nat → Int
  | [], _ => 0
  | q :: r, p => if q.1 = p then q.2 else getW r p
theorem val_cons (st : List Stp) (k : Nat) (q : Nat × Int) (W : WL) : val st k (q :: W) = q.2 * (cnt st k q.1 : Int) + val st k W := by simp [val]
theorem val_add (st : List Stp) (k p : Nat) (w : Int) : ∀ W : WL, val st k (addW W p w) = val st k W + w * (cnt st k p : Int)
  | [] => by simp [addW, val]
  | q :: r => by
    unfold addW
    by_cases h : q.1 = p
    · rw [if_pos h, val_cons, val_cons]
      simp only [h]
      rw [Int.add_mul]
      omega
    · rw [if_neg h, val_cons, val_cons, val_add st k p w r]
      omega
theorem keys_add (p : Nat) (w : Int) : ∀ {W : WL} {q : Nat}, q ∈ (addW W p w).map (·.1) ↔ q ∈ W.map (·.1) ∨ q = p
  | [], q => by simp [addW]
  | a :: r, q => by
    unfold addW
    by_cases h : a.1 = p
    · rw [if_pos h]
      simp only [List.map_cons, List.mem_cons]
      constructor
      · intro z
        exact .inl z
      · rintro (z | z)
        · exact z
        · exact .inl (by rw [z, h])
    · rw [if_neg h]
      simp only [List.map_cons, List.mem_cons, keys_add p w (W := r)]
      constructor
      · rintro (z | z | z)
        · exact .inl (.inl z)
        · exact .inl (.inr z)
        · exact .inr z
      · rintro ((z | z) | z)
        · exact .inl z
        · exact .inr (.inl z)
        · exact .inr (.inr z)
theorem nodup_add (p : Nat) (w : Int) : ∀ {W : WL}, (W.map (·.1)).Nodup → ((addW W p w).map (·.1)).Nodup
  | [], _ => by simp [addW]
  | a :: r, h => by
    unfold addW
    rw [List.map_cons, List.nodup_cons] at h
    by_cases e : a.1 = p
    · rw [if_pos e, List.map_cons, List.nodup_cons]
      exact h
    · rw [if_neg e, List.map_cons, List.nodup_cons]
      refine ⟨fun z => ?_, nodup_add p w h.2⟩
      rcases (keys_add p w).mp z with z | z
      · exact h.1 z
      · exact e z
theorem len_add (p : Nat) (w : Int) : ∀ W : WL, (addW W p w).length ≤ W.length + 1
  | [] => by simp [addW]
  | a :: r => by
    unfold addW
    have := len_add p w r
    split <;> simp <;> omega
theorem drop_out {p : Nat} : ∀ {W : WL}, p ∉ W.map (·.1) → dropW W p = W
  | [], _ => rfl
  | a :: r, h => by
    simp only [List.map_cons, List.mem_cons, not_or] at h
    show (a :: r).filter _ = _
    rw [List.filter_cons, if_pos (decide_eq_true (Ne.symm h.1))]
    exact congrArg (a :: ·) (drop_out h.2)
theorem val_drop (st : List Stp) (k p : Nat) : ∀ {W : WL}, (W.map (·.1)).Nodup → val st k (dropW W p) = val st k W - getW W p * (cnt st k p : Int)
  | [], _ => by simp [dropW, val, getW]
  | a :: r, h => by
    rw [List.map_cons, List.nodup_cons] at h
    unfold getW
    by_cases e : a.1 = p
    · rw [if_pos e]
      have hd : dropW (a :: r) p = r := by
        show (a :: r).filter _ = _
        rw [List.filter_cons, if_neg (by simp [e])]
        exact drop_out (W := r) (by rw [← e]; exact h.1)
      rw [hd, val_cons, e]
      omega
    · rw [if_neg e]
      have hd : dropW (a :: r) p = a :: dropW r p := by
        show (a :: r).filter _ = _
        rw [List.filter_cons, if_pos (by simp [e])]
        rfl
      rw [hd, val_cons, val_cons, val_drop st k p h.2]
      omega
theorem keys_drop {W : WL} {p q : Nat} : q ∈ (dropW W p).map (·.1) ↔ q ∈ W.map (·.1) ∧ q ≠ p := by
  unfold dropW
  constructor
  · intro h
    obtain ⟨a, ha, rfl⟩ := List.mem_map.mp h
    rw [List.mem_filter] at ha
    exact ⟨List.mem_map.mpr ⟨a, ha.1, rfl⟩, of_decide_eq_true ha.2⟩
  · rintro ⟨h, hne⟩
    obtain ⟨a, ha, rfl⟩ := List.mem_map.mp h
    exact List.mem_map.mpr ⟨a, List.mem_filter.mpr ⟨ha, decide_eq_true hne⟩, rfl⟩
theorem nodup_drop {W : WL} (p : Nat) (h : (W.map (·.1)).Nodup) : ((dropW W p).map (·.1)).Nodup := by
  unfold dropW
  exact List.Sublist.nodup (List.filter_sublist.map _) h
/-! ### as dicts -/
theorem valV_kv (p : Nat) : ∀ W : WL, (valV (kvW W) (.inl (p : Int))).getD (.int 0) = .int (getW W p)
  | [] => rfl
  | a :: r => by
    unfold getW
    by_cases e : a.1 = p
    · rw [if_pos e]
      show (valV (((.inl (a.1 : Int) : Key), V.int a.2) :: kvW r) _).getD _ = _
      rw [valV_pos (by simp [e])]
      rfl
    · rw [if_neg e]
      show (valV (((.inl (a.1 : Int) : Key), V.int a.2) :: kvW r) _).getD _ = _
      rw [valV_neg (by simp; omega)]
      exact valV_kv p r
theorem valV_in {p : Nat} : ∀ {W : WL}, p ∈ W.map (·.1) → valV (kvW W) (.inl (p : Int)) = some (.int (getW W p))
  | [], h => by simp at h
  | a :: r, h => by
    unfold getW
    by_cases e : a.1 = p
    · rw [if_pos e]
      show valV (((.inl (a.1 : Int) : Key), V.int a.2) :: kvW r) _ = _
      rw [valV_pos (by simp [e])]
    · rw [if_neg e]
      show valV (((.inl (a.1 : Int) : Key), V.int a.2) :: kvW r) _ = _
      rw [valV_neg (by simp; omega)]
      refine valV_in ?_
      simp only [List.map_cons, List.mem_cons] at h
      exact h.resolve_left (Ne.symm e)
theorem dropK_kv (W : WL) (p : Nat) : dropK (kvW W) (.inl (p : Int)) = kvW (dropW W p) := by
  unfold dropK kvW dropW
  rw [List.filter_map]
  congr 1
  refine List.filter_congr fun a _ => ?_
  simp
  omega
theorem any_kv (W : WL) (p : Nat) : ((kvW W).any fun kv => decide (kv.1 = .inl (p : Int))) = decide (p ∈ W.map (·.1)) := by
  rw [Bool.eq_iff_iff, List.any_eq_true, decide_eq_true_iff]
  constructor
  · rintro ⟨x, hx, e⟩
    obtain ⟨a, ha, rfl⟩ := List.mem_map.mp hx
    have e := of_decide_eq_true e
    simp at e
    exact List.mem_map.mpr ⟨a, ha, by omega⟩
  · intro h
    obtain ⟨a, ha, e⟩ := List.mem_map.mp h
    exact ⟨_, List.mem_map.mpr ⟨a, ha, rfl⟩, by simp [e]⟩
theorem addW_in {p : Nat} {w : Int} : ∀ {W : WL}, (W.map (·.1)).Nodup → p ∈ W.map (·.1) → addW W p w = W.map fun q => if q.1 = p then (q.1, getW W p + w) else q
  | [], _, h => by simp at h
  | a :: r, hn, h => by
    rw [List.map_cons, List.nodup_cons] at hn
    unfold addW getW
    by_cases e : a.1 = p
    · rw [if_pos e, List.map_cons, if_pos e, if_pos e]
      congr 1
      refine (List.map_id r).symm.trans (List.map_congr_left fun q hq => ?_)
      have : q.1 ≠ p := fun z => hn.1 (List.mem_map.mpr ⟨q, hq, by rw [z, e]⟩)
      rw [if_neg this]
      rfl
    · simp only [List.map_cons, List.mem_cons] at h
      rw [if_neg e, List.map_cons, if_neg e, if_neg e, addW_in hn.2 (h.resolve_left (Ne.symm e))]
theorem addW_out {p : Nat} {w : Int} : ∀ {W : WL}, p ∉ W.map (·.1) → addW W p w = W ++ [(p, w)]
  | [], _ => rfl
  | a :: r, h => by
    simp only [List.map_cons, List.mem_cons, not_or] at h
    unfold addW
    rw [if_neg (Ne.symm h.1), addW_out h.2]
    rfl
theorem getW_out {p : Nat} : ∀ {W : WL}, p ∉ W.map (·.1) → getW W p = 0
  | [], _ => rfl
  | a :: r, h => by
    simp only [List.map_cons, List.mem_cons, not_or] at h
    unfold getW
    rw [if_neg (Ne.symm h.1), getW_out h.2]
theorem putK_kv {W : WL} (p : Nat) (w : Int) (hn : (W.map (·.1)).Nodup) : putK (kvW W) (.inl (p : Int)) (.int (getW W p + w)) = kvW (addW W p w) := by
  unfold putK
  rw [any_kv]
  by_cases h : p ∈ W.map (·.1)
  · rw [decide_eq_true h, if_pos rfl, addW_in hn h]
    unfold kvW
    rw [List.map_map, List.map_map]
    refine List.map_congr_left fun q _ => ?_
    simp only [Function.comp]
    by_cases e : q.1 = p
    · rw [if_pos (by simp [e]), if_pos e]
    · rw [if_neg (by simp; omega), if_neg e]
  · rw [decide_eq_false h, if_neg (by decide), addW_out h, getW_out h, Int.zero_add]
    simp [kvW]
end Pk
namespace Pk
open PySem L2
theorem val_zero (st : List Stp) (k : Nat) : ∀ {W : WL}, (∀ q ∈ W.map (·.1), q = 0) → val st k W = 0
  | [], _ => rfl
  | a :: r, h => by
    rw [val_cons, val_zero st k fun q hq => h q (List.mem_cons_of_mem _ hq), h a.1 List.mem_cons_self, cnt_zero]
    simp
theorem nodup_len : ∀ (M : Nat) {l : List Nat}, l.Nodup → (∀ q ∈ l, q < M) → l.length ≤ M
  | 0, l, _, h => by
    cases l with
    | nil => exact Nat.le_refl _
    | cons a r => exact absurd (h a List.mem_cons_self) (by omega)
  | M + 1, l, hn, h => by
    have h1 := nodup_len M (l := l.filter fun q => decide (q ≠ M)) (List.Sublist.nodup List.filter_sublist hn) fun q hq => by
      rw [List.mem_filter] at hq
      have h2 := h q hq.1
      have h3 : q ≠ M := of_decide_eq_true hq.2
      omega
    have h4 : l.length ≤ (l.filter fun q => decide (q ≠ M)).length + 1 := by
      clear h1 h
      induction l with
      | nil => simp
      | cons a r ih =>
        rw [List.nodup_cons] at hn
        by_cases e : a = M
        · have : r.filter (fun q => decide (q ≠ M)) = r := List.filter_eq_self.mpr fun q hq => decide_eq_true fun z => hn.1 (by rw [e, ← z]; exact hq)
          rw [List.filter_cons, if_neg (by simp [e]), this]
          exact Nat.le_refl _
        · rw [List.filter_cons, if_pos (by simp [e]), List.length_cons, List.length_cons]
          have := ih hn.2
          omega
    omega
theorem nodup_sub : ∀ {l m : List Nat}, l.Nodup → (∀ q ∈ l, q ∈ m) → l.length ≤ m.length
  | [], _, _, _ => Nat.zero_le _
  | a :: r, m, hn, h => by
    rw [List.nodup_cons] at hn
    have ha : a ∈ m := h a List.mem_cons_self
    have ih := nodup_sub (l := r) (m := m.erase a) hn.2 fun q hq => by
      have hqa : q ≠ a := fun z => hn.1 (by rw [← z]; exact hq)
      exact (List.mem_erase_of_ne hqa).mpr (h q (List.mem_cons_of_mem _ hq))
    have hl := List.length_erase_of_mem ha
    have hp : 0 < m.length := List.length_pos_of_mem ha
    rw [List.length_cons]
    omega
theorem filter_two (l : List Nat) (p : Nat → Bool) : (l.filter p).length + (l.filter fun q => !p q).length = l.length := by
  induction l with
  | nil => rfl
  | cons a r ih =>
    rw [List.filter_cons, List.filter_cons]
    cases h : p a <;> simp <;> omega
theorem keeps_filter (l : List Nat) (p : Nat → Bool) (g : Nat → V) : keeps l.length (fun i => p (l.getD i 0)) (fun i => g (l.getD i 0)) = (l.filter p).map g := by
  unfold keeps
  have h : ∀ m, m ≤ l.length → ((List.range m).filter fun i => p (l.getD i 0)).map (fun i => g (l.getD i 0)) = ((l.take m).filter p).map g := by
    intro m
    induction m with
    | zero => intro _; simp
    | succ m ih =>
      intro hm
      have e : l[m]? = some (l[m]'(by omega)) := List.getElem?_eq_getElem (by omega)
      have e2 : l.getD m 0 = l[m]'(by omega) := by rw [List.getD_eq_getElem?_getD, e]; rfl
      rw [List.range_succ, List.filter_append, List.map_append, ih (by omega), take_succ e, List.filter_append, List.map_append]
      congr 1
      rw [List.filter_cons, List.filter_cons, e2]
      split
      · show [g (l.getD m 0)] = [g (l[m]'(by omega))]
        rw [e2]
      · rfl
  have := h l.length (Nat.le_refl _)
  rwa [List.take_length] at this
/-- what a step of the walk back does to the weights: a written span -/
theorem val_wr {st : List Stp} {i : Nat} {w : List Nat} (h : Goes most 0 st) (e : st[i]? = some (.wr w)) {W : WL} (hn : (W.map (·.1)).Nodup) {p m : Nat} (hp : p = sz (st.take i) + m) (hm : m ≤ w.length) (k : Nat) :
    val st k (addW (dropW W p) (sz (st.take i)) (getW W p)) + (if nk (st.take i) ≤ k ∧ k < nk (st.take i) + m then getW W p else 0) = val st k W := by
  rw [val_add, val_drop st k p hn, hp, cnt_wr h e k m hm]
  split <;> simp only [Int.natCast_add, Int.mul_add, Int.natCast_one, Int.mul_one, Int.natCast_zero, Int.mul_zero] <;> omega
theorem val_pa {st : List Stp} {i f l t : Nat} (h : Goes most 0 st) (e : st[i]? = some (.pa f l t)) {W : WL} (hn : (W.map (·.1)).Nodup) {p m : Nat} (hp : p = sz (st.take i) + m) (hm : m ≤ (l + 1 - f) * t) (k : Nat) :
    val st k (addW (addW (addW (addW (dropW W p) (sz (st.take i)) (getW W p)) (l + 1) (((m / (l + 1 - f) : Nat) : Int) * getW W p)) (f + m % (l + 1 - f)) (getW W p)) f (-(((m / (l + 1 - f) : Nat) : Int) + 1) * getW W p)) = val st k W := by
  obtain ⟨ok, _⟩ := goes_at h e
  simp [Stp.ok] at ok
  have h1 := cnt_mono st k (show f ≤ l + 1 by omega)
  have h2 := cnt_mono st k (show f ≤ f + m % (l + 1 - f) by omega)
  rw [val_add, val_add, val_add, val_add, val_drop st k p hn, hp, cnt_pa h e k m hm]
  generalize cnt st k (l + 1) = A at *
  generalize cnt st k f = F at *
  generalize cnt st k (f + m % (l + 1 - f)) = B at *
  generalize cnt st k (sz (st.take i)) = S at *
  generalize m / (l + 1 - f) = c at *
  generalize getW W (sz (st.take i) + m) = x at *
  obtain ⟨a, rfl⟩ : ∃ a, A = F + a := ⟨A - F, by omega⟩
  obtain ⟨b, rfl⟩ : ∃ b, B = F + b := ⟨B - F, by omega⟩
  rw [Nat.add_sub_cancel_left, Nat.add_sub_cancel_left]
  simp only [Int.natCast_add, Int.natCast_mul, Int.mul_add, Int.add_mul, Int.neg_mul, Int.one_mul, Int.mul_assoc, Int.neg_add]
  have e1 : x * ((c : Int) * (a : Int)) = (c : Int) * (x * (a : Int)) := by rw [← Int.mul_assoc, Int.mul_comm x, Int.mul_assoc]
  rw [e1]
  omega
end Pk
namespace Pk
open PySem L2
def cV (N : Nat) (g : Nat → Int) : List V := (List.range N).map fun k => V.int (g k)
theorem cV_len (N : Nat) (g : Nat → Int) : (cV N g).length = N := by simp [cV]
theorem cV_get {N n : Nat} (g : Nat → Int) (h : n < N) : (cV N g)[n]? = some (V.int (g n)) := by simp [cV, h]
theorem cV_set {N j : Nat} (g : Nat → Int) (z : Int) : (cV N g).set j (V.int z) = cV N fun k => if k = j then z else g k := by
  refine List.ext_getElem? fun i => ?_
  rw [List.getElem?_set, cV_len]
  by_cases e : j = i
  · subst e
    rw [if_pos rfl]
    by_cases h : j < N
    · rw [if_pos h, cV_get _ h, if_pos rfl]
    · rw [if_neg h, List.getElem?_eq_none (by rw [cV_len]; omega)]
  · rw [if_neg e]
    by_cases h : i < N
    · rw [cV_get _ h, cV_get _ h, if_neg (Ne.symm e)]
    · rw [List.getElem?_eq_none (by rw [cV_len]; omega), List.getElem?_eq_none (by rw [cV_len]; omega)]
theorem cV_congr {N : Nat} {g h : Nat → Int} (e : ∀ k, k < N → g k = h k) : cV N g = cV N h := by
  unfold cV
  refine List.map_congr_left fun k hk => ?_
  rw [e k (List.mem_range.mp hk)]
theorem rev_at {α : Type} {l : List α} {j : Nat} {x : α} (h : l.reverse[j]? = some x) : j < l.length ∧ l[l.length - 1 - j]? = some x := by
  have hj : j < l.length := by
    have := (List.getElem?_eq_some_iff.mp h).1
    rwa [List.length_reverse] at this
  rw [List.getElem?_reverse hj] at h
  exact ⟨hj, h⟩
end Pk
/-! ## Often wanted: divmod of great numbers, tests, heaps -/
namespace Pk
open PySem PySem.Spec PyProof.Rows L2
theorem b_divmod : bootBuiltins "divmod" = some (.builtin "divmod") := by decide +kernel
theorem divp {i j : Int} (h : 0 < j) (hj : j < 18446744073709551616) : CDivP i j := by
  refine ⟨h, PyProof.noPylong_of_log2 ?_⟩
  exact Nat.lt_of_lt_of_le (PySem.Flt.log2_lt_of (k := 64) (by decide) (by omega)) (by decide)
/-! ### tests -/
theorem iT {b : Bool} {A B : Prop} (h : b = true) (a : A) : if b = true then A else B := by rw [if_pos h]; exact a
theorem iF {b : Bool} {A B : Prop} (h : b = false) (a : B) : if b = true then A else B := by rw [h]; exact iteF a
theorem iB {P A B : Prop} [Decidable P] (h1 : P → A) (h2 : ¬ P → B) : if decide P = true then A else B := by
  by_cases h : P
  · rw [decide_eq_true h]; exact iteT (h1 h)
  · rw [decide_eq_false h]; exact iteF (h2 h)
theorem iBn {P A B : Prop} [Decidable P] (h1 : ¬ P → A) (h2 : P → B) : if (!decide P) = true then A else B := by
  by_cases h : P
  · rw [decide_eq_true h]; exact iteF (h2 h)
  · rw [decide_eq_false h]; exact iteT (h1 h)
theorem dT {P : Prop} [Decidable P] (h : P) : decide P = true := decide_eq_true h
theorem dF {P : Prop} [Decidable P] (h : ¬ P) : decide P = false := decide_eq_false h
theorem nT {b : Bool} (h : b = false) : (!b) = true := by rw [h]; rfl
theorem nF {b : Bool} (h : b = true) : (!b) = false := by rw [h]; rfl
theorem vT {i j : Int} (h : i = j) : decide (V.int i = V.int j) = true := decide_eq_true (by rw [h])
theorem vF {i j : Int} (h : ¬ i = j) : decide (V.int i = V.int j) = false := decide_eq_false (fun z => h (by injection z))
theorem sT {i j : Str} (h : i = j) : decide (V.str i = V.str j) = true := decide_eq_true (by rw [h])
theorem sF {i j : Str} (h : ¬ i = j) : decide (V.str i = V.str j) = false := decide_eq_false (fun z => h (by injection z))
theorem iV {i j : Int} {A B : Prop} (h1 : i = j → A) (h2 : ¬ i = j → B) : if decide (V.int i = V.int j) = true then A else B := iB (fun e => h1 (by injection e)) fun e => h2 fun z => e (by rw [z])
theorem iVn {i j : Int} {A B : Prop} (h1 : ¬ i = j → A) (h2 : i = j → B) : if (!decide (V.int i = V.int j)) = true then A else B := iBn (fun e => h1 fun z => e (by rw [z])) fun e => h2 (by injection e)
theorem andT {a b : Bool} (h1 : a = true) (h2 : b = true) : (a && b) = true := by rw [h1, h2]; rfl
theorem andF1 {a b : Bool} (h1 : a = false) : (a && b) = false := by rw [h1]; rfl
theorem andF2 {a b : Bool} (h1 : b = false) : (a && b) = false := by rw [h1, Bool.and_false]
/-! ### heaps -/
theorem but_refl {r : Addr} {H : Hp} : But r H H := But.refl r H
/-- an object of one's own, new since H, is stored again -/
theorem same_own {H H1 : Hp} {p : Addr} {o : HO} (s : Same H H1) (h : H p = none) : Same H (upd H1 p o) := fun b u e => by
  rw [upd_ne (ne_of_none e h)]
  exact s _ _ e
theorem but_new {r : Addr} {H H1 H2 : Hp} (s : Same H H1) (b : But r H1 H2) (n : H r = none) : Same H H2 := fun q o e => b _ _ (ne_of_none e n) (s _ _ e)
theorem but_own {r : Addr} {H H1 : Hp} {p : Addr} {o : HO} (s : But r H H1) (h : H p = none) : But r H (upd H1 p o) := fun b u n e => by
  rw [upd_ne (ne_of_none e h)]
  exact s _ _ n e
theorem but_set {r : Addr} {H H1 : Hp} {o : HO} (s : But r H H1) : But r H (upd H1 r o) := fun b u n e => by
  rw [upd_ne n]
  exact s _ _ n e
theorem at_upd {H : Hp} {p q : Addr} {o u : HO} (n : p ≠ q) (h : H p = some o) : upd H q u p = some o := by rw [upd_ne n]; exact h
theorem qInt {Q : VK} {H : Hp} {i j : Int} (h : Q (.int i) H) (e : i = j) : Q (.int j) H := e ▸ h
theorem qBl {Q : VK} {H : Hp} {i j : Bool} (h : Q (.bl i) H) (e : i = j) : Q (.bl j) H := e ▸ h
theorem qStr {Q : VK} {H : Hp} {i j : Str} (h : Q (.str i) H) (e : i = j) : Q (.str j) H := e ▸ h
theorem lst_eq {H : Hp} {p : Addr} {a b : List V} (h : H p = some (.lst a)) (e : a = b) : H p = some (.lst b) := e ▸ h
theorem tup_eq {H : Hp} {p : Addr} {a b : List V} (h : H p = some (.tup a)) (e : a = b) : H p = some (.tup b) := e ▸ h
theorem small_ok {n : Nat} (h : n ≤ 16000000) : n ≤ sizeLine := Nat.le_trans h (by decide)
theorem small_lt {n : Nat} (h : n ≤ 16000000) : n < sizeLine := Nat.lt_of_le_of_lt h (by decide)
end Pk
/-! ## frames where tables of code objects may grow -/
namespace Pk
open PySem PySem.Spec PyProof.Rows L2 LamX
/-- it is no table -/
abbrev NT (o : HO) : Prop := ∀ ps, o ≠ .tbl ps
theorem ExtN.same {H H1 : Hp} (s : Same H H1) : ExtN H H1 := fun b o e _ => s b o e
theorem ext_new {r : Addr} {H H1 H2 : Hp} (s : ExtN H H1) (b : But r H1 H2) (n : H r = none) : ExtN H H2 := fun q o e z => b _ _ (ne_of_none e n) (s _ _ e z)
theorem ext_own {H H1 : Hp} {p : Addr} {o : HO} (s : ExtN H H1) (h : H p = none) : ExtN H (upd H1 p o) := fun b u e z => by
  rw [upd_ne (ne_of_none e h)]
  exact s _ _ e z
theorem ExtN.at_ {H H1 : Hp} {b : Addr} {o : HO} (s : ExtN H H1) (h : H b = some o) (n : NT o := by intro _ z; cases z) : H1 b = some o := s b o h n
theorem sqT_extN {K : Fr} {H H2 : Hp} {a : Addr} {xs : List V} (e : ExtN H H2) (h : SqT K H a xs) : SqT K H2 a xs := by
  rcases h with (h | ⟨o, h⟩) | h
  · exact .inl (.inl (e _ _ h fun _ z => by cases z))
  · exact .inl (.inr ⟨o, e _ _ h fun _ z => by cases z⟩)
  · exact .inr h
theorem sqL_extN {K : Fr} {H H2 : Hp} {a : Addr} {xs : List V} (e : ExtN H H2) (h : SqL K H a xs) : SqL K H2 a xs := by
  rcases h with (h | ⟨o, h⟩) | h
  · exact .inl (.inl (e _ _ h fun _ z => by cases z))
  · exact .inl (.inr ⟨o, e _ _ h fun _ z => by cases z⟩)
  · exact .inr h
theorem StepsAt.extN {K : Fr} {H H2 : Hp} {as : List Addr} {st : List Stp} (h : StepsAt K H as st) (e : ExtN H H2) : StepsAt K H2 as st :=
  ⟨h.len, fun i x hx => let ⟨a, h1, h2⟩ := h.at_ i x hx; ⟨a, h1, sqT_extN e h2⟩⟩
theorem SpansAt.extN {CS : Addr} {H H2 : Hp} {ss : List Addr} {st : List Stp} (h : SpansAt CS H ss st) (e : ExtN H H2) : SpansAt CS H2 ss st :=
  ⟨h.len, fun i x hx => let ⟨a, dx, h1, h2⟩ := h.at_ i x hx; ⟨a, dx, h1, Pk.ExtN.at_ e h2⟩⟩
theorem TextAt.extN {K : Fr} {CT CS : Addr} {H H2 : Hp} {x : Addr} {st : List Stp} (h : TextAt K CT CS H x st) (e : ExtN H H2) : TextAt K CT CS H2 x st := by
  obtain ⟨dx, ts, sp, as, ss, h1, h2, h3, h4, h5⟩ := h.obj
  exact ⟨h.good, h.few, dx, ts, sp, as, ss, Pk.ExtN.at_ e h1, sqT_extN e h2, h3.extN e, sqT_extN e h4, h5.extN e⟩
/-- all but r and the tables -/
def Gr (r : Addr) (H H2 : Hp) : Prop := ∀ b o, b ≠ r → NT o → H b = some o → H2 b = some o
theorem Gr.refl {r : Addr} {H : Hp} : Gr r H H := fun _ _ _ _ h => h
theorem Gr.trans {r : Addr} {H H1 H2 : Hp} (a : Gr r H H1) (b : Gr r H1 H2) : Gr r H H2 := fun c o n z h => b c o n z (a c o n z h)
theorem But.gr {r : Addr} {H H1 : Hp} (a : But r H H1) : Gr r H H1 := fun c o n _ h => a c o n h
theorem Same.gr {r : Addr} {H H1 : Hp} (a : Same H H1) : Gr r H H1 := fun c o _ _ h => a c o h
theorem ExtN.gr {r : Addr} {H H1 : Hp} (a : ExtN H H1) : Gr r H H1 := fun c o _ n h => a c o h n
theorem gr_own {r : Addr} {H H1 : Hp} {p : Addr} {o : HO} (s : Gr r H H1) (h : H p = none) : Gr r H (upd H1 p o) := fun b u n z e => by
  rw [upd_ne (ne_of_none e h)]
  exact s _ _ n z e
theorem gr_set {r : Addr} {H H1 : Hp} {o : HO} (s : Gr r H H1) : Gr r H (upd H1 r o) := fun b u n z e => by
  rw [upd_ne n]
  exact s _ _ n z e
theorem gr_new {r p : Addr} {H H1 H2 : Hp} (s : Gr r H H1) (b : But p H1 H2) (n : H p = none) : Gr r H H2 := fun q o e z h => b _ _ (ne_of_none h n) (s _ _ e z h)
theorem sqT_gr {K : Fr} {H H2 : Hp} {r a : Addr} {xs ys : List V} (hr : H r = some (.lst ys)) (g : Gr r H H2) (h : SqT K H a xs) : SqT K H2 a xs := by
  rcases h with (h | ⟨o, h⟩) | h
  · exact .inl (.inl (g _ _ (ne_of h hr (by intro z; cases z)) (fun _ z => by cases z) h))
  · exact .inl (.inr ⟨o, g _ _ (ne_of h hr (by intro z; cases z)) (fun _ z => by cases z) h⟩)
  · exact .inr h
theorem steps_gr {K : Fr} {H H2 : Hp} {r : Addr} {ys : List V} {as : List Addr} {st : List Stp} (hr : H r = some (.lst ys)) (g : Gr r H H2) (h : StepsAt K H as st) : StepsAt K H2 as st :=
  ⟨h.len, fun i x hx => let ⟨a, h1, h2⟩ := h.at_ i x hx; ⟨a, h1, sqT_gr hr g h2⟩⟩
theorem spans_gr {CS : Addr} {H H2 : Hp} {r : Addr} {ys : List V} {ss : List Addr} {st : List Stp} (hr : H r = some (.lst ys)) (g : Gr r H H2) (h : SpansAt CS H ss st) : SpansAt CS H2 ss st :=
  ⟨h.len, fun i x hx => let ⟨a, dx, h1, h2⟩ := h.at_ i x hx; ⟨a, dx, h1, g _ _ (ne_of h2 hr (by intro z; cases z)) (fun _ z => by cases z) h2⟩⟩
theorem text_gr {K : Fr} {CT CS : Addr} {H H2 : Hp} {r x : Addr} {ys : List V} {st : List Stp} (hr : H r = some (.lst ys)) (g : Gr r H H2) (h : TextAt K CT CS H x st) : TextAt K CT CS H2 x st := by
  obtain ⟨dx, ts, sp, as, ss, h1, h2, h3, h4, h5⟩ := h.obj
  exact ⟨h.good, h.few, dx, ts, sp, as, ss, g _ _ (ne_of h1 hr (by intro z; cases z)) (fun _ z => by cases z) h1, sqT_gr hr g h2, steps_gr hr g h3, sqT_gr hr g h4, spans_gr hr g h5⟩
/-! ### the tables that are known -/
def TbAt (T : List (Addr × Str)) (H : Hp) : Prop := Tabs T H
theorem TbAt.tabs {T : List (Addr × Str)} {H : Hp} (t : TbAt T H) : Tabs T H := t
theorem TbAt.same {T : List (Addr × Str)} {H H2 : Hp} (t : TbAt T H) (s : Same H H2) : TbAt T H2 := Tabs.ext (show Tabs T H from t) s
theorem TbAt.but {T : List (Addr × Str)} {H H2 : Hp} {r : Addr} {o : HO} (t : TbAt T H) (hr : H r = some o) (n : NT o) (n2 : ∀ φ, o ≠ .ext φ) (b : But r H H2) : TbAt T H2 := fun p hp => by
  obtain ⟨ps, h1, h2, h3⟩ := t p hp
  refine ⟨ps, b _ _ (ne_of h1 hr fun z => n ps z.symm) h1, h2, fun pos cv hc => ?_⟩
  obtain ⟨c, e1, e2⟩ := h3 pos cv hc
  exact ⟨c, e1, b _ _ (ne_of e2 hr fun z => n2 _ z.symm) e2⟩
theorem TbAt.butL {T : List (Addr × Str)} {H H2 : Hp} {r : Addr} {ys : List V} (t : TbAt T H) (hr : H r = some (.lst ys)) (b : But r H H2) : TbAt T H2 := t.but hr (by intro _ z; cases z) (by intro _ z; cases z) b
theorem TbAt.butO {T : List (Addr × Str)} {H H2 : Hp} {r C d : Addr} {fs : List (Str × V)} (t : TbAt T H) (hr : H r = some (.ins C d fs)) (b : But r H H2) : TbAt T H2 := t.but hr (by intro _ z; cases z) (by intro _ z; cases z) b
theorem TbAt.butD {T : List (Addr × Str)} {H H2 : Hp} {r : Addr} {kv : List (Key × V)} (t : TbAt T H) (hr : H r = some (.dK kv)) (b : But r H H2) : TbAt T H2 := t.but hr (by intro _ z; cases z) (by intro _ z; cases z) b
theorem TbAt.sub {T T2 : List (Addr × Str)} {H : Hp} (t : TbAt T H) (h : ∀ p ∈ T2, p ∈ T) : TbAt T2 H := fun p hp => t p (h p hp)
theorem l2_app {a b : List Nat} {r r' : List V} (h : V.str (sL (a ++ b)) :: r = r') : V.str (sL a ++ sL b) :: r = r' := by
  rw [sL_app]
  exact h
end Pk
/-! ## Rules for values of several kinds at once, told of K by name -/
namespace Pk
open PySem PySem.Spec PyProof.Rows L2
section
variable {X : Cx}
theorem SlR.or {r r' : V → Option Int → Option Int → Hp → VK → Prop} (h : SlR X r) (h' : SlR X r') : SlR X (fun x l u H Q => r x l u H Q ∨ r' x l u H Q) := by
  intro pins s σ H x v vl vu lo hi sl Q I rx hs pl pu q
  rcases q with q | q
  · exact h pins s σ H x v vl vu lo hi sl Q I rx hs pl pu q
  · exact h' pins s σ H x v vl vu lo hi sl Q I rx hs pl pu q
def rAddS : R2 := fun x y H Q => ∃ i j, x = .str i ∧ y = .str j ∧ i.length + j.length ≤ sizeLine ∧ Q (.str (i ++ j)) H
def rAddA (K : Fr) : R2 := fun x y H Q => rI0 (fun i j => .int (i + j)) x y H Q ∨ rAddS x y H Q ∨ rCat x y H Q ∨ rCatT K x y H Q
theorem addA (K : Fr) (h : X.K = K := by rfl) : OpR X (binaryOp .Add) (rAddA K) := by
  subst h
  exact op_add.or (OpR.or op_add_str (op_cat.or op_catT))
def rMulA : R2 := fun x y H Q => rI CMul (fun i j => .int (i * j)) x y H Q ∨ rRep x y H Q
theorem mulA : OpR X (binaryOp .Mult) rMulA := op_mul.or op_rep
def rEqA (K : Fr) : R2 := fun x y H Q => rEq x y H Q ∨ rEqD K x y H Q
theorem eqA (K : Fr) (hu : X.A.units + 64 < cLine) (h : X.K = K := by rfl) : OpR X (compareOp .Eq) (rEqA K) := by
  subst h
  exact op_eq.or (op_eqD hu)
def rNeA (K : Fr) : R2 := fun x y H Q => rNe x y H Q ∨ rNeD K x y H Q
theorem neA (K : Fr) (hu : X.A.units + 64 < cLine) (h : X.K = K := by rfl) : OpR X (compareOp .NotEq) (rNeA K) := by
  subst h
  exact op_ne.or (op_neD hu)
def rInS (neg : Bool) : R2 := fun x y H Q => ∃ (c : Nat) (z : Str), x = .str ⟨#[c]⟩ ∧ y = .str z ∧ Q (.bl (if neg then !decide (c ∈ z.cps.toList) else decide (c ∈ z.cps.toList))) H
def rInA (K : Fr) (neg : Bool) : R2 := fun x y H Q => rIn K neg x y H Q ∨ rInS neg x y H Q
theorem inA (K : Fr) (h : X.K = K := by rfl) : OpR X (compareOp .In) (rInA K false) := by
  subst h
  exact op_in_seq.or op_in_sign
theorem notInA (K : Fr) (h : X.K = K := by rfl) : OpR X (compareOp .NotIn) (rInA K true) := by
  subst h
  exact op_notIn_seq.or op_notIn_sign
theorem ixS (K : Fr) (h : X.K = K := by rfl) : IxR X (rIx K) := h ▸ ix_seq
def rSlA (K : Fr) : V → Option Int → Option Int → Hp → VK → Prop := fun x l u H Q => rSlL K x l u H Q ∨ rSlT K x l u H Q ∨ rSlS x l u H Q
theorem slA (K : Fr) (h : X.K = K := by rfl) : SlR X (rSlA K) := by
  subst h
  exact SlR.or sl_list (SlR.or sl_tup sl_str)
def rLenA (K : Fr) : List V → Hp → VK → Prop := fun xs H Q => (∃ z : Str, xs = [.str z] ∧ z.length ≤ sizeLine ∧ Q (.int z.length) H) ∨ (∃ p ys, xs = [.ref p] ∧ (SqL K H p ys ∨ SqT K H p ys) ∧ Q (.int ys.length) H) ∨ ∃ a kvs, xs = [.ref a] ∧ H a = some (.dK kvs) ∧ Q (.int kvs.length) H
theorem lenA (K : Fr) (h : X.K = K := by rfl) : CallR X (.builtin "len") (rLenA K) := by
  subst h
  exact call_len_str.or (call_len_seq.or call_lenD)
end
section
variable {X : Cx} {k : Nat} {f C : Addr} {sp : Sp} {x m : Str} {p pos apos : Pos} {e o : Expr} {es : List Expr} {t : TA} {te ta : TE}
/-- o.m() by a positional promise -/
theorem pe_methR0 {CX : CXT} {E : XK} {pl : Sem Bool} (he : PE X o ta) (c : Cls X.K C) (hm : Meth X.K C m f) (F : FnR X.prog X.w X.K X.mg X.base CX k f sp) (hr : Room k X.A) (hx : Passes CX X E)
    (ht : eval (.Call (.Attribute o m apos) [] [] pos) X.env = (do
      let ov ← eval o X.env
      standAt apos.atName
      let (f, first) ← holding [ov] (getMethod ov m pl)
      callWith pos f first (backTo pos (starEach [] X.env)) (backToKw pos (keywordEach [] X.env))) := by rfl) :
    PE X (.Call (.Attribute o m apos) [] [] pos) (tMethR C m sp E ta tNil) := by
  refine ⟨fun pins s σ H Q I h => ?_⟩
  refine PySem.W.methodCall_KW (pl := pl) (thn (he.run pins s σ H _ I h) fun u s1 ⟨x, H1, I1, rx, a, dx, fs, ex, ea, l, q⟩ => ?_) ht
  subst ex
  obtain rfl : u = Value.ref a := rx
  refine getmeth_ok I1 ea c hm l ?_
  exact PySem.W.callWith_K0 (first := [.ref a]) I1.kIn hm.kp (wpAny_call (run_fnR (us := [.ref a]) (vs := [.ref a]) F hr hx I1 (.cons rfl .nil) q))
/-- constants of the module, as the facts tell them -/
theorem pe_gIx {i : Int} (hm : ∃ tk, X.mg x = some (.int i tk)) (hg : Gl X x := by rfl) (hd : (x == ("__debug__" : Str)) = false := by decide) : PE X (.Name x p) (tC (.int i)) := by
  obtain ⟨tk, hm⟩ := hm
  exact pe_gI hm hg hd
theorem pe_gSx {z : Str} (hm : ∃ tk, X.mg x = some (.str z tk)) (hg : Gl X x := by rfl) (hd : (x == ("__debug__" : Str)) = false := by decide) : PE X (.Name x p) (tC (.str z)) := by
  obtain ⟨tk, hm⟩ := hm
  exact pe_gS hm hg hd
end
end Pk
/-! ## enumerate and zip over lists, tuples and texts, as they come -/
namespace Pk
open PySem PySem.Spec PyProof.Rows L2
theorem Kp.sub {P : Program} {w : World} {K : PySem.W.Frag} {mg : Str → Option Value} {base : Heap} {k : Nat} {f : Addr} {sp sp' : Sp} (G : Kp P w K mg base k f sp) (h : ∀ vs H Q E, sp' vs H Q E → sp vs H Q E) : Kp P w K mg base k f sp' := by
  obtain ⟨fd, ps, F, b, kp⟩ := G
  exact ⟨fd, ps, F.imp h, b, kp⟩
/-- what is gone through -/
inductive Src where
  | lst (a : Addr)
  | tup (a : Addr)
  | txt (z : Str)
/-- the sgn of a text, as texts -/
def sgn (z : Str) : List V := z.cps.toList.map fun c => V.str ⟨#[c]⟩
theorem get_back {xs : List V} {its : List Value} (rv : Vals xs its) {j : Nat} {u : Value} (h : its[j]? = some u) : ∃ x, xs[j]? = some x ∧ RelV x u := by
  have hl := rv.length
  have hj : j < xs.length := by
    have := (List.getElem?_eq_some_iff.mp h).1
    omega
  obtain ⟨u2, h2, r⟩ := rv.get (List.getElem?_eq_getElem hj)
  rw [h] at h2
  cases h2
  exact ⟨_, List.getElem?_eq_getElem hj, r⟩
namespace Src
def v : Src → V
  | .lst a => .ref a
  | .tup a => .ref a
  | .txt z => .str z
def At (K : Fr) : Src → Hp → List V → Prop
  | .lst a, H, xs => SqL K H a xs
  | .tup a, H, xs => SqT K H a xs
  | .txt z, _, xs => xs = sgn z
def adr : Src → List Addr
  | .lst a => [a]
  | .tup a => [a]
  | .txt _ => []
def it : Src → Heap → Addr → Nat → Prop
  | .lst a, h, b, i => h.IsListIter b a i
  | .tup a, h, b, i => h.IsTupleIter b a i
  | .txt z, h, b, i => ∃ t, h.IsStrIter b (strIterType z) z t i
theorem it_obj {S : Src} {h : Heap} {b : Addr} {i : Nat} (p : S.it h b i) : ∃ o vs, h.get? b = some o ∧ o.data = .fields vs := by
  cases S with
  | lst a => obtain ⟨o, e, _, d⟩ := p; exact ⟨o, _, e, d⟩
  | tup a => obtain ⟨o, e, _, d⟩ := p; exact ⟨o, _, e, d⟩
  | txt z => obtain ⟨t, o, e, _, d⟩ := p; exact ⟨o, _, e, d⟩
theorem it_keep {S : Src} {h h2 : Heap} {b : Addr} {i : Nat} (p : S.it h b i) (k : ∀ o, h.get? b = some o → h2.get? b = some o) : S.it h2 b i := by
  cases S with
  | lst a => exact Heap.IsListIter.at p k
  | tup a => exact Heap.IsTupleIter.at p k
  | txt z => obtain ⟨t, o, e, r⟩ := p; exact ⟨t, o, k o e, r⟩
theorem inj {K : Fr} {X : Cx} {pins : List (Addr × Obj)} {σ : L2.St} {H : Hp} {s : Shared} (I : Inv X pins σ H s) {S : Src} {xs ys : List V} (h : S.At X.K H xs) (h2 : S.At X.K H ys) : xs = ys := by
  cases S with
  | lst a => exact I.list_inj h h2
  | tup a => exact I.tuple_inj h h2
  | txt z => exact (show xs = sgn z from h).trans (show ys = sgn z from h2).symm
theorem draws {X : Cx} {pins : List (Addr × Obj)} {σ : L2.St} {H : Hp} {s : Shared} (I : Inv X pins σ H s) {S : Src} {xs : List V} (h : S.At X.K H xs) {b : Addr} {i : Nat} (p : S.it s.heap b i) (n : b ∉ S.adr) {A : Around} (hh : A.handled = none) :
    ∃ (P : Nat → Value → Prop) (St : Nat → Heap → Prop), Draws X.prog X.w A b (b :: S.adr) xs.length P St ∧ St i s.heap ∧ (∀ j u, P j u → ∃ x, xs[j]? = some x ∧ RelV x u) ∧ ∀ j h2, St j h2 → S.it h2 b j := by
  cases S with
  | lst a =>
    obtain ⟨its, rv, q, _⟩ := I.list h
    have ql : s.heap.IsList a its.toArray := q.isList
    have hn : a ≠ b := fun e => n (by rw [e]; exact List.mem_singleton.mpr rfl)
    have D := Draws.list (prog := X.prog) (w := X.w) hh b a hn its.toArray
    have hl : its.toArray.size = xs.length := by simpa using rv.length.symm
    rw [hl] at D
    refine ⟨_, _, D, ⟨p, ql⟩, fun j u hu => ?_, fun j h2 r => r.1⟩
    have hu2 : its[j]? = some u := by simpa using hu
    exact get_back rv hu2
  | tup a =>
    obtain ⟨its, rv, q, _⟩ := I.tuple h
    have ql : s.heap.IsTuple a its.toArray := q
    have hn : a ≠ b := fun e => n (by rw [e]; exact List.mem_singleton.mpr rfl)
    have D := Draws.tuple (prog := X.prog) (w := X.w) hh b a hn its.toArray
    have hl : its.toArray.size = xs.length := by simpa using rv.length.symm
    rw [hl] at D
    refine ⟨_, _, D, ⟨p, ql⟩, fun j u hu => ?_, fun j h2 r => r.1⟩
    have hu2 : its[j]? = some u := by simpa using hu
    exact get_back rv hu2
  | txt z =>
    obtain ⟨t, p⟩ := p
    have D := Draws.text (prog := X.prog) (w := X.w) hh b z t
    have e : xs = sgn z := h
    have hl : z.cps.size = xs.length := by rw [e]; simp [sgn]
    rw [hl] at D
    refine ⟨_, _, D, p, fun j u hu => ?_, fun j h2 r => ⟨t, r⟩⟩
    obtain ⟨c, t2, hc, eu⟩ := hu
    refine ⟨.str ⟨#[c]⟩, ?_, t2, eu⟩
    rw [e]
    simp [sgn, hc]
/-- iter(v) of it is one new object -/
theorem begins {X : Cx} {pins : List (Addr × Obj)} {σ : L2.St} {H : Hp} {s : Shared} (I : Inv X pins σ H s) {S : Src} {xs : List V} (h : S.At X.K H xs) {u : Value} (r : RelV S.v u) :
    ∃ (ob : Obj) (P : Heap → Prop), Begins u ob P ∧ P s.heap ∧ (∀ h2 b, h2.get? b = some ob → S.it h2 b 0) ∧ ∀ b, b ∈ S.adr → b < s.heap.objs.size := by
  cases S with
  | lst a =>
    cases r
    obtain ⟨its, rv, q, _⟩ := I.list h
    have ql : s.heap.IsList a its.toArray := q.isList
    exact ⟨_, _, begins_list a its.toArray, ql, fun h2 b e => ⟨_, e, rfl, rfl⟩, fun b hb => by rw [List.mem_singleton.mp hb]; exact q.lt⟩
  | tup a =>
    cases r
    obtain ⟨its, rv, q, _⟩ := I.tuple h
    have ql : s.heap.IsTuple a its.toArray := q
    obtain ⟨o, ho, _⟩ := id ql
    exact ⟨_, _, begins_tuple a its.toArray, ql, fun h2 b e => ⟨_, e, rfl, rfl⟩, fun b hb => by rw [List.mem_singleton.mp hb]; exact Heap.lt_size ho⟩
  | txt z =>
    obtain ⟨t, e⟩ := r
    subst e
    exact ⟨_, _, begins_text z t, trivial, fun h2 b e => ⟨t, _, e, rfl, rfl⟩, fun b hb => nomatch hb⟩
end Src
/-! ### for i, x in enumerate(xs) -/
def IteX (K : Fr) (S : Src) : It :=
  ⟨fun i H => ∃ (xs : List V) (x : V), S.At K H xs ∧ xs[i]? = some x, fun i H v H2 => ∃ T x, v = .ref T ∧ H T = none ∧ H2 = upd H T (.tup [.int (i : Nat), x]) ∧ ∀ xs, S.At K H xs → xs[i]? = some x, fun i H => ∃ xs : List V, S.At K H xs ∧ xs.length = i⟩
theorem turn_enumX {P : Program} {w : World} {K : PySem.W.Frag} {elts : List Expr} {kk : Nat} {tpos : Pos} (S : Src) (e it : Addr) :
    Turn P w K (.Tuple elts kk tpos) (IteX K S) [e, it] e (fun i h => (∃ old, IsEnum h e it ((i : Nat) : Int) old) ∧ S.it h it i ∧ e ≠ it ∧ e ∉ S.adr ∧ it ∉ S.adr) where
  mem := List.mem_cons_self
  obj := fun i h st b hb => by
    obtain ⟨⟨old, h1⟩, hit, _⟩ := st
    obtain ⟨o, vs, ho, hd⟩ := Src.it_obj hit
    have hb2 : b = e ∨ b = it := by simpa using hb
    rcases hb2 with z | z
    · exact ⟨_, by rw [z]; exact h1, fun v q => by cases q⟩
    · exact ⟨o, by rw [z]; exact ho, fun v q => by rw [hd] at q; cases q⟩
  keep := fun i h h2 st k => let ⟨⟨old, h1⟩, hi, n⟩ := st; ⟨⟨old, k e List.mem_cons_self _ h1⟩, Src.it_keep hi (fun o q => k it (by simp) o q), n⟩
  item := by
    intro X hP hw hK hc i pins s σ H E I hf st hg
    subst hP hw hK
    obtain ⟨⟨old, hen⟩, hit, n1, n2, n3⟩ := st
    obtain ⟨xs, x, hq, hx⟩ := hg
    have hcalm : X.A.in1.handled = none := I.ok.hd hc
    obtain ⟨Pd, St, D, st0, hP, hS⟩ := Src.draws I hq hit n3 hcalm
    have le_ : e < s.heap.objs.size := Heap.lt_size hen
    have li_ : it < s.heap.objs.size := by
      obtain ⟨_, _, q, _⟩ := Src.it_obj hit
      exact Heap.lt_size q
    have hsz : i < xs.length := (List.getElem?_eq_some_iff.mp hx).1
    refine wpAny_pyNext_enum_itemC D hen st0 hsz n1 (by simp [n1, n2]) fun y h1 tk hy ho1 st1 hT _ hk => ?_
    obtain ⟨x2, hx2, ry⟩ := hP i y hy
    rw [hx] at hx2
    cases hx2
    refine ⟨_, rfl, wpAny_letOwnedTupleGo_enum (s := { s with heap := h1, toks := tk + 1 }) ho1 fun h2 hen2 sb => ?_⟩
    have hT2 := (sb.2 _ (Nat.ne_of_gt le_)).trans hT
    have new : ObjOk X.prog X.w (upd H s.heap.objs.size (.tup [.int (i : Nat), x])) h2 s.heap.objs.size (.tup [.int (i : Nat), x]) :=
      ⟨(by decide : 2 ≤ sizeLine), [.int (i : Nat) tk, y], .cons ⟨_, rfl⟩ (.cons ry .nil), ⟨_, hT2, rfl, _, rfl⟩⟩
    have I2 : Inv X pins σ (upd H s.heap.objs.size (.tup [.int (i : Nat), x])) { s with heap := h2, toks := tk + 1 } :=
      I.turnedNew (ch := [e, it]) (fun b ob hb q => (sb.2 b (fun z => hb (by simp [z]))).trans (hk b ob (fun z => hb (by simp [z])) (fun z => hb (by simp [z])) q)) hf (Nat.le_refl _) new
    refine ⟨.ref s.heap.objs.size, _, I2, rfl, ⟨_, x, rfl, I.hok.fresh (Nat.le_refl _), rfl, fun ys hy2 => by rw [Src.inj (K := X.K) I hy2 hq]; exact hx⟩, ⟨⟨y, ?_⟩, Src.it_keep (hS _ _ st1) (fun o q => (sb.2 it n1.symm).trans q), n1, n2, n3⟩, fun b hb => ?_⟩
    · rw [Int.natCast_succ]
      exact hen2
    · have hb2 : b < s.heap.objs.size := by
        have q : b = e ∨ b = it := by simpa using hb
        rcases q with z | z <;> rw [z] <;> assumption
      rw [upd_ne (Nat.ne_of_lt hb2)]
      exact (hf b hb).1
  done := by
    intro X hP hw hK hc i pins s σ H E I hf st hg
    subst hP hw hK
    obtain ⟨⟨old, hen⟩, hit, n1, n2, n3⟩ := st
    obtain ⟨xs, hq, hx⟩ := hg
    obtain ⟨f0, f1, f2, f3, f4, f5⟩ := hf it (by simp)
    have hcalm : X.A.in1.handled = none := I.ok.hd hc
    obtain ⟨Pd, St, D, st0, hP, hS⟩ := Src.draws I hq hit n3 hcalm
    rw [hx] at D
    exact wpAny_pyNext_enum_endD D hen st0 fun h1 eb => ⟨rfl, I.turned (t' := s.toks) (fun b o hb q => eb b o hb q) f0 f1 f3 f4 f5⟩
  self := fun A i s Q E st h => let ⟨⟨_, hen⟩, _⟩ := st; wpAny_pyIter_enum hen h
def iEnumX (K : Fr) (ta : TA) : TI := fun σ H R => ta σ H fun vs H1 => ∃ (S : Src) (xs : List V), vs = [S.v] ∧ S.At K H1 xs ∧ R (IteX K S) H1
theorem pi_enumX {X : Cx} {e : Expr} {ta : TA} {p pos tpos : Pos} {elts : List Expr} {kk : Nat} (hg : Gl X "enumerate") (hm : X.mg "enumerate" = none) (ha : PA X [e] ta) (hs : starEach [e] X.env = [(false, eval e X.env)] := by rfl) :
    PI X (.Tuple elts kk tpos) (.Call (.Name "enumerate" p) [e] [] pos) (iEnumX X.K ta) := ⟨fun pins s σ H R I h => by
  refine Call_ (ld_blt I hg hm boot_enumerate (PyProof.Rows.callWith_type1 (thn (ha.run pos pins s σ H _ I h) fun us s1 ⟨vs, H1, I1, r1, S, xs, ev, hq, q⟩ => ?_) hs rfl))
  subst ev
  cases r1 with
  | cons r rr =>
    cases rr
    obtain ⟨ob, P, B, hP, hit, hlt⟩ := Src.begins I1 hq r
    refine enum_new B hP fun h2 hen ho hk => wpAny_pyIter_enum hen ?_
    have I2 : Inv X pins σ H1 { s1 with heap := h2 } := I1.kept (t' := s1.toks) hk
    refine ⟨s1.heap.objs.size + 1, [s1.heap.objs.size + 1, s1.heap.objs.size], _, _, H1, rfl, I2, turn_enumX S (s1.heap.objs.size + 1) s1.heap.objs.size, ⟨⟨.none, hen⟩, hit _ _ ho, Nat.succ_ne_self _, fun z => ?_, fun z => ?_⟩, fun b hb => ?_, q⟩
    · exact absurd (hlt _ z) (Nat.not_lt.mpr (Nat.le_succ _))
    · exact absurd (hlt _ z) (Nat.lt_irrefl _)
    have hb2 : b = s1.heap.objs.size + 1 ∨ b = s1.heap.objs.size := by simpa using hb
    have hle : s1.heap.objs.size ≤ b := by
      rcases hb2 with z | z
      · rw [z]; exact Nat.le_succ _
      · rw [z]; exact Nat.le_refl _
    exact I1.fpOk hle (I1.hok.fresh hle)⟩
theorem walk_enumX {K : Fr} {S : Src} {xs : List V} : Walk (IteX K S) xs.length (fun H => S.At K H xs) (YPair (fun i => some (.int (i : Nat))) (fun i => xs[i]?)) := by
  refine ⟨fun i _ hi q => ⟨xs, xs[i], q, by simp [hi]⟩, fun _ q => ⟨xs, q, rfl⟩, fun i H v H2 _ q y => ?_⟩
  obtain ⟨T, x, h1, h2, h3, h4⟩ := y
  exact ⟨T, .int (i : Nat), x, h1, h2, h3, rfl, h4 xs q⟩
/-! ### for x, y in zip(xs, ys) -/
def ItzX (K : Fr) (S S' : Src) : It :=
  ⟨fun i H => ∃ (xs ys : List V) (x y : V), S.At K H xs ∧ S'.At K H ys ∧ xs[i]? = some x ∧ ys[i]? = some y,
    fun i H v H2 => ∃ T x y, v = .ref T ∧ H T = none ∧ H2 = upd H T (.tup [x, y]) ∧ (∀ xs, S.At K H xs → xs[i]? = some x) ∧ ∀ ys, S'.At K H ys → ys[i]? = some y,
    fun i H => ∃ xs ys : List V, S.At K H xs ∧ S'.At K H ys ∧ i ≤ xs.length ∧ i ≤ ys.length ∧ (i = xs.length ∨ i = ys.length)⟩
theorem turn_zipX {P : Program} {w : World} {K : PySem.W.Frag} {elts : List Expr} {kk : Nat} {tpos : Pos} {S S' : Src} {z TI TO i1 i2 : Addr} (D : ZipSep2 z TI TO i1 i2 (i1 :: S.adr) (i2 :: S'.adr)) (n1 : i1 ∉ S.adr) (n2 : i2 ∉ S'.adr) :
    Turn P w K (.Tuple elts kk tpos) (ItzX K S S') [z, TI, TO, i1, i2] z (fun i h => IsZip h z TI TO .none ∧ IsTupOf2 h TI (.ref i1) (.ref i2) ∧ (∃ x y, IsTupOf2 h TO x y) ∧ S.it h i1 i ∧ S'.it h i2 i) where
  mem := by simp
  obj := fun i h st c hc => by
    obtain ⟨hz, hTI, ⟨x, y, hTO⟩, p1, p2⟩ := st
    obtain ⟨o1, _, e1, d1⟩ := Src.it_obj p1
    obtain ⟨o2, _, e2, d2⟩ := Src.it_obj p2
    have e' : c = z ∨ c = TI ∨ c = TO ∨ c = i1 ∨ c = i2 := by simpa using hc
    rcases e' with q | q | q | q | q
    · rw [q]; exact ⟨_, hz, fun v q => nomatch q⟩
    · rw [q]; exact ⟨_, hTI, fun v q => nomatch q⟩
    · rw [q]; exact ⟨_, hTO, fun v q => nomatch q⟩
    · rw [q]; exact ⟨o1, e1, fun v q => by rw [d1] at q; cases q⟩
    · rw [q]; exact ⟨o2, e2, fun v q => by rw [d2] at q; cases q⟩
  keep := fun i h h' st k => by
    obtain ⟨hz, hTI, ⟨x, y, hTO⟩, h1, h2⟩ := st
    exact ⟨k z (by simp) _ hz, k TI (by simp) _ hTI, ⟨x, y, k TO (by simp) _ hTO⟩, Src.it_keep h1 (fun o q => k i1 (by simp) o q), Src.it_keep h2 (fun o q => k i2 (by simp) o q)⟩
  item := by
    intro X hP hw hK hc i pins s σ H E I hf st hg
    subst hP hw hK
    obtain ⟨hz, hTI, ⟨x0, y0, hTO⟩, h1, h2⟩ := st
    obtain ⟨xs, ys, x, y, hqx, hqy, hx, hy⟩ := hg
    have hcalm : X.A.in1.handled = none := I.ok.hd hc
    obtain ⟨P1, St1, D1, st1, hP1, hS1⟩ := Src.draws I hqx h1 n1 hcalm
    obtain ⟨P2, St2, D2, st2, hP2, hS2⟩ := Src.draws I hqy h2 n2 hcalm
    have hzl : z < s.heap.objs.size := Heap.lt_size hz
    refine wpAny_pyNext_zipD2_item D D1 D2 hz hTI hTO st1 st2 (List.getElem?_eq_some_iff.mp hx).1 (List.getElem?_eq_some_iff.mp hy).1 fun u u2 h' tk pu pu2 z' TO' s1' s2' hT hsz hk => ?_
    obtain ⟨x2, hx2, ru⟩ := hP1 i u pu
    rw [hx] at hx2
    cases hx2
    obtain ⟨y2, hy2, ru2⟩ := hP2 i u2 pu2
    rw [hy] at hy2
    cases hy2
    refine ⟨_, rfl, wpAny_letOwnedTupleGo_zip (s := { s with heap := h', toks := tk }) z' fun h'' z'' sb => ?_⟩
    have hT2 : h''.get? s.heap.objs.size = some { cls := .type "tuple", data := .seq #[u, u2] } := (sb.2 _ (Nat.ne_of_gt hzl)).trans hT
    have new : ObjOk X.prog X.w (upd H s.heap.objs.size (.tup [x, y])) h'' s.heap.objs.size (.tup [x, y]) :=
      ⟨by show 2 ≤ sizeLine; decide, [u, u2], .cons ru (.cons ru2 .nil), ⟨_, hT2, rfl, _, rfl⟩⟩
    have I1 : Inv X pins σ (upd H s.heap.objs.size (.tup [x, y])) { s with heap := h'', toks := tk } :=
      I.turnedNew (t' := tk) (ch := [z, TI, TO, i1, i2]) (fun c o hb q => (sb.2 c (fun q' => hb (by simp [q']))).trans (hk c o (fun q' => hb (by simp [q'])) (fun q' => hb (by simp [q'])) (fun q' => hb (by simp [q'])) (fun q' => hb (by simp [q'])) q)) hf (Nat.le_refl _) new
    have i1z : i1 ≠ z := fun e => D.zf1 (by rw [e]; exact List.mem_cons_self)
    have i2z : i2 ≠ z := fun e => D.zf2 (by rw [e]; exact List.mem_cons_self)
    refine ⟨.ref s.heap.objs.size, _, I1, rfl, ⟨_, x, y, rfl, I.hok.fresh (Nat.le_refl _), rfl, fun l hl => by rw [Src.inj (K := X.K) I hl hqx]; exact hx, fun l hl => by rw [Src.inj (K := X.K) I hl hqy]; exact hy⟩, ⟨z'', ?_, ⟨u, u2, ?_⟩, ?_, ?_⟩, fun c hcm => ?_⟩
    · exact (sb.2 _ D.TIz).trans (hk _ _ D.TIz D.TITO D.TIi1 D.TIi2 hTI)
    · exact (sb.2 _ D.TOz).trans TO'
    · exact Src.it_keep (hS1 _ _ s1') fun o q => (sb.2 _ i1z).trans q
    · exact Src.it_keep (hS2 _ _ s2') fun o q => (sb.2 _ i2z).trans q
    · have hlt : c < s.heap.objs.size := by
        have e' : c = z ∨ c = TI ∨ c = TO ∨ c = i1 ∨ c = i2 := by simpa using hcm
        rcases e' with q | q | q | q | q
        · rw [q]; exact hzl
        · rw [q]; exact Heap.lt_size hTI
        · rw [q]; exact Heap.lt_size hTO
        · rw [q]; obtain ⟨_, _, e1, _⟩ := Src.it_obj h1; exact Heap.lt_size e1
        · rw [q]; obtain ⟨_, _, e2, _⟩ := Src.it_obj h2; exact Heap.lt_size e2
      rw [upd_ne (Nat.ne_of_lt hlt)]
      exact (hf c hcm).1
  done := by
    intro X hP hw hK hc i pins s σ H E I hf st hg
    subst hP hw hK
    obtain ⟨hz, hTI, ⟨x0, y0, hTO⟩, h1, h2⟩ := st
    obtain ⟨xs, ys, hqx, hqy, l1, l2, hend⟩ := hg
    have hcalm : X.A.in1.handled = none := I.ok.hd hc
    obtain ⟨P1, St1, D1, st1, hP1, hS1⟩ := Src.draws I hqx h1 n1 hcalm
    obtain ⟨P2, St2, D2, st2, hP2, hS2⟩ := Src.draws I hqy h2 n2 hcalm
    exact wpAny_pyNext_zipD2_end D D1 D2 hz hTI hTO st1 st2 l1 l2 hend fun h' tk hk => ⟨rfl, I.turnedL (t' := tk) (ch := [z, TI, TO, i1, i2]) (fun c o hb q =>
      hk c o (fun q' => hb (by simp [q'])) (fun q' => hb (by simp [q'])) (fun q' => hb (by simp [q'])) (fun q' => hb (by simp [q'])) q) hf⟩
  self := fun A i s Q E st h => wpAny_pyIter_zip st.1 h
def iZipX (K : Fr) (ta : TA) : TI := fun σ H R => ta σ H fun vs H1 => ∃ (S S' : Src) (xs ys : List V), vs = [S.v, S'.v] ∧ S.At K H1 xs ∧ S'.At K H1 ys ∧ R (ItzX K S S') H1
theorem pi_zipX {X : Cx} {e e2 : Expr} {ta : TA} {p pos tpos : Pos} {elts : List Expr} {kk : Nat} (hg : Gl X "zip") (hm : X.mg "zip" = none) (ha : PA X [e, e2] ta)
    (hs : starEach [e, e2] X.env = (false, eval e X.env) :: starEach [e2] X.env := by rfl) (hpl : (backTo pos (starEach [e2] X.env)).any (·.1) = false := by rfl) :
    PI X (.Tuple elts kk tpos) (.Call (.Name "zip" p) [e, e2] [] pos) (iZipX X.K ta) := by
  refine ⟨fun pins s σ H R I h => ?_⟩
  refine Call_ (ld_blt I hg hm PyProof.Rows.boot_zip (PyProof.Rows.callWith_type1 (thn (ha.run pos pins s σ H _ I h) fun us s1 ⟨vs, H1, I1, r1, q1⟩ => ?_) hs hpl))
  obtain ⟨S, S', xs, ys, ex, hqx, hqy, q⟩ := q1
  subst ex
  cases r1 with
  | cons r rr =>
    cases rr with
    | cons r' rr =>
      cases rr
      obtain ⟨o1, P1, B1, hP1, it1, l1⟩ := Src.begins I1 hqx r
      obtain ⟨o2, P2, B2, hP2, it2, l2⟩ := Src.begins I1 hqy r'
      have fresh5 : ∀ c, c ∈ [s1.heap.objs.size + 4, s1.heap.objs.size + 2, s1.heap.objs.size + 3, s1.heap.objs.size, s1.heap.objs.size + 1] → FpOk X pins H1 c := fun c hcm => by
        have e' : c = s1.heap.objs.size + 4 ∨ c = s1.heap.objs.size + 2 ∨ c = s1.heap.objs.size + 3 ∨ c = s1.heap.objs.size ∨ c = s1.heap.objs.size + 1 := by simpa using hcm
        have hle : s1.heap.objs.size ≤ c := by
          rcases e' with z | z | z | z | z <;> rw [z] <;> first | exact Nat.le_add_right _ _ | exact Nat.le_refl _
        exact I1.fpOk hle (I1.hok.fresh hle)
      refine zip_begins2 B1 B2 hP1 hP2 fun h' hz hTI hTO g1 g2 hsz hk => wpAny_pyIter_zip hz ?_
      have I2 : Inv X pins σ H1 { s1 with heap := h' } := I1.kept (t' := s1.toks) hk
      have nin1 : ∀ k : Nat, s1.heap.objs.size + k ∉ S.adr := fun k m => absurd (l1 _ m) (Nat.not_lt.mpr (Nat.le_add_right _ _))
      have nin2 : ∀ k : Nat, s1.heap.objs.size + k ∉ S'.adr := fun k m => absurd (l2 _ m) (Nat.not_lt.mpr (Nat.le_add_right _ _))
      have ne : ∀ a b : Nat, a ≠ b → s1.heap.objs.size + a ≠ s1.heap.objs.size + b := fun a b n e => n (Nat.add_left_cancel e)
      have D : ZipSep2 (s1.heap.objs.size + 4) (s1.heap.objs.size + 2) (s1.heap.objs.size + 3) s1.heap.objs.size (s1.heap.objs.size + 1) (s1.heap.objs.size :: S.adr) ((s1.heap.objs.size + 1) :: S'.adr) := by
        refine ⟨ne 2 4 (by decide), ne 3 4 (by decide), ne 2 3 (by decide), ne 2 0 (by decide), List.mem_cons_self, ?_, ?_, ne 2 1 (by decide), List.mem_cons_self, ?_, ?_, ?_, ?_⟩
        · exact fun m => (List.mem_cons.mp m).elim (ne 4 0 (by decide)) (nin1 4)
        · exact fun m => (List.mem_cons.mp m).elim (ne 3 0 (by decide)) (nin1 3)
        · exact fun m => (List.mem_cons.mp m).elim (ne 4 1 (by decide)) (nin2 4)
        · exact fun m => (List.mem_cons.mp m).elim (ne 3 1 (by decide)) (nin2 3)
        · exact fun m => (List.mem_cons.mp m).elim (ne 0 1 (by decide)) (nin2 0)
        · exact fun m => (List.mem_cons.mp m).elim (ne 1 0 (by decide)) (nin1 1)
      exact ⟨s1.heap.objs.size + 4, [s1.heap.objs.size + 4, s1.heap.objs.size + 2, s1.heap.objs.size + 3, s1.heap.objs.size, s1.heap.objs.size + 1], _, _, H1, rfl, I2, turn_zipX D (nin1 0) (nin2 1), ⟨hz, hTI, ⟨_, _, hTO⟩, it1 _ _ g1, it2 _ _ g2⟩, fresh5, q⟩
theorem walk_zipX {K : Fr} {S S' : Src} {xs ys : List V} {n : Nat} (hn : n = min xs.length ys.length) : Walk (ItzX K S S') n (fun H => S.At K H xs ∧ S'.At K H ys) (YPair (fun i => xs[i]?) (fun i => ys[i]?)) := by
  refine ⟨fun i _ hi q => ⟨xs, ys, xs[i]'(by omega), ys[i]'(by omega), q.1, q.2, List.getElem?_eq_getElem _, List.getElem?_eq_getElem _⟩, fun _ q => ⟨xs, ys, q.1, q.2, by omega, by omega, by omega⟩, fun i H v H2 _ q y => ?_⟩
  obtain ⟨T, x, y, h1, h2, h3, h4, h5⟩ := y
  exact ⟨T, x, y, h1, h2, h3, h4 xs q.1, h5 ys q.2⟩
end Pk
/-! ## Dict comprehensions that change nothing -/
namespace Pk
open PySem PySem.Spec PyProof.Rows L2
theorem b_sorted : bootBuiltins "sorted" = some (.builtin "sorted") := by decide +kernel
theorem b_sum : bootBuiltins "sum" = some (.builtin "sum") := by decide +kernel
theorem pe_joinK {X : Cx} (K : Fr) {o e : Expr} {to te : TE} {apos pos : Pos} (ho : PE X o to) (he : PE X e te) (hs : starEach [e] X.env = [(false, eval e X.env)] := by rfl) (hbase : attributeBase o "join" X.env (eval o X.env) = eval o X.env := by rfl) (hline : (apos.endLine == pos.line) = true := by rfl) (h : X.K = K := by rfl) :
    PE X (.Call (.Attribute o "join" apos) [e] [] pos) (tM1 (fun x xs H Q => ∃ a p, ∃ ys : List Str, x = .str a ∧ xs = [.ref p] ∧ (SqL K H p (ys.map V.str) ∨ SqT K H p (ys.map V.str)) ∧
      (ys.map (·.length)).sum + ys.length * a.length ≤ 16777216 ∧ Q (.str (Txt.join a ys)) H) to te) := by
  subst h
  exact pe_join ho he hs hbase hline
def keepsK (n : Nat) (f : Nat → Bool) (k : Nat → Key) (v : Nat → V) : List (Key × V) := ((List.range n).filter f).map fun i => (k i, v i)
theorem keepsK_succ (n : Nat) (f : Nat → Bool) (k : Nat → Key) (v : Nat → V) : keepsK (n + 1) f k v = if f n = true then keepsK n f k v ++ [(k n, v n)] else keepsK n f k v := by
  unfold keepsK
  rw [List.range_succ, List.filter_append]
  by_cases h : f n = true
  · simp [h]
  · simp [h]
theorem keepsK_le (n : Nat) (f : Nat → Bool) (k : Nat → Key) (v : Nat → V) : (keepsK n f k v).length ≤ n := by
  unfold keepsK
  rw [List.length_map]
  exact Nat.le_trans (List.length_filter_le _ _) (by simp)
theorem valV_none {kvs : List (Key × V)} {k : Key} (h : ∀ p ∈ kvs, p.1 ≠ k) : valV kvs k = none := by
  induction kvs with
  | nil => rfl
  | cons p r ih =>
    rw [valV_neg (h p List.mem_cons_self)]
    exact ih fun q hq => h q (List.mem_cons_of_mem _ hq)
section
variable {J : It} {n : Nat} {G : Hp → Prop} {Y : Nat → Hp → V → Hp → Prop} {g : TG} {tk tv : TE} {tt : TT} {vs : List Nat} {σ : L2.St} {H1 : Hp} {D : Addr} {Qd : Hp → Prop}
theorem dc_keep (w : Walk J n G Y) (hD : H1 D = none) (f : Nat → Bool) (k : Nat → Key) (v : Nat → V) (hn : n ≤ sizeLine) (inj : ∀ i j, i < j → j < n → f i = true → f j = true → k i ≠ k j) (hG : ∀ H, Same H1 H → G H)
    (hs : ∀ i x H H2 (N : V → VK) (N0 : Hp → Prop), i < n → Same H1 H → Y i H x H2 → (f i = true → ∀ H5, Same H H5 → N (kV (k i)) (v i) H5) → (f i = false → ∀ H5, Same H H5 → N0 H5) →
      g x (wipe σ vs) H2 fun σ2 H3 => wipe σ2 vs = wipe σ vs ∧ tt σ2 H3 fun b H4 => if b = true then tk σ2 H4 fun y H5 => tv σ2 H5 (N y) else N0 H4)
    (hd : ∀ H, Same H1 H → H D = some (.dK (keepsK n f k v)) → Qd H) :
    ∃ W : Nat → Nat → Hp → Prop, (∃ m, W 0 m (upd H1 D (.dK []))) ∧ ∀ i m H, W i m H →
      (J.stop i H ∧ Qd H) ∨ (J.go i H ∧ ∃ Nx : Hp → Prop, (∀ H', Nx H' → ∃ m', m' < m ∧ W (i + 1) m' H') ∧ ∀ x H', J.yld i H x H' → g x (wipe σ vs) H' fun σ2 H2 => wipe σ2 vs = wipe σ vs ∧ tt σ2 H2 fun b H3 =>
        if b = true then tk σ2 H3 fun y H4 => tv σ2 H4 fun z H5 => ∃ kvs k, y = kV k ∧ H5 D = some (.dK kvs) ∧ kvs.length < sizeLine ∧ Nx (upd H5 D (.dK (putK kvs k z))) else Nx H3) := by
  refine ⟨fun i m H => m = n - i ∧ i ≤ n ∧ Same H1 H ∧ H D = some (.dK (keepsK i f k v)), ⟨n, by simp, Nat.zero_le _, same_upd hD, upd_same⟩, ?_⟩
  rintro i m H ⟨rfl, hi, p1, p2⟩
  have q := hG H p1
  by_cases hlt : i < n
  · refine .inr ⟨w.goes i H hlt q, fun H' => Same H1 H' ∧ H' D = some (.dK (keepsK (i + 1) f k v)), fun H' p' => ⟨n - (i + 1), by omega, rfl, hlt, p'⟩, fun x H' y => ?_⟩
    refine hs i x H H' (fun y z H5 => ∃ kvs k, y = kV k ∧ H5 D = some (.dK kvs) ∧ kvs.length < sizeLine ∧ _) _ hlt p1 (w.yields i H x H' hlt q y) (fun hb H5 s5 => ?_) fun hb H5 s5 => ?_
    · refine ⟨_, k i, rfl, s5 _ _ p2, Nat.lt_of_le_of_lt (keepsK_le i f k v) (by omega), same_own (p1.trans s5) hD, ?_⟩
      rw [upd_same, keepsK_succ, if_pos hb, putK_new]
      refine valV_none fun p hp e => ?_
      obtain ⟨j, hj, rfl⟩ := List.mem_map.mp hp
      rw [List.mem_filter, List.mem_range] at hj
      exact inj j i hj.1 hlt hj.2 hb e
    · refine ⟨p1.trans s5, ?_⟩
      rw [s5 _ _ p2, keepsK_succ, hb]
      rfl
  · have e : i = n := by omega
    subst e
    exact .inl ⟨w.stops H q, hd H p1 p2⟩
end
end Pk
/-! ## for in a generator's body -/
namespace Pk
open PySem PySem.Spec PyProof.Rows L2 GenW
section
variable {M : Model} {A : Around} {R : GenEnd} {Y : Protocol} {n : Nat} {s₀ s : Shared} {c : Code} {fs : List Frame} {env : Env}
  {K : Flow → Sem PySem.Fin} {J : Value → Sem PySem.Fin} {gd : Bool → Bool} {lv : List Value → List Value}
theorem segw_bind {α β : Type} {m : Sem α} {f : α → Sem β} {K : β → Sem PySem.Fin}
    (h : wpAny M (A.over c fs) m (fun a s' => Seg M A R Y n s₀ c ((f a).wrap K J gd lv) fs s') (fun x s' => Seg M A R Y n s₀ c (J x) fs s') s) :
    Seg M A R Y n s₀ c ((m >>= f).wrap K J gd lv) fs s := by
  rw [Sem.bind_eq_wrap' m f, Sem.wrap_wrap]
  exact seg_wrap h
theorem seg_For {target iter : Expr} {body orelse : List Stmt} {pos : Pos} (hs : ∀ x, foldedSetIterable iter env x = pure x)
    (h : wpAny M (A.over c fs) (eval iter env) (fun x s1 => wpAny M (A.over c fs) (pyIter x) (fun it s2 => ∀ p, Seg M A R Y n s₀ (.forLoop target it body orelse env) (M.den (.forLoop target it body orelse env))
      (.ret (fun r => ((match r with | .ok f => (.pure f : Sem Flow) | .error e => .raise e).onRaise (cameBack env)).wrap K J gd lv) none (gd false) (lv []) c p [] :: fs) s2)
      (fun x s' => Seg M A R Y n s₀ c (J x) fs s') s1) (fun x s' => Seg M A R Y n s₀ c (J x) fs s') s) :
    Seg M A R Y n s₀ c ((exec (.For target iter body orelse pos) env).wrap K J gd lv) fs s := by
  rw [exec_For]
  refine segw_bind (wpAny_standAt ?_)
  refine segw_bind (wpAny_mono h (fun x s1 h1 => ?_) fun _ _ z => z)
  refine segw_bind (wpAny_of_eq (hs x) ?_)
  refine segw_bind (wpAny_standAt ?_)
  refine segw_bind (wpAny_holding (wpAny_mono h1 (fun it s2 h2 => ?_) fun _ _ z => z))
  exact seg_call h2
end
section
variable {prog : Program} {w : World} {A : Around} {R : GenEnd} {Y : Protocol} {n : Nat} {s₀ : Shared} {fs : List Frame} {s : Shared} {env : Env}
abbrev noted (env : Env) (e : Value) : Sem PySem.Fin := (do noteFrame e env; theTreesLotGoes e : Sem Unit).wrap (fun _ => .raise e) .raise id id
theorem seg_forLoop {target : Expr} {it : Value} {body : List Stmt}
    (h : wpAny (model prog w) (A.over (.forLoop target it body [] env) fs) (pyNext it) (fun r s1 => match r with
        | none => Seg (model prog w) A R Y n s₀ (.block [] env) (.pure (.done .next)) fs s1
        | some v => wpAny (model prog w) (A.over (.forLoop target it body [] env) fs) (letOwnedTupleGo target it v) (fun _ s2 =>
          wpAny (model prog w) (A.over (.forLoop target it body [] env) fs) (assign target env v) (fun _ s3 =>
            Seg (model prog w) A R Y n s₀ (.forLoop target it body [] env) ((execs body env).wrap (fun f => match f with
              | .next | .cont => .pure (.again (.forLoop target it body [] env))
              | .brk => .pure (.done .next)
              | .ret v => .pure (.done (.ret v))) (noted env) id id) fs s3)
            (fun x s' => Seg (model prog w) A R Y n s₀ (.forLoop target it body [] env) (noted env x) fs s') s2)
          (fun x s' => Seg (model prog w) A R Y n s₀ (.forLoop target it body [] env) (noted env x) fs s') s1)
      (fun x s' => Seg (model prog w) A R Y n s₀ (.forLoop target it body [] env) (noted env x) fs s') s) :
    Seg (model prog w) A R Y n s₀ (.forLoop target it body [] env) ((model prog w).den (.forLoop target it body [] env)) fs s := by
  show Seg _ A R Y n s₀ _ ((forTurn target it body [] env).onRaise (fun x => do noteFrame x env; theTreesLotGoes x)) fs s
  have eH : (fun e : Value => (do noteFrame e env; theTreesLotGoes e : Sem Unit).bind fun _ => (Sem.raise e : Sem PySem.Fin)) = noted env := by
    funext e
    exact Sem.bind_eq_wrap _ _
  rw [Sem.onRaise_eq_wrap, eH]
  unfold forTurn
  refine segw_bind (wpAny_standAt ?_)
  refine segw_bind (wpAny_onRaise (wpAny_mono h (fun r s1 h1 => ?_) fun _ _ z => wpAny_standAt z))
  cases r with
  | none => exact seg_again rfl h1
  | some v =>
    refine segw_bind (wpAny_mono h1 (fun _ s2 h2 => ?_) fun _ _ z => z)
    refine segw_bind (wpAny_mono h2 (fun _ s3 h3 => ?_) fun _ _ z => z)
    rw [Sem.bind_eq_wrap', Sem.wrap_wrap]
    refine Eq.mp (congrArg (fun t => Seg (model prog w) A R Y n s₀ (Code.forLoop target it body [] env) t fs s3) (Sem.wrap_congr (execs body env) _ _ ?_ ?_)) h3
    · intro f
      cases f <;> rfl
    · intro e
      rfl
end
def tGFor (wi : TI) (g : TG) (tb : TGn) : TGn := fun D ys σ H => wi σ H fun J H1 => ∃ W : Nat → Nat → List V → L2.St → Hp → Prop, (∃ m, W 0 m ys σ H1) ∧ ∀ i m ys σ H, W i m ys σ H →
  (J.stop i H ∧ D.nx ys σ H) ∨ (J.go i H ∧ ∃ N : List V → L2.St → Hp → Prop, (∀ ys' σ' H', N ys' σ' H' → ∃ m', m' < m ∧ W (i + 1) m' ys' σ' H') ∧ ∀ x H', J.yld i H x H' → g x σ H' fun σ2 H2 => tb { D with nx := N, ct := N, bk := D.nx } ys σ2 H2)
theorem gs_for {X : Cx} {tg iter : Expr} {body : List Stmt} {wi : TI} {g : TG} {tb : TGn} {pos : Pos} (hp : PassesOwn (model X.prog X.w) X.A X.env X.xe) (hc : X.calm = true) (hi : PI X tg iter wi) (hg : PG X tg g) (hb : GSs X body tb)
    (hs : ∀ x, foldedSetIterable iter X.env x = pure x := by intro _; rfl) : GS X (.For tg iter body [] pos) (tGFor wi g tb) := by
  refine ⟨fun A S ip R n ys s₀ c fs K J gd lv s σ H D gc hn k hI ht => ?_⟩
  obtain ⟨acc, cc, r, I⟩ := hI
  refine seg_For hs ?_
  rw [gc.over]
  refine wpAny_mono (hi.run _ s σ H _ I ht) (fun v s1 h1 => wpAny_mono h1 (fun itv s2 h2 => ?_) fun x s' hx => k.exc _ s₀ x s' hx) fun x s' hx => k.exc _ s₀ x s' hx
  intro p
  obtain ⟨it, fp, tn, JJ, H2, e, I2, T, st2, f2, W, ⟨m0, w0⟩, turn⟩ := h2
  subst e
  have f2S : ∀ b ∈ fp, S ≠ b := fun b hb' => (f2 b hb').2.2.2.2.2 (S, lstObj acc cc) (List.mem_append_right _ List.mem_cons_self)
  have stat : ∀ {H' : Hp} {acc' : Array Value} {cc' : Nat}, (∀ b ∈ fp, H' b = none) → ∀ b ∈ fp, FpOk X ((S, lstObj acc' cc') :: ip) H' b := fun {H' acc' cc'} hn' b hb' => by
    obtain ⟨_, q1, q2, q3, q4, q5⟩ := f2 b hb'
    refine ⟨hn' b hb', q1, q2, q3, q4, fun p hp' => ?_⟩
    rcases List.mem_append.mp hp' with z | z
    · exact q5 p (List.mem_append_left _ z)
    · rcases List.mem_cons.mp z with z | z
      · rw [z]; exact f2S b hb'
      · exact q5 p (List.mem_append_right _ (List.mem_cons_of_mem _ z))
  have gl := fun (kk : Result → Sem PySem.Fin) => gc_loop (k := kk) (c' := .forLoop tg (.ref it) body [] X.env) (l := lv []) (kp := []) (p := p) gc rfl rfl
  have gk := gl (fun r => ((match r with | .ok f => (.pure f : Sem Flow) | .error e => .raise e).onRaise (cameBack X.env)).wrap K J gd lv)
  have ee : ∀ (n : Nat) (s₀ : Shared) (x : Value) (s' : Shared), X.xe x s' → Seg (model X.prog X.w) A R (GY X S) n s₀ (.forLoop tg (.ref it) body [] X.env) (noted X.env x)
      (.ret (fun r => ((match r with | .ok f => (.pure f : Sem Flow) | .error e => .raise e).onRaise (cameBack X.env)).wrap K J gd lv) none (gd false) (lv []) c p [] :: fs) s' := fun n s₀ x s' hx => by
    refine seg_wrap ?_
    rw [(gl _).over]
    refine wpAny_bind (wpAny_mono (hp x s' hx) (fun _ s'' hcb => wpAny_theTreesLotGoes ?_) fun y s'' hcb => ?_)
    · exact seg_leaf (.error x) (seg_cameBack gc k hcb)
    · exact seg_leaf (.error y) (seg_cameBack gc k hcb)
  have loop : ∀ (m i n : Nat) (ys : List V) (s₀ s : Shared) (σ : L2.St) (H : Hp), n + ys.length = sizeLine → W i m ys σ H → GI X S ip ys σ H s → tn i s.heap → (∀ b ∈ fp, H b = none) →
      Seg (model X.prog X.w) A R (GY X S) n s₀ (.forLoop tg (.ref it) body [] X.env) ((model X.prog X.w).den (.forLoop tg (.ref it) body [] X.env))
        (.ret (fun r => ((match r with | .ok f => (.pure f : Sem Flow) | .error e => .raise e).onRaise (cameBack X.env)).wrap K J gd lv) none (gd false) (lv []) c p [] :: fs) s := by
    intro m
    induction m using Nat.strongRecOn with
    | ind m ih =>
      intro i n ys s₀ s σ H hn w hI st fr
      refine seg_forLoop ?_
      rw [(gl _).over]
      obtain ⟨acc, cc, r, I⟩ := hI
      rcases turn i m ys σ H w with ⟨stop, qn⟩ | ⟨go, N, hN, step⟩
      · refine wpAny_mono (T.done X rfl rfl rfl hc i _ s σ H X.xe I (stat fr) st stop) (fun rr s4 h4 => ?_) fun x s' hx => ee n s₀ x s' hx
        obtain ⟨hr, I4⟩ := h4
        subst hr
        exact seg_leaf (.ok .next) (k.ok n ys s₀ s4 .next hn ⟨σ, H, ⟨acc, cc, r, I4⟩, qn⟩)
      · refine wpAny_mono (T.item X rfl rfl rfl hc i _ s σ H X.xe I (stat fr) st go) (fun rr s4 h4 => ?_) fun x s' hx => ee n s₀ x s' hx
        obtain ⟨u, hr, h4⟩ := h4
        subst hr
        refine wpAny_mono h4 (fun _ s5 h5 => ?_) fun x s' hx => ee n s₀ x s' hx
        obtain ⟨x, H5, I5, r5, y5, st5, fr5⟩ := h5
        have I5' := I5.pinned (stat fr5) (T.obj _ _ st5)
        refine wpAny_mono (hg.run _ s5 σ H5 x u _ I5' r5 (step x H5 y5)) (fun _ s6 h6 => ?_) fun x s' hx => ee n s₀ x s' hx
        obtain ⟨σ6, H6, I6, q6⟩ := h6
        have G6 : GI X S (ip ++ pinsAt fp s5.heap) ys σ6 H6 s6 := ⟨acc, cc, r, I6⟩
        have gc2 : GC X S (ip ++ pinsAt fp s5.heap) A (.forLoop tg (.ref it) body [] X.env) (.ret (fun r => ((match r with | .ok f => (.pure f : Sem Flow) | .error e => .raise e).onRaise (cameBack X.env)).wrap K J gd lv) none (gd false) (lv []) c p [] :: fs) id :=
          ⟨gk.pn, fun q hq => by
            rcases List.mem_append.mp hq with z | z
            · exact gk.ip q z
            · exact (f2S _ (of_pinsAt z).1).symm, gk.apart, gk.over, gk.split, gk.guard, rfl⟩
        have drop : ∀ {ys7 : List V} {σ7 : L2.St} {H7 : Hp} {s7 : Shared}, GI X S (ip ++ pinsAt fp s5.heap) ys7 σ7 H7 s7 → GI X S ip ys7 σ7 H7 s7 := fun {ys7 σ7 H7 s7} h => by
          obtain ⟨acc7, cc7, r7, I7⟩ := h
          have I7' : Inv X (((S, lstObj acc7 cc7) :: ip) ++ pinsAt fp s5.heap) σ7 H7 s7 := I7
          exact ⟨acc7, cc7, r7, I7'.unpinned⟩
        have again : ∀ {n7 : Nat} {ys7 : List V} {σ7 : L2.St} {H7 : Hp} {s07 s7 : Shared}, n7 + ys7.length = sizeLine → GI X S (ip ++ pinsAt fp s5.heap) ys7 σ7 H7 s7 → N ys7 σ7 H7 → Seg (model X.prog X.w) A R (GY X S) n7 s07 (.forLoop tg (.ref it) body [] X.env) (.pure (.again (.forLoop tg (.ref it) body [] X.env)))
            (.ret (fun r => ((match r with | .ok f => (.pure f : Sem Flow) | .error e => .raise e).onRaise (cameBack X.env)).wrap K J gd lv) none (gd false) (lv []) c p [] :: fs) s7 := fun {n7 ys7 σ7 H7 s07 s7} hn7 h n7' => by
          obtain ⟨m', hm, w7⟩ := hN ys7 σ7 H7 n7'
          have h' := h
          obtain ⟨acc7, cc7, r7, I7⟩ := h
          refine seg_again rfl (ih m' hm (i + 1) n7 ys7 s07 s7 σ7 H7 hn7 w7 (drop h') (T.keep _ _ _ st5 fun b hb' o e => (I7.pin (b, o) (List.mem_append_right _ (List.mem_cons_of_mem _ (List.mem_append_right _ (mem_pinsAt hb' e))))).1) fun b hb' => ?_)
          obtain ⟨o, e, d⟩ := T.obj _ _ st5 b hb'
          exact (I7.pin (b, o) (List.mem_append_right _ (List.mem_cons_of_mem _ (List.mem_append_right _ (mem_pinsAt hb' e))))).2.1
        refine hb.run A S (ip ++ pinsAt fp s5.heap) R n ys s₀ _ _ _ _ id id s6 σ6 H6 { D with nx := N, ct := N, bk := D.nx } gc2 hn ⟨fun n' ys' s₀' s3 f hn' hs' => ?_, fun n' s₀' x s3 hx => ee n' s₀' x s3 hx⟩ G6 q6
        cases f with
        | next =>
          obtain ⟨σ3, H3, I3, n3⟩ := hs'
          exact again hn' I3 n3
        | cont =>
          obtain ⟨σ3, H3, I3, n3⟩ := hs'
          exact again hn' I3 n3
        | brk =>
          obtain ⟨σ3, H3, I3, n3⟩ := hs'
          exact seg_leaf (.ok .next) (k.ok n' ys' s₀' s3 .next hn' ⟨σ3, H3, drop I3, n3⟩)
        | ret v =>
          obtain ⟨v3, σ3, H3, I3, r3, n3⟩ := hs'
          exact seg_leaf (.ok (.ret v)) (k.ok n' ys' s₀' s3 (.ret v) hn' ⟨v3, σ3, H3, drop I3, r3, n3⟩)
  exact loop m0 0 n ys s₀ s2 σ H2 hn w0 ⟨acc, cc, r, I2⟩ st2 fun b hb' => (f2 b hb').1
/-- a loop over it: Pv by the turn, what is out, the slots and the heap -/
theorem gfor_it {J : It} {n : Nat} {G : Hp → Prop} {Y : Nat → Hp → V → Hp → Prop} (w : Walk J n G Y) {g : TG} {tb : TGn} {D : GEnds} {ys : List V} {σ : L2.St} {H : Hp} (Pv : Nat → List V → L2.St → Hp → Prop) (h0 : Pv 0 ys σ H) (hG : ∀ i ys σ H, i ≤ n → Pv i ys σ H → G H)
    (hs : ∀ i x ys σ H H', i < n → Pv i ys σ H → Y i H x H' → g x σ H' fun σ2 H2 => tb { D with nx := Pv (i + 1), ct := Pv (i + 1), bk := D.nx } ys σ2 H2) (hd : ∀ ys σ H, Pv n ys σ H → D.nx ys σ H) :
    ∃ W : Nat → Nat → List V → L2.St → Hp → Prop, (∃ m, W 0 m ys σ H) ∧ ∀ i m ys σ H, W i m ys σ H →
      (J.stop i H ∧ D.nx ys σ H) ∨ (J.go i H ∧ ∃ N : List V → L2.St → Hp → Prop, (∀ ys' σ' H', N ys' σ' H' → ∃ m', m' < m ∧ W (i + 1) m' ys' σ' H') ∧ ∀ x H', J.yld i H x H' → g x σ H' fun σ2 H2 => tb { D with nx := N, ct := N, bk := D.nx } ys σ2 H2) := by
  refine ⟨fun i m ys σ H => m = n - i ∧ i ≤ n ∧ Pv i ys σ H, ⟨n, by simp, Nat.zero_le _, h0⟩, ?_⟩
  rintro i m ys σ H ⟨rfl, hi, p⟩
  have q := hG i ys σ H hi p
  by_cases hlt : i < n
  · exact .inr ⟨w.goes i H hlt q, Pv (i + 1), fun ys' σ' H' p' => ⟨n - (i + 1), by omega, rfl, hlt, p'⟩, fun x H' y => hs i x ys σ H H' hlt p (w.yields i H x H' hlt q y)⟩
  · have e : i = n := by omega
    subst e
    exact .inl ⟨w.stops H q, hd ys σ H p⟩
/-- the generator def at f keeps sp (nothing is raised) -/
def Gp (P : Program) (w : World) (K : PySem.W.Frag) (mg : Str → Option Value) (base : Heap) (k : Nat) (f : Addr) (sp : SpG) : Prop := ∃ fd ps, GFn P w K mg base k f fd ps sp ∧ Binds K fd ps [] ∧ PySem.W.keepIn K (.ref f) = true
theorem gp_of {P : Program} {w : World} {K : PySem.W.Frag} {mg : Str → Option Value} {base : Heap} {k : Nat} {f : Addr} {sp : SpG} {x qual : Str} {st : Stmt} {kws : List (Str × V)} {N ps : List Str} (D : ∃ fd, FunD K x qual (defArgs st) (defBody st) (defScope st) [] kws f fd) (S : GScope N ps (defScope st))
    (hb : ∀ (kV doc pm : Value) (an : Option Addr) (cdv ct : Value) (us : List Value), us.length = ps.length → bindArgs (PySem.W.fnOf x qual (defArgs st) (defBody st) (defScope st) .none kV doc pm an cdv ct) ⟨us, []⟩ = pure (ps.zip us))
    (len : ∀ vs H Q E, sp vs H Q E → vs.length = ps.length)
    (hbody : ∀ (cdv : Value) (A : Around) (outer : List Env) (s : Shared) (H : Hp) (vs : List V) (Q : List V → Hp → Prop) (E : XK) (pn : List (Addr × Obj)), Room k (A.deeper (envOfC qual (defScope st) s.heap.objs.size f cdv)) → sp vs H Q E →
      ∃ t, GSs (gcxOf P w K mg base N qual (defScope st) f cdv A outer s H E pn) (defBody st) t ∧ t { nx := fun ys _ H' => Q ys H', rt := fun ys v H' => v = .non ∧ Q ys H' } [] (start N vs) H) : Gp P w K mg base (k + 1) f sp := by
  obtain ⟨fd, F⟩ := D
  refine ⟨fd, ps, ?_, F.bindsN hb, F.kp⟩
  obtain ⟨oc, od, dV, kV, doc, pm, an, cdv, ct, osl, rfl, lk, hcd, _, _⟩ := F.ex
  exact gfn_of lk hcd S len fun A outer s H vs Q E pn hr h => hbody cdv A outer s H vs Q E pn hr h
/-- list(f(..)), f a generator def -/
theorem pe_listG0 {X : Cx} {k : Nat} {f : Addr} {sp : SpG} {x : Str} {p p2 pos pos2 : Pos} {e : Expr} {es : List Expr} {t : TA} (G : Gp X.prog X.w X.K X.mg X.base k f sp) (hr : Room (k + 3) X.A) (hm : X.mg x = some (.ref f)) (hl : X.mg ("list" : Str) = none) (ha : PA X (e :: es) t)
    (hg : Gl X x := by rfl) (hgl : Gl X "list" := by rfl) (hdb : (x == ("__debug__" : Str)) = false := by decide)
    (he : starEach (e :: es) X.env = (false, eval e X.env) :: starEach es X.env := by rfl) (hpl : (backTo pos2 (starEach es X.env)).any (·.1) = false := by rfl)
    (he2 : starEach [.Call (.Name x p2) (e :: es) [] pos2] X.env = (false, eval (.Call (.Name x p2) (e :: es) [] pos2) X.env) :: starEach [] X.env := by rfl) :
    PE X (.Call (.Name "list" p) [.Call (.Name x p2) (e :: es) [] pos2] [] pos) (tListG (tCallG sp [] E0 t)) := by
  obtain ⟨fd, ps, F, b, kp⟩ := G
  exact pe_listG (pgen_call F (hr.mono (by omega)) hg hm kp b .nil ha hdb he hpl) passL (fun _ _ _ h => h.elim) hr hgl hl b_list (by decide) (by decide) he2
end Pk
/-! ## == of flat lists and tuples -/
namespace Pk
open PySem PySem.Spec PyProof.Rows L2
def dOf : V → PyData
  | .int i => .int i
  | .str z => .str z
  | _ => .none
def okV : V → Bool
  | .int _ => true
  | .non => true
  | .str z => PyData.strOk z
  | _ => false
theorem dOf_dp {K : Fr} {H : Hp} {x : V} (h : okV x = true) : Dp K H x (dOf x) := by
  cases x with
  | non => exact .non
  | int i => exact .int i
  | str z => exact .str z
  | _ => cases h
theorem dOf_dpA {K : Fr} {H : Hp} : ∀ {xs : List V}, xs.all okV = true → DpAll K H xs (xs.map dOf)
  | [], _ => .nil
  | x :: r, h => by
    rw [List.all_cons, Bool.and_eq_true] at h
    exact .cons (dOf_dp h.1) (dOf_dpA h.2)
theorem dOf_lay {x : V} (h : okV x = true) : (dOf x).canLay0 = true := by
  cases x with
  | non => simp [dOf, PyData.canLay0]
  | int i => simp [dOf, PyData.canLay0]
  | str z =>
    simp only [dOf, PyData.canLay0]
    exact h
  | _ => cases h
theorem dOf_layA : ∀ {xs : List V}, xs.all okV = true → PyData.canLayAll0 (xs.map dOf) = true
  | [], _ => by simp [PyData.canLayAll0]
  | x :: r, h => by
    rw [List.all_cons, Bool.and_eq_true] at h
    rw [List.map_cons]
    simp [PyData.canLayAll0, dOf_lay h.1, dOf_layA h.2]
theorem dOf_depth (x : V) : (dOf x).depth = 0 := by cases x <;> simp [dOf, PyData.depth]
theorem dOf_depthA : ∀ xs : List V, PyData.depthAll (xs.map dOf) ≤ 1
  | [] => by simp [PyData.depthAll]
  | x :: r => by
    have := dOf_depthA r
    have h2 := dOf_depth x
    rw [List.map_cons]
    simp only [PyData.depthAll, h2]
    omega
theorem shapedL {xs : List V} (h : xs.all okV = true) : SeqAt.shaped (.list (xs.map dOf)) = true := by
  have h1 := dOf_depthA xs
  have h2 : PyData.depth (.list (xs.map dOf)) ≤ 64 := by simp only [PyData.depth]; omega
  show (PyData.canLay0 (.list (xs.map dOf)) && decide (PyData.depth (.list (xs.map dOf)) ≤ 64)) = true
  rw [decide_eq_true h2, Bool.and_true]
  simp only [PyData.canLay0]
  exact dOf_layA h
theorem shapedT {xs : List V} (h : xs.all okV = true) : SeqAt.shaped (.tuple (xs.map dOf)) = true := by
  have h1 := dOf_depthA xs
  have h2 : PyData.depth (.tuple (xs.map dOf)) ≤ 64 := by simp only [PyData.depth]; omega
  show (PyData.canLay0 (.tuple (xs.map dOf)) && decide (PyData.depth (.tuple (xs.map dOf)) ≤ 64)) = true
  rw [decide_eq_true h2, Bool.and_true]
  simp only [PyData.canLay0]
  exact dOf_layA h
theorem dOf_eqv {x y : V} (h1 : okV x = true) (h2 : okV y = true) : PyData.eqv (dOf x) (dOf y) = decide (x = y) := by
  cases x <;> cases y <;> first | (cases h1; done) | (cases h2; done) | skip
  all_goals rw [Bool.eq_iff_iff]
  all_goals simp [dOf, PyData.eqv]
theorem dOf_eqvA : ∀ {xs ys : List V}, xs.all okV = true → ys.all okV = true → PyData.eqvAll (xs.map dOf) (ys.map dOf) = decide (xs = ys)
  | [], [], _, _ => by simp [PyData.eqvAll]
  | [], _ :: _, _, _ => by simp [PyData.eqvAll]
  | _ :: _, [], _, _ => by simp [PyData.eqvAll]
  | x :: r, y :: s, h1, h2 => by
    rw [List.all_cons, Bool.and_eq_true] at h1 h2
    rw [List.map_cons, List.map_cons]
    show (PyData.eqv (dOf x) (dOf y) && PyData.eqvAll (r.map dOf) (s.map dOf)) = _
    rw [dOf_eqv h1.1 h2.1, dOf_eqvA h1.2 h2.2, Bool.eq_iff_iff]
    simp
def rEqF (K : Fr) : R2 := fun x y H Q => ∃ a b xs ys, x = .ref a ∧ y = .ref b ∧ ((SqL K H a xs ∧ SqL K H b ys) ∨ (SqT K H a xs ∧ SqT K H b ys)) ∧ xs.all okV = true ∧ ys.all okV = true ∧ Q (.bl (decide (xs = ys))) H
def rNeF (K : Fr) : R2 := fun x y H Q => ∃ a b xs ys, x = .ref a ∧ y = .ref b ∧ ((SqL K H a xs ∧ SqL K H b ys) ∨ (SqT K H a xs ∧ SqT K H b ys)) ∧ xs.all okV = true ∧ ys.all okV = true ∧ Q (.bl (!decide (xs = ys))) H
section
variable {X : Cx}
theorem eqF (K : Fr) (hu : X.A.units + 64 < cLine) (h : X.K = K := by rfl) : OpR X (compareOp .Eq) (rEqF K) := by
  subst h
  intro pins s σ H x y v u Q I rx ry ⟨a, b, xs, ys, ex, ey, hs, ox, oy, q⟩
  rcases hs with ⟨s1, s2⟩ | ⟨s1, s2⟩
  · refine op_eqD hu pins s σ H x y v u Q I rx ry ⟨.list (xs.map dOf), .list (ys.map dOf), ex ▸ .lst s1 (dOf_dpA ox), ey ▸ .lst s2 (dOf_dpA oy), shapedL ox, shapedL oy, ?_⟩
    simp only [PyData.eqv]
    rw [dOf_eqvA ox oy]
    exact q
  · refine op_eqD hu pins s σ H x y v u Q I rx ry ⟨.tuple (xs.map dOf), .tuple (ys.map dOf), ex ▸ .tup s1 (dOf_dpA ox), ey ▸ .tup s2 (dOf_dpA oy), shapedT ox, shapedT oy, ?_⟩
    simp only [PyData.eqv]
    rw [dOf_eqvA ox oy]
    exact q
theorem neF (K : Fr) (hu : X.A.units + 64 < cLine) (h : X.K = K := by rfl) : OpR X (compareOp .NotEq) (rNeF K) := by
  subst h
  intro pins s σ H x y v u Q I rx ry ⟨a, b, xs, ys, ex, ey, hs, ox, oy, q⟩
  rcases hs with ⟨s1, s2⟩ | ⟨s1, s2⟩
  · refine op_neD hu pins s σ H x y v u Q I rx ry ⟨.list (xs.map dOf), .list (ys.map dOf), ex ▸ .lst s1 (dOf_dpA ox), ey ▸ .lst s2 (dOf_dpA oy), shapedL ox, shapedL oy, ?_⟩
    simp only [PyData.eqv]
    rw [dOf_eqvA ox oy]
    exact q
  · refine op_neD hu pins s σ H x y v u Q I rx ry ⟨.tuple (xs.map dOf), .tuple (ys.map dOf), ex ▸ .tup s1 (dOf_dpA ox), ey ▸ .tup s2 (dOf_dpA oy), shapedT ox, shapedT oy, ?_⟩
    simp only [PyData.eqv]
    rw [dOf_eqvA ox oy]
    exact q
def rEqB (K : Fr) : R2 := fun x y H Q => rEq x y H Q ∨ rEqF K x y H Q ∨ rEqD K x y H Q ∨ rEqDA x y H Q
theorem eqB (K : Fr) (hu : X.A.units + 64 < cLine) (h : X.K = K := by rfl) : OpR X (compareOp .Eq) (rEqB K) := op_eq.or ((eqF K hu h).or (OpR.or (by subst h; exact op_eqD hu) (op_eq_dictA (by omega))))
def rNeB (K : Fr) : R2 := fun x y H Q => rNe x y H Q ∨ rNeF K x y H Q ∨ rNeD K x y H Q ∨ rNeDA x y H Q
theorem neB (K : Fr) (hu : X.A.units + 64 < cLine) (h : X.K = K := by rfl) : OpR X (compareOp .NotEq) (rNeB K) := op_ne.or ((neF K hu h).or (OpR.or (by subst h; exact op_neD hu) (op_ne_dictA (by omega))))
end
theorem okV_app {xs ys : List V} (h1 : xs.all okV = true) (h2 : ys.all okV = true) : (xs ++ ys).all okV = true := by rw [List.all_append, h1, h2]; rfl
theorem okV_ints (l : List Int) : (l.map V.int).all okV = true := by
  rw [List.all_eq_true]
  intro x hx
  obtain ⟨i, _, rfl⟩ := List.mem_map.mp hx
  rfl
theorem okV_cV (n : Nat) (g : Nat → Int) : (cV n g).all okV = true := by
  rw [List.all_eq_true]
  intro x hx
  obtain ⟨i, _, rfl⟩ := List.mem_map.mp hx
  rfl
end Pk
namespace Pk
open PySem PySem.Spec PyProof.Rows L2
/-! ### text * int -/
theorem foldl_repS (z : List Nat) : ∀ (m : Nat) (acc : List Nat), List.foldl (fun (a b : Array Nat) => a ++ b) acc.toArray (List.replicate m z.toArray) = (acc ++ (List.replicate m z).flatten).toArray
  | 0, acc => by simp
  | m + 1, acc => by
    rw [List.replicate_succ, List.foldl_cons, List.append_toArray, foldl_repS z m (acc ++ z), List.replicate_succ, List.flatten_cons, List.append_assoc]
def rMulS : R2 := fun x y H Q => ∃ (z : List Nat) (n : Int), x = .str (sL z) ∧ y = .int n ∧ 1 ≤ n ∧ n ≤ 1000 ∧ z.length ≤ 10000 ∧ Q (.str (sL (List.replicate n.toNat z).flatten)) H
theorem op_mulS {X : Cx} : OpR X (binaryOp .Mult) rMulS := by
  intro pins s σ H x y v u Q I rx ry ⟨z, n, ex, ey, h1, h2, h3, q⟩
  subst ex ey
  obtain ⟨t, rfl⟩ := rx
  obtain ⟨t2, rfl⟩ := ry
  have hl : (sL z).length = z.length := sL_len z
  refine P.mul_str (by rw [decide_eq_false (by omega), decide_eq_false (by omega)]; rfl) (fun _ _ => ?_) (fun _ _ => ?_) ?_
  · rw [hl]
    have : (2 ^ 63 - 1) / n ≥ (2 ^ 63 - 1) / 1000 := by
      refine Int.le_ediv_of_mul_le (by omega) ?_
      omega
    omega
  · unfold Builtin.Str.tooLong
    rw [hl]
    have a1 : z.length * n.toNat ≤ 10000 * 1000 := Nat.mul_le_mul h3 (by omega)
    exact decide_eq_false (by rw [sizeLine_eq]; omega)
  · rw [if_neg (by omega)]
    by_cases hc : (n == 1 || (sL z).length == 0) = true
    · rw [if_pos hc]
      have e : (List.replicate n.toNat z).flatten = z := by
        rw [Bool.or_eq_true] at hc
        rcases hc with hc | hc
        · have : n = 1 := by simpa using hc
          subst this
          simp
        · have h0 : z = [] := by
            have : (sL z).length = 0 := by simpa using hc
            rw [hl] at this
            exact List.length_eq_zero_iff.mp this
          subst h0
          simp
      rw [e] at q
      exact ⟨.str (sL z), H, I, ⟨t, rfl⟩, q⟩
    · rw [if_neg hc]
      have e : (⟨(List.replicate n.toNat (sL z).cps).foldl (· ++ ·) #[]⟩ : Str) = sL (List.replicate n.toNat z).flatten := by
        have := foldl_repS z n.toNat []
        rw [List.nil_append] at this
        show (⟨List.foldl _ [].toArray (List.replicate n.toNat z.toArray)⟩ : Str) = _
        rw [this]
        rfl
      rw [e]
      refine ⟨?_, .str (sL (List.replicate n.toNat z).flatten), H, I.tok _, ⟨_, rfl⟩, q⟩
      rw [sizeLine_eq]
      show (sL (List.replicate n.toNat z).flatten).length ≤ _
      rw [sL_len]
      simp
      have a1 : n.toNat * z.length ≤ 1000 * 10000 := Nat.mul_le_mul (by omega) h3
      omega
end Pk
namespace Pk
open PySem PySem.Spec PyProof.Rows L2
def rMulB : R2 := fun x y H Q => rI CMul (fun i j => .int (i * j)) x y H Q ∨ rRep x y H Q ∨ rMulS x y H Q
theorem mulB {X : Cx} : OpR X (binaryOp .Mult) rMulB := op_mul.or (op_rep.or op_mulS)
end Pk
namespace Pk
open PySem PySem.Spec PyProof.Rows L2
theorem pe_imp {X : Cx} {e : Expr} {t t' : TE} (h : PE X e t) (i : ∀ σ H Q, t' σ H Q → t σ H Q) : PE X e t' := ⟨fun pins s σ H Q I hw => h.run pins s σ H Q I (i _ _ _ hw)⟩
theorem pe_makeR0 {X : Cx} {CX : CXT} {k : Nat} {f C : Addr} {sp : Sp} {E : XK} {x : Str} {p pos : Pos} (M : Mk X.K C f) (F : FnR X.prog X.w X.K X.mg X.base CX k f sp) (hr : Room (k + 1) X.A) (hg : Gl X x) (hm : X.mg x = some (.ref C)) (hx : Passes CX X E) (hdb : (x == ("__debug__" : Str)) = false := by decide) :
    PE X (.Call (.Name x p) [] [] pos) (StX.tMakeR C sp E tNil) := by
  refine ⟨fun pins s σ H Q I h => ?_⟩
  refine wpAny_Call_Name_kw (ld_glob I hg hm ?_ hdb)
  exact PySem.W.callWith_K0 I.kIn M.kp (StX.run_makeR (us := []) M F hr hx I .nil h)
end Pk
namespace Pk
open PySem PySem.Spec PyProof.Rows L2
def rListK (K : Fr) : List V → Hp → VK → Prop := fun xs H Q => ∃ (p : Addr) (ys : List V), xs = [.ref p] ∧ (SqL K H p ys ∨ SqT K H p ys) ∧ ∀ (l : Addr), H l = none → Q (.ref l) (upd H l (.lst ys))
theorem listK {X : Cx} (K : Fr) (h : X.K = K := by rfl) : CallR X (.type "list") (rListK K) := h ▸ call_list_of
end Pk
namespace Pk
open PySem PySem.Spec PyProof.Rows L2
/-- a comprehension without a test, whatever its step changes -/
theorem lc_all {J : It} {n : Nat} {G : Hp → Prop} {Y : Nat → Hp → V → Hp → Prop} (w : Walk J n G Y) {g : TG} {te : TE} {vs : List Nat} {σ : L2.St} {H1 : Hp} {D : Addr} {Qd : Hp → Prop} (Pv : Nat → Hp → Prop) (h0 : Pv 0 (upd H1 D (.lst []))) (hG : ∀ i H, i ≤ n → Pv i H → G H)
    (hs : ∀ i x H H', i < n → Pv i H → Y i H x H' → g x (wipe σ vs) H' fun σ2 H2 => wipe σ2 vs = wipe σ vs ∧ te σ2 H2 fun y H4 => ∃ acc, H4 D = some (.lst acc) ∧ acc.length < sizeLine ∧ Pv (i + 1) (upd H4 D (.lst (acc ++ [y])))) (hd : ∀ H, Pv n H → Qd H) :
    ∃ W : Nat → Nat → Hp → Prop, (∃ m, W 0 m (upd H1 D (.lst []))) ∧ ∀ i m H, W i m H →
      (J.stop i H ∧ Qd H) ∨ (J.go i H ∧ ∃ Nx : Hp → Prop, (∀ H', Nx H' → ∃ m', m' < m ∧ W (i + 1) m' H') ∧ ∀ x H', J.yld i H x H' → g x (wipe σ vs) H' fun σ2 H2 => wipe σ2 vs = wipe σ vs ∧ tYes σ2 H2 fun b H3 =>
        if b = true then te σ2 H3 fun y H4 => ∃ acc, H4 D = some (.lst acc) ∧ acc.length < sizeLine ∧ Nx (upd H4 D (.lst (acc ++ [y]))) else Nx H3) :=
  lc_it w Pv h0 hG (fun i x H H' hi p y => hs i x H H' hi p y) hd
end Pk
/-! ## Where keys of a kind stand -/
namespace Pk
open PySem L2
def cntP (st : List Stp) (P : Nat → Bool) (p : Nat) : Nat := ((ex st).take p).countP P
theorem cntP_zero (st : List Stp) (P : Nat → Bool) : cntP st P 0 = 0 := rfl
theorem cntP_mono (st : List Stp) (P : Nat → Bool) {p q : Nat} (h : p ≤ q) : cntP st P p ≤ cntP st P q := by
  unfold cntP
  exact List.Sublist.countP_le (List.take_sublist_take_left h)
theorem cnt_cntP (st : List Stp) (k p : Nat) : cnt st k p = cntP st (fun x => x == k) p := rfl
theorem rep_countP (P : Nat → Bool) (seg : List Nat) (n : Nat) : ((List.replicate n seg).flatten).countP P = n * seg.countP P := by
  induction n with
  | zero => simp
  | succ n ih =>
    rw [List.replicate_succ, List.flatten_cons, List.countP_append, ih, Nat.succ_mul]
    omega
theorem part_countP (E : List Nat) (P : Nat → Bool) (f m : Nat) : ((E.drop f).take m).countP P = (E.take (f + m)).countP P - (E.take f).countP P := by
  have e : E.take (f + m) = E.take f ++ (E.drop f).take m := List.take_add
  rw [e, List.countP_append]
  omega
theorem cntP_wr {most : Nat} {st : List Stp} {i : Nat} {w : List Nat} (h : Goes most 0 st) (e : st[i]? = some (.wr w)) (P : Nat → Bool) (m : Nat) (hm : m ≤ w.length) :
    cntP st P (sz (st.take i) + m) = cntP st P (sz (st.take i)) + (List.range' (nk (st.take i)) m).countP P := by
  obtain ⟨A, F, h1, h2, h3, h4⟩ := ex_split h e
  have hA : A = List.range' (nk (st.take i)) w.length := (List.append_cancel_left h2).symm
  unfold cntP
  rw [h1, ← h4, List.take_length_add_append, List.take_left, List.countP_append, List.take_append_of_le_length (by rw [h3]; exact hm), hA]
  congr 1
  have e3 : (List.range' (nk (st.take i)) w.length).take m = List.range' (nk (st.take i)) m := by
    refine List.ext_getElem (by simp; omega) fun j h1 h2 => ?_
    simp
  rw [e3]
theorem cntP_pa {most : Nat} {st : List Stp} {i f l t : Nat} (h : Goes most 0 st) (e : st[i]? = some (.pa f l t)) (P : Nat → Bool) (m : Nat) (hm : m ≤ (l + 1 - f) * t) :
    cntP st P (sz (st.take i) + m) = cntP st P (sz (st.take i)) + (m / (l + 1 - f)) * (cntP st P (l + 1) - cntP st P f) + (cntP st P (f + m % (l + 1 - f)) - cntP st P f) := by
  obtain ⟨A, F, h1, h2, h3, h4⟩ := ex_split h e
  obtain ⟨ok, _⟩ := goes_at h e
  simp [Stp.ok] at ok
  have hA : A = (List.replicate t (((ex (st.take i)).drop f).take (l + 1 - f))).flatten := (List.append_cancel_left h2).symm
  have hseg : (((ex (st.take i)).drop f).take (l + 1 - f)).length = l + 1 - f := by
    rw [List.length_take, List.length_drop, h4]
    omega
  have low : ∀ q, q ≤ sz (st.take i) → (ex st).take q = (ex (st.take i)).take q := fun q hq => by
    rw [h1, List.take_append_of_le_length (by omega)]
  have hmod : m % (l + 1 - f) < l + 1 - f := Nat.mod_lt _ (by omega)
  unfold cntP
  rw [low (l + 1) (by omega), low f (by omega), low (f + m % (l + 1 - f)) (by omega)]
  rw [h1, ← h4, List.take_length_add_append, List.take_left, List.countP_append, List.take_append_of_le_length (by rw [h3]; exact hm), hA, rep_take _ _ _ (by rw [hseg]; exact hm), hseg, List.countP_append, rep_countP, part_countP, List.take_take, Nat.min_eq_left (by omega), part_countP]
  rw [show f + (l + 1 - f) = l + 1 by omega]
  omega
theorem cntP_paI {most : Nat} {st : List Stp} {i f l t : Nat} (h : Goes most 0 st) (e : st[i]? = some (.pa f l t)) (P : Nat → Bool) (m : Nat) (hm : m ≤ (l + 1 - f) * t) :
    (cntP st P (sz (st.take i) + m) : Int) = (cntP st P (sz (st.take i)) : Int) + ((m / (l + 1 - f) : Nat) : Int) * ((cntP st P (l + 1) : Int) - (cntP st P f : Int)) - (cntP st P f : Int) + (cntP st P (f + m % (l + 1 - f)) : Int) := by
  obtain ⟨ok, _⟩ := goes_at h e
  simp [Stp.ok] at ok
  have h1 := cntP_mono st P (show f ≤ l + 1 by omega)
  have h2 := cntP_mono st P (show f ≤ f + m % (l + 1 - f) by omega)
  rw [cntP_pa h e P m hm, ← Int.ofNat_sub h1]
  rw [Int.natCast_add, Int.natCast_add, Int.natCast_mul, Int.ofNat_sub h2]
  omega
theorem keeps_pre {v : Nat → V} {f : Nat → Bool} : ∀ (n m : Nat), m ≤ n → (∀ i, i < n → f i = decide (i < m)) → keeps n f v = (List.range m).map v
  | 0, m, h, _ => by
    have : m = 0 := by omega
    subst this
    rfl
  | n + 1, m, h, hf => by
    rw [keeps_succ]
    by_cases e : m = n + 1
    · subst e
      rw [if_pos (by rw [hf n (by omega)]; simp), keeps_pre n n (Nat.le_refl _) fun i hi => by rw [hf i (by omega), decide_eq_true (by omega), decide_eq_true hi], List.range_succ, List.map_append]
      rfl
    · rw [if_neg (by rw [hf n (by omega)]; simp; omega)]
      exact keeps_pre n m (by omega) fun i hi => hf i (by omega)
theorem sz_take_mono (st : List Stp) {i j : Nat} (h : i ≤ j) : sz (st.take i) ≤ sz (st.take j) := by
  have e : st.take j = st.take i ++ (st.drop i).take (j - i) := by
    rw [← List.take_add, show i + (j - i) = j by omega]
  rw [e, sz_app]
  omega
theorem step_of {st : List Stp} : ∀ (d : Nat) {p : Nat}, 0 < p → p ≤ sz (st.take d) → ∃ m, m < d ∧ m < st.length ∧ sz (st.take m) < p ∧ p ≤ sz (st.take (m + 1))
  | 0, p, h0, h => by simp [sz] at h; omega
  | d + 1, p, h0, h => by
    by_cases h1 : p ≤ sz (st.take d)
    · obtain ⟨m, a, b, c, e⟩ := step_of d h0 h1
      exact ⟨m, by omega, b, c, e⟩
    · refine ⟨d, by omega, ?_, by omega, h⟩
      rcases Nat.lt_or_ge d st.length with z | z
      · exact z
      · rw [List.take_of_length_le (by omega)] at h
        rw [List.take_of_length_le z] at h1
        omega
theorem cntP_all {most : Nat} {st : List Stp} (h : Goes most 0 st) (P : Nat → Bool) {p : Nat} (hp : sz st ≤ p) : cntP st P p = (ex st).countP P := by
  unfold cntP
  rw [List.take_of_length_le (by rw [ex_len _ h]; exact hp)]
theorem cntP_succ {st : List Stp} {P : Nat → Bool} {p k : Nat} (h : (ex st)[p]? = some k) : cntP st P (p + 1) = cntP st P p + if P k = true then 1 else 0 := by
  unfold cntP
  rw [take_succ h, List.countP_append, List.countP_singleton]
/-- two places of such keys with as many ahead are one -/
theorem cntP_inj {st : List Stp} {P : Nat → Bool} {p q k m : Nat} (hp : (ex st)[p]? = some k) (hk : P k = true) (hq : (ex st)[q]? = some m) (hm : P m = true) (e : cntP st P p = cntP st P q) : p = q := by
  have h1 := cntP_succ (P := P) hp
  have h2 := cntP_succ (P := P) hq
  rw [if_pos hk] at h1
  rw [if_pos hm] at h2
  rcases Nat.lt_trichotomy p q with h | h | h
  · have := cntP_mono st P (show p + 1 ≤ q by omega)
    omega
  · exact h
  · have := cntP_mono st P (show q + 1 ≤ p by omega)
    omega
theorem cntP_le (st : List Stp) (P : Nat → Bool) (p : Nat) : cntP st P p ≤ p := by
  unfold cntP
  exact Nat.le_trans (List.countP_le_length) (by rw [List.length_take]; omega)
/-! ### the places themselves -/
def occL (E : List Nat) (P : Nat → Bool) (n : Nat) : List Nat := (List.range n).filter fun p => P (E.getD p 0)
def occ (st : List Stp) (P : Nat → Bool) : List Nat := occL (ex st) P (ex st).length
theorem occL_succ (E : List Nat) (P : Nat → Bool) (n : Nat) : occL E P (n + 1) = occL E P n ++ if P (E.getD n 0) = true then [n] else [] := by
  unfold occL
  rw [List.range_succ, List.filter_append]
  congr 1
  rw [List.filter_cons]
  split <;> simp
theorem occL_len (E : List Nat) (P : Nat → Bool) : ∀ n, n ≤ E.length → (occL E P n).length = (E.take n).countP P
  | 0, _ => by simp [occL]
  | n + 1, h => by
    have e : E[n]? = some (E[n]'(by omega)) := List.getElem?_eq_getElem (by omega)
    have e2 : E.getD n 0 = E[n]'(by omega) := by rw [List.getD_eq_getElem?_getD, e]; rfl
    rw [occL_succ, List.length_append, occL_len E P n (by omega), take_succ e, List.countP_append, List.countP_singleton, e2]
    split <;> rfl
theorem occL_get (E : List Nat) (P : Nat → Bool) : ∀ n, n ≤ E.length → ∀ j p, (occL E P n)[j]? = some p ↔ p < n ∧ P (E.getD p 0) = true ∧ (E.take p).countP P = j
  | 0, _, j, p => by simp [occL]
  | n + 1, h, j, p => by
    have hl := occL_len E P n (by omega)
    rw [occL_succ]
    by_cases hj : j < (occL E P n).length
    · rw [List.getElem?_append_left hj, occL_get E P n (by omega)]
      constructor
      · rintro ⟨a, b, c⟩
        exact ⟨by omega, b, c⟩
      · rintro ⟨a, b, c⟩
        refine ⟨?_, b, c⟩
        rcases Nat.lt_or_ge p n with z | z
        · exact z
        · have : p = n := by omega
          subst this
          omega
    · rw [List.getElem?_append_right (by omega)]
      constructor
      · intro z
        by_cases hP : P (E.getD n 0) = true
        · rw [if_pos hP] at z
          have h0 : j - (occL E P n).length = 0 := by
            rcases Nat.eq_zero_or_pos (j - (occL E P n).length) with y | y
            · exact y
            · rw [List.getElem?_eq_none (by simp; omega)] at z
              cases z
          rw [h0] at z
          have : n = p := by simpa using z
          subst this
          exact ⟨by omega, hP, by omega⟩
        · rw [if_neg hP] at z
          simp at z
      · rintro ⟨a, b, c⟩
        rcases Nat.lt_or_ge p n with z | z
        · have := (occL_get E P n (by omega) j p).mpr ⟨z, b, c⟩
          exact absurd (List.getElem?_eq_some_iff.mp this).1 hj
        · have : p = n := by omega
          subst this
          rw [if_pos b, show j - (occL E P p).length = 0 by omega]
          rfl
theorem occ_get {st : List Stp} {P : Nat → Bool} {j p : Nat} : (occ st P)[j]? = some p ↔ ∃ k, (ex st)[p]? = some k ∧ P k = true ∧ cntP st P p = j := by
  unfold occ
  rw [occL_get _ _ _ (Nat.le_refl _)]
  constructor
  · rintro ⟨a, b, c⟩
    refine ⟨(ex st)[p], List.getElem?_eq_getElem a, ?_, c⟩
    rw [List.getD_eq_getElem?_getD, List.getElem?_eq_getElem a] at b
    exact b
  · rintro ⟨k, a, b, c⟩
    have := (List.getElem?_eq_some_iff.mp a).1
    refine ⟨this, ?_, c⟩
    rw [List.getD_eq_getElem?_getD, a]
    exact b
theorem occ_len {st : List Stp} {P : Nat → Bool} : (occ st P).length = (ex st).countP P := by
  unfold occ
  rw [occL_len _ _ _ (Nat.le_refl _), List.take_length]
def optV : Option Nat → V
  | none => .non
  | some p => .int p
theorem occ_none {st : List Stp} (h : Goes most 0 st) {P : Nat → Bool} {n : Nat} (hn : cntP st P (sz st) ≤ n) : (occ st P)[n]? = none := by
  rw [List.getElem?_eq_none_iff, occ_len, ← cntP_all h P (Nat.le_refl _)]
  exact hn
theorem occ_some {st : List Stp} (h : Goes most 0 st) {P : Nat → Bool} {n : Nat} (hn : n < cntP st P (sz st)) : ∃ p, (occ st P)[n]? = some p := by
  rw [cntP_all h P (Nat.le_refl _), ← occ_len] at hn
  exact ⟨_, List.getElem?_eq_getElem hn⟩
theorem step_cnt {st : List Stp} {P : Nat → Bool} : ∀ (d : Nat) {n : Nat}, n < cntP st P (sz (st.take d)) → ∃ m, m < d ∧ m < st.length ∧ cntP st P (sz (st.take m)) ≤ n ∧ n < cntP st P (sz (st.take (m + 1)))
  | 0, n, h => by
    have : sz (st.take 0) = 0 := rfl
    rw [this, cntP_zero] at h
    omega
  | d + 1, n, h => by
    by_cases h1 : n < cntP st P (sz (st.take d))
    · obtain ⟨m, a, b, c, e⟩ := step_cnt d h1
      exact ⟨m, by omega, b, c, e⟩
    · refine ⟨d, by omega, ?_, by omega, h⟩
      rcases Nat.lt_or_ge d st.length with z | z
      · exact z
      · rw [List.take_of_length_le (by omega)] at h
        rw [List.take_of_length_le z] at h1
        omega
/-- a place within a pasted span, by the place that it goes back to -/
theorem occ_pa {st : List Stp} {i f l t : Nat} (h : Goes most 0 st) (e : st[i]? = some (.pa f l t)) {P : Nat → Bool} {n u : Nat} (hn : n = cntP st P (sz (st.take i)) + u) (h2 : n < cntP st P (sz (st.take (i + 1)))) :
    cntP st P f < cntP st P (l + 1) ∧ u / (cntP st P (l + 1) - cntP st P f) < t ∧ ∃ q, (occ st P)[cntP st P f + u % (cntP st P (l + 1) - cntP st P f)]? = some q ∧ f ≤ q ∧ q ≤ l ∧ (occ st P)[n]? = some (sz (st.take i) + (u / (cntP st P (l + 1) - cntP st P f)) * (l + 1 - f) + (q - f)) := by
  obtain ⟨ok, lim⟩ := goes_at h e
  simp only [Stp.ok, Bool.and_eq_true, decide_eq_true_eq] at ok
  have hz1 : sz (st.take (i + 1)) = sz (st.take i) + (l + 1 - f) * t := by rw [take_succ e, sz_app]; simp [sz, Stp.gr]
  have hw : 0 < l + 1 - f := by omega
  have hall := cntP_pa h e P ((l + 1 - f) * t) (Nat.le_refl _)
  rw [Nat.mul_div_cancel_left t hw, Nat.mul_mod_right, Nat.add_zero f, Nat.sub_self, Nat.add_zero, ← hz1] at hall
  have hm := cntP_mono st P (show f ≤ l + 1 by omega)
  have hu : u < t * (cntP st P (l + 1) - cntP st P f) := by omega
  have hpos : 0 < cntP st P (l + 1) - cntP st P f := by
    rcases Nat.eq_zero_or_pos (cntP st P (l + 1) - cntP st P f) with z | z
    · rw [z] at hu
      omega
    · exact z
  have hdiv : u / (cntP st P (l + 1) - cntP st P f) < t := by
    rw [Nat.div_lt_iff_lt_mul hpos]
    exact hu
  have hmod := Nat.mod_lt u hpos
  have hsz : sz (st.take i) ≤ sz st := by have := sz_take_mono st (show i ≤ st.length by have := (List.getElem?_eq_some_iff.mp e).1; omega); rwa [List.take_length] at this
  have hl1 := cntP_mono st P (show l + 1 ≤ sz st by omega)
  obtain ⟨q, hq⟩ := occ_some h (P := P) (n := cntP st P f + u % (cntP st P (l + 1) - cntP st P f)) (by omega)
  obtain ⟨k, hk, hP, hc⟩ := occ_get.mp hq
  have hs := cntP_succ (P := P) hk
  rw [if_pos hP] at hs
  have hfq : f ≤ q := by
    rcases Nat.lt_or_ge q f with z | z
    · have := cntP_mono st P (show q + 1 ≤ f by omega)
      omega
    · exact z
  have hql : q ≤ l := by
    rcases Nat.lt_or_ge l q with z | z
    · have := cntP_mono st P (show l + 1 ≤ q by omega)
      omega
    · exact z
  refine ⟨by omega, hdiv, q, hq, hfq, hql, ?_⟩
  generalize hcc : u / (cntP st P (l + 1) - cntP st P f) = c at *
  have hoff : c * (l + 1 - f) + (q - f) < (l + 1 - f) * t := by
    have h3 : (c + 1) * (l + 1 - f) ≤ t * (l + 1 - f) := Nat.mul_le_mul_right _ (by omega)
    rw [Nat.add_mul, Nat.one_mul] at h3
    rw [Nat.mul_comm (l + 1 - f) t]
    omega
  have ho1 : (c * (l + 1 - f) + (q - f)) / (l + 1 - f) = c := by
    rw [Nat.mul_comm, Nat.mul_add_div hw, Nat.div_eq_of_lt (by omega), Nat.add_zero]
  have ho2 : (c * (l + 1 - f) + (q - f)) % (l + 1 - f) = q - f := by
    rw [Nat.mul_comm, Nat.mul_add_mod, Nat.mod_eq_of_lt (by omega)]
  rw [Nat.add_assoc]
  refine occ_get.mpr ⟨k, ?_, hP, ?_⟩
  · have := (ex_pa h e (p := sz (st.take i) + (c * (l + 1 - f) + (q - f))) (by omega) (by omega)).1
    rw [this, Nat.add_sub_cancel_left, ho2, show f + (q - f) = q by omega]
    exact hk
  · rw [cntP_pa h e P _ (Nat.le_of_lt hoff), ho1, ho2, show f + (q - f) = q by omega, hc]
    have hu2 : u = c * (cntP st P (l + 1) - cntP st P f) + u % (cntP st P (l + 1) - cntP st P f) := by
      rw [← hcc, Nat.mul_comm]
      exact (Nat.div_add_mod u _).symm
    omega
/-! ### wanted keys: an ascending list -/
def isIn (ws : List Nat) (k : Nat) : Bool := decide (k ∈ ws)
theorem range_in (ws : List Nat) (hn : ws.Nodup) (n m : Nat) : (List.range' n m).countP (isIn ws) = (ws.filter fun k => decide (n ≤ k) && decide (k < n + m)).length := by
  induction ws with
  | nil =>
    have : (List.range' n m).countP (isIn []) = 0 := by rw [List.countP_eq_zero]; intro a _; simp [isIn]
    rw [this]
    rfl
  | cons a r ih =>
    rw [List.nodup_cons] at hn
    have h1 : (List.range' n m).countP (isIn (a :: r)) = (List.range' n m).count a + (List.range' n m).countP (isIn r) := by
      induction (List.range' n m) with
      | nil => rfl
      | cons b s ih2 =>
        rw [List.countP_cons, List.count_cons, List.countP_cons, ih2]
        by_cases e : b = a
        · subst e
          have : isIn r b = false := decide_eq_false hn.1
          simp [isIn, hn.1]
          omega
        · have : isIn (a :: r) b = isIn r b := by simp [isIn, e]
          rw [this]
          simp [e]
          omega
    rw [h1, ih hn.2, range_count, List.filter_cons]
    by_cases h : n ≤ a ∧ a < n + m
    · rw [if_pos h, if_pos (by simp [h.1, h.2]), List.length_cons]
      omega
    · rw [if_neg h, if_neg (by simpa using h)]
      omega
theorem asc_nodup {ws : List Nat} (h : ws.Pairwise (· < ·)) : ws.Nodup := h.imp fun z => Nat.ne_of_lt z
theorem asc_take : ∀ {l : List Nat} {j k : Nat}, l.Pairwise (· < ·) → l[j]? = some k → (l.filter fun x => decide (x < k)).length = j
  | [], _, _, _, h => by simp at h
  | a :: r, 0, k, hp, h => by
    have e : a = k := by simpa using h
    subst e
    rw [List.pairwise_cons] at hp
    rw [List.filter_cons, if_neg (by simp), List.filter_eq_nil_iff.mpr fun x hx => by have := hp.1 x hx; simp; omega]
    rfl
  | a :: r, j + 1, k, hp, h => by
    rw [List.pairwise_cons] at hp
    have h2 : r[j]? = some k := by simpa using h
    have := hp.1 k (List.mem_of_getElem? h2)
    rw [List.filter_cons, if_pos (by simp [this]), List.length_cons, asc_take hp.2 h2]
/-- the j-th wanted key from n on: j wanted ones stand between -/
theorem own_at {ws : List Nat} (h : ws.Pairwise (· < ·)) {n j k : Nat} (e : (ws.filter fun x => decide (n ≤ x))[j]? = some k) : n ≤ k ∧ k ∈ ws ∧ (List.range' n (k - n)).countP (isIn ws) = j := by
  have hm := List.mem_of_getElem? e
  rw [List.mem_filter] at hm
  have hn : n ≤ k := of_decide_eq_true hm.2
  refine ⟨hn, hm.1, ?_⟩
  rw [range_in ws (asc_nodup h)]
  have h2 := asc_take (List.Pairwise.filter (fun x => decide (n ≤ x)) h) e
  rw [List.filter_filter] at h2
  rw [← h2]
  congr 1
  refine List.filter_congr fun x _ => ?_
  rw [show n + (k - n) = k by omega, Bool.and_comm]
theorem own_len {ws : List Nat} (h : ws.Pairwise (· < ·)) {n m j : Nat} (e : j < (List.range' n m).countP (isIn ws)) : ∃ k, (ws.filter fun x => decide (n ≤ x))[j]? = some k ∧ k < n + m := by
  rw [range_in ws (asc_nodup h)] at e
  have hj : j < (ws.filter fun x => decide (n ≤ x)).length := by
    refine Nat.lt_of_lt_of_le e ?_
    rw [← List.countP_eq_length_filter, ← List.countP_eq_length_filter]
    exact List.countP_mono_left fun x _ hx => by
      rw [Bool.and_eq_true] at hx
      exact hx.1
  refine ⟨_, List.getElem?_eq_getElem hj, ?_⟩
  have h2 := asc_take (List.Pairwise.filter (fun x => decide (n ≤ x)) h) (List.getElem?_eq_getElem hj)
  rcases Nat.lt_or_ge ((ws.filter fun x => decide (n ≤ x))[j]) (n + m) with z | z
  · exact z
  · exfalso
    have h3 : (ws.filter fun k => decide (n ≤ k) && decide (k < n + m)).length ≤ ((ws.filter fun x => decide (n ≤ x)).filter fun x => decide (x < (ws.filter fun x => decide (n ≤ x))[j])).length := by
      rw [List.filter_filter, ← List.countP_eq_length_filter, ← List.countP_eq_length_filter]
      refine List.countP_mono_left fun x _ hx => ?_
      rw [Bool.and_eq_true, decide_eq_true_iff, decide_eq_true_iff] at hx
      rw [Bool.and_eq_true, decide_eq_true_iff, decide_eq_true_iff]
      exact ⟨by omega, hx.1⟩
    omega
end Pk
/-! ## Letters: the keys that type them, counts by letters, dicts with letters for keys -/
namespace Pk
open PySem PySem.Spec PyProof.Rows L2
/-- the key types the letter -/
def lP (st : List Stp) (c k : Nat) : Bool := (typed st).getD k 0 == c
def lks (st : List Stp) (c : Nat) : List Nat := (List.range (nk st)).filter (lP st c)
theorem lks_asc (st : List Stp) (c : Nat) : (lks st c).Pairwise (· < ·) := List.Pairwise.filter _ List.pairwise_lt_range
theorem lks_len (st : List Stp) (c : Nat) : (lks st c).length ≤ nk st := Nat.le_trans (List.length_filter_le _ _) (by simp)
theorem lP_lt {st : List Stp} {c k : Nat} (h : isLet c = true) (z : lP st c k = true) : k < nk st := by
  rcases Nat.lt_or_ge k (nk st) with q | q
  · exact q
  · unfold lP at z
    rw [List.getD_eq_getElem?_getD, List.getElem?_eq_none (by rw [typed_len]; exact q)] at z
    have z2 : (0 : Nat) = c := by simpa using z
    rw [← z2] at h
    exact absurd h (by decide)
theorem lks_in {st : List Stp} {c : Nat} (h : isLet c = true) : isIn (lks st c) = lP st c := by
  funext k
  unfold isIn lks
  rw [Bool.eq_iff_iff, decide_eq_true_eq, List.mem_filter, List.mem_range]
  exact ⟨fun z => z.2, fun z => ⟨lP_lt h z, z⟩⟩
theorem sgn_at {z : List Nat} {i : Nat} {v : V} (h : (sgn (sL z))[i]? = some v) : ∃ c, z[i]? = some c ∧ v = .str (sL [c]) := by
  unfold sgn at h
  rw [List.getElem?_map] at h
  cases e : (sL z).cps.toList[i]? with
  | none => rw [e] at h; cases h
  | some c => rw [e] at h; cases h; exact ⟨c, e, rfl⟩
theorem sgn_len (z : List Nat) : (sgn (sL z)).length = z.length := by unfold sgn; rw [List.length_map]; rfl
/-! ### the letters of a text -/
def ltr (st : List Stp) (k : Nat) : Nat := (typed st).getD k 0
def lts (st : List Stp) : List Nat := (ex st).map (ltr st)
theorem lts_len (st : List Stp) : (lts st).length = (ex st).length := List.length_map ..
theorem ltr_at {st : List Stp} {k c : Nat} (h : (typed st)[k]? = some c) : ltr st k = c := by unfold ltr; rw [List.getD_eq_getElem?_getD, h]; rfl
theorem lts_at {st : List Stp} {p k : Nat} (h : (ex st)[p]? = some k) : (lts st)[p]? = some (ltr st k) := by unfold lts; rw [List.getElem?_map, h]; rfl
theorem key_typed {st : List Stp} {k : Nat} (h : k < nk st) : (typed st)[k]? = some (ltr st k) := by
  unfold ltr
  rw [List.getD_eq_getElem?_getD, List.getElem?_eq_getElem (by rw [typed_len]; exact h)]
  rfl
theorem ltr_let {st : List Stp} {k : Nat} (hlet : (typed st).all isLet = true) (h : k < nk st) : isLet (ltr st k) = true := (List.all_eq_true.mp hlet) _ (List.mem_of_getElem? (key_typed h))
/-! ### sums by letters -/
def sumL (st : List Stp) (c i : Nat) (g : Nat → Int) : Int := (((List.range i).filter (lP st c)).map g).sum
theorem sumL_succ {st : List Stp} {c i d : Nat} (g : Nat → Int) (h : (typed st)[i]? = some d) : sumL st c (i + 1) g = sumL st c i g + if d = c then g i else 0 := by
  have hp : lP st c i = decide (d = c) := by
    unfold lP
    rw [List.getD_eq_getElem?_getD, h]
    rfl
  unfold sumL
  rw [List.range_succ, List.filter_append, List.map_append, List.sum_append]
  by_cases e : d = c
  · rw [if_pos e]
    simp [hp, e]
  · rw [if_neg e]
    simp [hp, e]
theorem sum_ones (x : Nat) : ∀ l : List Nat, (l.map fun k => if x = k then (1 : Int) else 0).sum = (l.count x : Nat)
  | [] => rfl
  | a :: r => by
    rw [List.map_cons, List.sum_cons, sum_ones x r, List.count_cons]
    by_cases e : x = a
    · rw [if_pos e]; simp [e]; omega
    · rw [if_neg e]; simp [Ne.symm e]
theorem sum_add (f g : Nat → Int) : ∀ l : List Nat, (l.map fun k => f k + g k).sum = (l.map f).sum + (l.map g).sum
  | [] => rfl
  | a :: r => by
    rw [List.map_cons, List.sum_cons, sum_add f g r, List.map_cons, List.sum_cons, List.map_cons, List.sum_cons]
    omega
theorem sum_sub (f g : Nat → Int) : ∀ l : List Nat, (l.map fun k => f k - g k).sum = (l.map f).sum - (l.map g).sum
  | [] => rfl
  | a :: r => by
    rw [List.map_cons, List.sum_cons, sum_sub f g r, List.map_cons, List.sum_cons, List.map_cons, List.sum_cons]
    omega
theorem sum_zero : ∀ l : List Nat, (l.map fun _ => (0 : Int)).sum = 0
  | [] => rfl
  | a :: r => by rw [List.map_cons, List.sum_cons, sum_zero r]; rfl
theorem nd_count {x : Nat} : ∀ {l : List Nat}, l.Nodup → x ∈ l → l.count x = 1
  | [], _, h => by simp at h
  | a :: r, hn, h => by
    rw [List.nodup_cons] at hn
    rw [List.count_cons]
    rcases List.mem_cons.mp h with e | e
    · subst e
      rw [List.count_eq_zero_of_not_mem hn.1]
      simp
    · rw [nd_count hn.2 e]
      have : ¬ a = x := fun z => hn.1 (z ▸ e)
      simp [this]
theorem sum_count {P : Nat → Bool} {n : Nat} : ∀ E : List Nat, (∀ k ∈ E, k < n) → (((List.range n).filter P).map fun k => (E.count k : Int)).sum = (E.countP P : Nat)
  | [], _ => by
    have : (fun k => (([] : List Nat).count k : Int)) = fun _ => 0 := by funext k; simp
    rw [this, sum_zero]
    rfl
  | x :: r, h => by
    have e : (fun k => ((x :: r).count k : Int)) = fun k => (r.count k : Int) + if x = k then 1 else 0 := by
      funext k
      rw [List.count_cons]
      by_cases e : x = k
      · simp [e]
      · simp [e]
    rw [e, sum_add, sum_count r fun k hk => h k (List.mem_cons_of_mem _ hk), sum_ones, List.countP_cons]
    have hx := h x List.mem_cons_self
    have hnd : ((List.range n).filter P).Nodup := List.Nodup.sublist List.filter_sublist List.nodup_range
    by_cases hp : P x = true
    · rw [if_pos hp, nd_count hnd (by rw [List.mem_filter, List.mem_range]; exact ⟨hx, hp⟩)]
      omega
    · rw [if_neg hp, List.count_eq_zero_of_not_mem (by rw [List.mem_filter]; exact fun z => hp z.2)]
      omega
theorem sum_cnt {st : List Stp} (P : Nat → Bool) (p : Nat) : (((List.range (nk st)).filter P).map fun k => (cnt st k p : Int)).sum = (cntP st P p : Nat) :=
  sum_count ((ex st).take p) fun k hk => ex_lt st k (List.mem_of_mem_take hk)
/-! ### dicts with letters for keys -/
def kvL (W : WL) : List (Key × V) := W.map fun p => ((.inr (sL [p.1]) : Key), V.int p.2)
theorem sL1 {p q : Nat} : (Sum.inr (sL [p]) : Key) = .inr (sL [q]) ↔ p = q := by
  refine ⟨fun e => ?_, fun e => by rw [e]⟩
  injection e with e
  have := sL_inj.mp e
  simpa using this
theorem kvL_len (W : WL) : (kvL W).length = W.length := List.length_map ..
theorem valV_L (p : Nat) : ∀ W : WL, (valV (kvL W) (.inr (sL [p]))).getD (.int 0) = .int (getW W p)
  | [] => rfl
  | a :: r => by
    unfold getW
    by_cases e : a.1 = p
    · rw [if_pos e]
      show (valV (((.inr (sL [a.1]) : Key), V.int a.2) :: kvL r) _).getD _ = _
      rw [valV_pos (sL1.mpr e)]
      rfl
    · rw [if_neg e]
      show (valV (((.inr (sL [a.1]) : Key), V.int a.2) :: kvL r) _).getD _ = _
      rw [valV_neg fun z => e (sL1.mp z)]
      exact valV_L p r
theorem valV_inL {p : Nat} : ∀ {W : WL}, p ∈ W.map (·.1) → valV (kvL W) (.inr (sL [p])) = some (.int (getW W p))
  | [], h => by simp at h
  | a :: r, h => by
    unfold getW
    by_cases e : a.1 = p
    · rw [if_pos e]
      show valV (((.inr (sL [a.1]) : Key), V.int a.2) :: kvL r) _ = _
      rw [valV_pos (sL1.mpr e)]
    · rw [if_neg e]
      show valV (((.inr (sL [a.1]) : Key), V.int a.2) :: kvL r) _ = _
      rw [valV_neg fun z => e (sL1.mp z)]
      refine valV_inL ?_
      simp only [List.map_cons, List.mem_cons] at h
      exact h.resolve_left (Ne.symm e)
theorem valV_outL {p : Nat} {W : WL} (h : p ∉ W.map (·.1)) : valV (kvL W) (.inr (sL [p])) = none := by
  refine valV_none fun q hq e => ?_
  obtain ⟨a, ha, rfl⟩ := List.mem_map.mp hq
  exact h (List.mem_map.mpr ⟨a, ha, sL1.mp e⟩)
theorem any_L (W : WL) (p : Nat) : ((kvL W).any fun kv => decide (kv.1 = .inr (sL [p]))) = decide (p ∈ W.map (·.1)) := by
  rw [Bool.eq_iff_iff, List.any_eq_true, decide_eq_true_iff]
  constructor
  · rintro ⟨x, hx, e⟩
    obtain ⟨a, ha, rfl⟩ := List.mem_map.mp hx
    exact List.mem_map.mpr ⟨a, ha, sL1.mp (of_decide_eq_true e)⟩
  · intro h
    obtain ⟨a, ha, e⟩ := List.mem_map.mp h
    exact ⟨_, List.mem_map.mpr ⟨a, ha, rfl⟩, decide_eq_true (sL1.mpr e)⟩
theorem putK_L {W : WL} (p : Nat) (w : Int) (hn : (W.map (·.1)).Nodup) : putK (kvL W) (.inr (sL [p])) (.int (getW W p + w)) = kvL (addW W p w) := by
  unfold putK
  rw [any_L]
  by_cases h : p ∈ W.map (·.1)
  · rw [decide_eq_true h, if_pos rfl, addW_in hn h]
    unfold kvL
    rw [List.map_map, List.map_map]
    refine List.map_congr_left fun q _ => ?_
    simp only [Function.comp]
    by_cases e : q.1 = p
    · rw [if_pos (sL1.mpr e), if_pos e]
    · rw [if_neg (fun z => e (sL1.mp z)), if_neg e]
  · rw [decide_eq_false h, if_neg (by decide), addW_out h, getW_out h, Int.zero_add]
    simp [kvL]
theorem getW_add (p q : Nat) (w : Int) : ∀ W : WL, getW (addW W p w) q = getW W q + if q = p then w else 0
  | [] => by
    unfold addW
    show (if p = q then w else 0) = 0 + _
    by_cases e : q = p
    · rw [if_pos e, if_pos e.symm]; omega
    · rw [if_neg e, if_neg (Ne.symm e)]; omega
  | a :: r => by
    unfold addW
    by_cases e : a.1 = p
    · rw [if_pos e]
      show (if a.1 = q then a.2 + w else getW r q) = (if a.1 = q then a.2 else getW r q) + _
      by_cases e2 : a.1 = q
      · rw [if_pos e2, if_pos e2, if_pos (e2.symm.trans e)]
      · rw [if_neg e2, if_neg e2, if_neg (fun z => e2 (e.trans z.symm))]; omega
    · rw [if_neg e]
      show (if a.1 = q then a.2 else getW (addW r p w) q) = (if a.1 = q then a.2 else getW r q) + _
      by_cases e2 : a.1 = q
      · rw [if_pos e2, if_pos e2, if_neg (fun z => e (e2.trans z))]; omega
      · rw [if_neg e2, if_neg e2, getW_add p q w r]
/-! ### sorted letters -/
theorem rising_one : ∀ (l : List Nat) (a : Nat), risingS (sL [a]) (l.map fun c => sL [c]) = true → (a :: l).Pairwise (· ≤ ·) := by
  intro l
  induction l with
  | nil => intro a _; exact List.pairwise_singleton _ _
  | cons b r ih =>
    intro a h
    have h2 : (!ltCps [b] [a] && risingS (sL [b]) (r.map fun c => sL [c])) = true := h
    rw [Bool.and_eq_true] at h2
    have ih2 := ih b h2.2
    have hab : a ≤ b := by
      have h1 := h2.1
      simp [ltCps] at h1
      exact h1
    refine List.pairwise_cons.mpr ⟨fun x hx => ?_, ih2⟩
    rcases List.mem_cons.mp hx with e | e
    · rw [e]; exact hab
    · exact Nat.le_trans hab ((List.pairwise_cons.mp ih2).1 x e)
theorem sorted_one {ks : List Nat} {ys : List Str} (h : ys.Perm (ks.map fun c => sL [c])) (hs : sortedS ys = true) (hn : ks.Nodup) : ∃ cs : List Nat, cs.Perm ks ∧ ys = cs.map (fun c => sL [c]) ∧ cs.Pairwise (· < ·) := by
  have e : ys = (ys.map fun y => y.cps.toList.headD 0).map fun c => sL [c] := by
    rw [List.map_map]
    refine (List.map_id ys).symm.trans (List.map_congr_left fun y hy => ?_)
    obtain ⟨c, _, rfl⟩ := List.mem_map.mp (h.mem_iff.mp hy)
    rfl
  have hp : (ys.map fun y => y.cps.toList.headD 0).Perm ks := by
    have := h.map fun y : Str => y.cps.toList.headD 0
    rw [List.map_map] at this
    have e2 : ((fun y : Str => y.cps.toList.headD 0) ∘ fun c => sL [c]) = id := by funext c; rfl
    rw [e2, List.map_id] at this
    exact this
  generalize (ys.map fun y => y.cps.toList.headD 0) = cs at *
  refine ⟨cs, hp, e, ?_⟩
  have hle : cs.Pairwise (· ≤ ·) := by
    rw [e] at hs
    cases cs with
    | nil => exact .nil
    | cons a r => exact rising_one r a hs
  have hnd : cs.Nodup := hp.nodup_iff.mpr hn
  exact hle.imp₂ (fun a b h1 h2 => Nat.lt_of_le_of_ne h1 h2) hnd
theorem asc_ext : ∀ {l m : List Nat}, l.Pairwise (· < ·) → m.Pairwise (· < ·) → (∀ x, x ∈ l ↔ x ∈ m) → l = m
  | [], [], _, _, _ => rfl
  | [], b :: s, _, _, h => absurd ((h b).mpr List.mem_cons_self) (by simp)
  | a :: r, [], _, _, h => absurd ((h a).mp List.mem_cons_self) (by simp)
  | a :: r, b :: s, h1, h2, h => by
    rw [List.pairwise_cons] at h1 h2
    have e : a = b := by
      rcases List.mem_cons.mp ((h a).mp List.mem_cons_self) with e | e
      · exact e
      · rcases List.mem_cons.mp ((h b).mpr List.mem_cons_self) with e2 | e2
        · exact e2.symm
        · have := h1.1 b e2
          have := h2.1 a e
          omega
    subst e
    congr 1
    refine asc_ext h1.2 h2.2 fun x => ⟨fun hx => ?_, fun hx => ?_⟩
    · rcases List.mem_cons.mp ((h x).mp (List.mem_cons_of_mem _ hx)) with e | e
      · have := h1.1 x hx; omega
      · exact e
    · rcases List.mem_cons.mp ((h x).mpr (List.mem_cons_of_mem _ hx)) with e | e
      · have := h2.1 x hx; omega
      · exact e
/-! ### what letter_counts tells -/
def lcs (st : List Stp) (a e : Nat) : List Nat := (List.range' 97 26).filter fun c => decide (cntP st (lP st c) a < cntP st (lP st c) e)
def lcD (st : List Stp) (a e : Nat) : WL := (lcs st a e).map fun c => (c, (cntP st (lP st c) e : Int) - (cntP st (lP st c) a : Int))
theorem let_iff {c : Nat} : isLet c = true ↔ c ∈ List.range' 97 26 := by
  unfold isLet
  rw [List.mem_range'_1, Bool.and_eq_true, decide_eq_true_eq, decide_eq_true_eq]
  omega
theorem range_filter {α : Type} (l : List Nat) (p : Nat → Bool) (g : Nat → α) : (((List.range l.length).filter fun i => p (l.getD i 0)).map fun i => g (l.getD i 0)) = (l.filter p).map g := by
  have h : ∀ m, m ≤ l.length → ((List.range m).filter fun i => p (l.getD i 0)).map (fun i => g (l.getD i 0)) = ((l.take m).filter p).map g := by
    intro m
    induction m with
    | zero => intro _; simp
    | succ m ih =>
      intro hm
      have e : l[m]? = some (l[m]'(by omega)) := List.getElem?_eq_getElem (by omega)
      have e2 : l.getD m 0 = l[m]'(by omega) := by rw [List.getD_eq_getElem?_getD, e]; rfl
      rw [List.range_succ, List.filter_append, List.map_append, ih (by omega), take_succ e, List.filter_append, List.map_append]
      congr 1
      rw [List.filter_cons, List.filter_cons, e2]
      split
      · show [g (l.getD m 0)] = [g (l[m]'(by omega))]
        rw [e2]
      · rfl
  have := h l.length (Nat.le_refl _)
  rwa [List.take_length] at this
theorem sumL_all (st : List Stp) (c a e : Nat) : (sumL st c (nk st) fun k => (cnt st k e : Int) - (cnt st k a : Int)) = (cntP st (lP st c) e : Int) - (cntP st (lP st c) a : Int) := by
  unfold sumL
  rw [sum_sub, sum_cnt, sum_cnt]
theorem let_len {l : List Nat} (hn : l.Nodup) (h : ∀ c ∈ l, isLet c = true) : l.length ≤ 26 := by
  have h1 := nodup_len 123 hn fun c hc => by
    have := List.mem_range'_1.mp (let_iff.mp (h c hc))
    omega
  have h2 : (l ++ List.range' 0 97).Nodup := by
    rw [List.nodup_append]
    refine ⟨hn, List.nodup_range', fun a ha b hb e => ?_⟩
    have h3 := List.mem_range'_1.mp (let_iff.mp (h a ha))
    have h4 := List.mem_range'_1.mp hb
    omega
  have h3 := nodup_len 123 h2 fun c hc => by
    rcases List.mem_append.mp hc with z | z
    · have := List.mem_range'_1.mp (let_iff.mp (h c z)); omega
    · have := List.mem_range'_1.mp z; omega
  rw [List.length_append, List.length_range'] at h3
  omega
theorem cntP_key {st : List Stp} {P : Nat → Bool} {p : Nat} (h : 0 < cntP st P p) : ∃ k, k ∈ (ex st).take p ∧ P k = true := List.countP_pos_iff.mp h
theorem lcs_eq {st : List Stp} (hlet : (typed st).all isLet = true) {cs : List Nat} (hasc : cs.Pairwise (· < ·)) (hmem : ∀ c, c ∈ cs ↔ ∃ j, j < nk st ∧ (typed st)[j]? = some c) (a e : Nat) :
    (cs.filter fun c => decide ((0 : Int) < (cntP st (lP st c) e : Int) - (cntP st (lP st c) a : Int))) = lcs st a e := by
  refine asc_ext (hasc.filter _) ((List.pairwise_lt_range' (s := 97) (n := 26)).filter _) fun c => ?_
  unfold lcs
  rw [List.mem_filter, List.mem_filter, decide_eq_true_eq, decide_eq_true_eq, ← let_iff]
  constructor
  · rintro ⟨h1, h2⟩
    obtain ⟨j, hj, hc⟩ := (hmem c).mp h1
    exact ⟨(List.all_eq_true.mp hlet) c (List.mem_of_getElem? hc), by omega⟩
  · rintro ⟨h1, h2⟩
    refine ⟨?_, by omega⟩
    obtain ⟨k, hk, hp⟩ := cntP_key (show 0 < cntP st (lP st c) e by omega)
    have hlt := lP_lt h1 hp
    refine (hmem c).mpr ⟨k, hlt, ?_⟩
    unfold lP at hp
    rw [List.getD_eq_getElem?_getD, List.getElem?_eq_getElem (by rw [typed_len]; exact hlt)] at hp
    rw [List.getElem?_eq_getElem (by rw [typed_len]; exact hlt)]
    have : (typed st)[k]'(by rw [typed_len]; exact hlt) = c := by simpa using hp
    rw [this]
end Pk
/-! ## dict(pairs); sums of counts -/
namespace Pk
open PySem PySem.Spec PyProof.Rows L2
theorem b_dict : bootBuiltins "dict" = some (.type "dict") := by decide +kernel
theorem b_set : bootBuiltins "set" = some (.type "set") := by decide +kernel
def rDictP (K : Fr) : List V → Hp → VK → Prop := fun xs H Q => ∃ (a : Addr) (ps : List Addr) (kvs : List (Key × V)), xs = [.ref a] ∧ SqL K H a (ps.map V.ref) ∧ Paired (fun p kv => SqT K H p [kV kv.1, kv.2]) ps kvs ∧
    ∀ p, H p = none → Q (.ref p) (upd H p (.dK (mergeK [] kvs)))
theorem dictP {X : Cx} (K : Fr) (hc : X.calm = true := by rfl) (h : X.K = K := by rfl) : CallR X (.type "dict") (rDictP K) := h ▸ call_dictP hc
theorem putK_out {kvs : List (Key × V)} {k : Key} {v : V} (h : k ∉ kvs.map (·.1)) : putK kvs k v = kvs ++ [(k, v)] := by
  unfold putK
  rw [if_neg]
  intro z
  rw [List.any_eq_true] at z
  obtain ⟨x, hx, e⟩ := z
  exact h (List.mem_map.mpr ⟨x, hx, of_decide_eq_true e⟩)
theorem mergeK_app : ∀ (more kvs : List (Key × V)), ((kvs ++ more).map (·.1)).Nodup → mergeK kvs more = kvs ++ more
  | [], kvs, _ => (List.append_nil _).symm
  | p :: r, kvs, h => by
    have h1 : p.1 ∉ kvs.map (·.1) := by
      rw [List.map_append, List.nodup_append] at h
      exact fun z => h.2.2 _ z _ (by simp) rfl
    show mergeK (putK kvs p.1 p.2) r = _
    rw [putK_out h1, mergeK_app r _ (by rw [List.append_assoc]; exact h), List.append_assoc]
    rfl
theorem mergeK_self {kvs : List (Key × V)} (h : (kvs.map (·.1)).Nodup) : mergeK [] kvs = kvs := mergeK_app kvs [] h
theorem kvL_keys (W : WL) : (kvL W).map (·.1) = (W.map (·.1)).map fun c => (.inr (sL [c]) : Key) := by
  unfold kvL
  rw [List.map_map, List.map_map]
  rfl
theorem kvL_nodup {W : WL} (h : (W.map (·.1)).Nodup) : ((kvL W).map (·.1)).Nodup := by
  rw [kvL_keys]
  generalize W.map (·.1) = l at h
  induction l with
  | nil => exact List.nodup_nil
  | cons c r ih =>
    rw [List.map_cons, List.nodup_cons]
    rw [List.nodup_cons] at h
    refine ⟨fun z => ?_, ih h.2⟩
    obtain ⟨d, hd, e⟩ := List.mem_map.mp z
    rw [sL1] at e
    exact h.1 (e ▸ hd)
theorem cV_map (n : Nat) (g : Nat → Int) : cV n g = ((List.range n).map g).map V.int := by
  unfold cV
  rw [List.map_map]
  rfl
theorem sum_counts {st : List Stp} {m : Nat} (h : Goes m 0 st) {p : Nat} (hp : p ≤ sz st) : ((List.range (nk st)).map fun k => (cnt st k p : Int)).sum = (p : Nat) := by
  have h1 := sum_cnt (st := st) (fun _ => true) p
  rw [List.filter_eq_self.mpr (fun _ _ => rfl)] at h1
  rw [h1]
  unfold cntP
  rw [List.countP_true, List.length_take, ex_len st h]
  omega
/-- values found in a dict of letters -/
theorem getW_mem {p : Nat} {w : Int} : ∀ {W : WL}, (W.map (·.1)).Nodup → (p, w) ∈ W → getW W p = w
  | [], _, h => by simp at h
  | q :: r, hn, h => by
    rw [List.map_cons, List.nodup_cons] at hn
    show (if q.1 = p then q.2 else getW r p) = w
    rcases List.mem_cons.mp h with e | h
    · rw [← e, if_pos rfl]
    · have hne : ¬ q.1 = p := fun z => hn.1 (List.mem_map.mpr ⟨(p, w), h, z.symm⟩)
      rw [if_neg hne]
      exact getW_mem hn.2 h
theorem paired_snoc {α β : Type} {F : α → β → Prop} {x : α} {y : β} (h : F x y) : ∀ {xs : List α} {ys : List β}, Paired F xs ys → Paired F (xs ++ [x]) (ys ++ [y])
  | _, _, .nil => .cons h .nil
  | _, _, .cons a r => .cons a (paired_snoc h r)
section
variable {J : It} {n : Nat} {G : Hp → Prop} {Y : Nat → Hp → V → Hp → Prop} {g : TG} {tt : TT} {te : TE} {vs : List Nat} {σ : L2.St} {H1 : Hp} {D : Addr} {Qd : Hp → Prop}
/-- a comprehension that makes new things, or keeps some: what is made at turn i is told by R -/
theorem lc_objs (wk : Walk J n G Y) (hD : H1 D = none) (f : Nat → Bool) (R : Nat → V → Hp → Prop) (hR : ∀ i y H H' ys, H D = some (.lst ys) → R i y H → But D H H' → R i y H') (hn : n ≤ sizeLine) (hG : ∀ H, Same H1 H → G H)
    (hs : ∀ i x H H2 (N : VK) (N0 : Hp → Prop), i < n → Same H1 H → Y i H x H2 → (f i = true → ∀ y H5, Same H H5 → R i y H5 → N y H5) → (f i = false → ∀ H5, Same H H5 → N0 H5) →
      g x (wipe σ vs) H2 fun σ2 H3 => wipe σ2 vs = wipe σ vs ∧ tt σ2 H3 fun b H4 => if b = true then te σ2 H4 N else N0 H4)
    (hd : ∀ H ys, Same H1 H → H D = some (.lst ys) → Paired (fun y i => R i y H) ys ((List.range n).filter f) → Qd H) :
    ∃ W : Nat → Nat → Hp → Prop, (∃ m, W 0 m (upd H1 D (.lst []))) ∧ ∀ i m H, W i m H →
      (J.stop i H ∧ Qd H) ∨ (J.go i H ∧ ∃ Nx : Hp → Prop, (∀ H', Nx H' → ∃ m', m' < m ∧ W (i + 1) m' H') ∧ ∀ x H', J.yld i H x H' → g x (wipe σ vs) H' fun σ2 H2 => wipe σ2 vs = wipe σ vs ∧ tt σ2 H2 fun b H3 =>
        if b = true then te σ2 H3 fun y H4 => ∃ acc, H4 D = some (.lst acc) ∧ acc.length < sizeLine ∧ Nx (upd H4 D (.lst (acc ++ [y]))) else Nx H3) := by
  refine lc_it wk (fun i H => Same H1 H ∧ ∃ ys, H D = some (.lst ys) ∧ Paired (fun y j => R j y H) ys ((List.range i).filter f)) ⟨same_upd hD, [], upd_same, .nil⟩ (fun i H _ p => hG H p.1) ?_ fun H ⟨p1, ys, p2, p3⟩ => hd H ys p1 p2 p3
  intro i x H H2 hi p y
  obtain ⟨p1, ys, p2, p3⟩ := p
  have hl : ys.length ≤ i := by
    have h1 := Paired.length p3
    have h2 := List.length_filter_le f (List.range i)
    rw [List.length_range] at h2
    omega
  refine hs i x H H2 _ _ hi p1 y (fun hb z H5 s5 r5 => ?_) fun hb H5 s5 => ?_
  · have bu : But D H5 (upd H5 D (.lst (ys ++ [z]))) := fun b o nb e => by rw [upd_ne nb]; exact e
    refine ⟨ys, s5 _ _ p2, Nat.lt_of_le_of_lt hl (by omega), fun b o e => ?_, ys ++ [z], upd_same, ?_⟩
    · by_cases hbD : b = D
      · rw [hbD, hD] at e
        cases e
      · rw [upd_ne hbD]
        exact s5 _ _ (p1 _ _ e)
    · rw [List.range_succ, List.filter_append, List.filter_cons, hb]
      show Paired (fun y j => R j y (upd H5 D (.lst (ys ++ [z])))) (ys ++ [z]) ((List.range i).filter f ++ [i])
      exact paired_snoc (F := fun y j => R j y (upd H5 D (.lst (ys ++ [z])))) (hR i z _ _ _ (s5 _ _ p2) r5 bu) (Paired.mapP p3 fun y j r => hR j y _ _ _ (s5 _ _ p2) (hR j y _ _ _ p2 r (Same.but s5)) bu)
  · refine ⟨p1.trans s5, ys, s5 _ _ p2, ?_⟩
    rw [List.range_succ, List.filter_append, List.filter_cons, hb]
    simp only [List.filter_nil, Bool.false_eq_true, if_false, List.append_nil]
    exact Paired.mapP p3 fun y j r => hR j y _ _ _ p2 r (Same.but s5)
end
/-- new tuples -/
theorem tup_stays {D : Addr} {xs : Nat → List V} : ∀ (i : Nat) (y : V) (H H' : Hp) (ys : List V), H D = some (.lst ys) → (∃ t, y = .ref t ∧ H t = some (.tup (xs i))) → But D H H' → ∃ t, y = .ref t ∧ H' t = some (.tup (xs i)) :=
  fun i y H H' ys hD ⟨t, e, h⟩ b => ⟨t, e, b _ _ (ne_of h hD (by intro z; cases z)) h⟩
theorem range_filterG {α β : Type} (d : α) (l : List α) (p : α → Bool) (g : α → β) : (((List.range l.length).filter fun i => p (l.getD i d)).map fun i => g (l.getD i d)) = (l.filter p).map g := by
  have h : ∀ m, m ≤ l.length → ((List.range m).filter fun i => p (l.getD i d)).map (fun i => g (l.getD i d)) = ((l.take m).filter p).map g := by
    intro m
    induction m with
    | zero => intro _; simp
    | succ m ih =>
      intro hm
      have e : l[m]? = some (l[m]'(by omega)) := List.getElem?_eq_getElem (by omega)
      have e2 : l.getD m d = l[m]'(by omega) := by rw [List.getD_eq_getElem?_getD, e]; rfl
      rw [List.range_succ, List.filter_append, List.map_append, ih (by omega), take_succ e, List.filter_append, List.map_append]
      congr 1
      rw [List.filter_cons, List.filter_cons, e2]
      split
      · show [g (l.getD m d)] = [g (l[m]'(by omega))]
        rw [e2]
      · rfl
  have := h l.length (Nat.le_refl _)
  rwa [List.take_length] at this
/-- refs to new tuples, by their places -/
theorem paired_refs {H : Hp} {xs : Nat → List V} : ∀ {ys : List V} {is : List Nat}, Paired (fun y i => ∃ t, y = .ref t ∧ H t = some (.tup (xs i))) ys is → ∃ ps : List Addr, ys = ps.map V.ref ∧ Paired (fun t i => H t = some (.tup (xs i))) ps is
  | _, _, .nil => ⟨[], rfl, .nil⟩
  | _, _, .cons ⟨t, e, h⟩ r => by
    obtain ⟨ps, e2, h2⟩ := paired_refs r
    exact ⟨t :: ps, by rw [e, e2]; rfl, .cons h h2⟩
theorem paired_map {α β γ : Type} {F : α → β → Prop} {F' : α → γ → Prop} (g : β → γ) (h : ∀ a b, F a b → F' a (g b)) : ∀ {xs : List α} {ys : List β}, Paired F xs ys → Paired F' xs (ys.map g)
  | _, _, .nil => .nil
  | _, _, .cons a r => .cons (h _ _ a) (paired_map g h r)
/-- what counts of letters come to, as dicts -/
theorem due_dict {st : List Stp} {W : WL} {a e : Nat} (hlet : (typed st).all isLet = true) (hn : (W.map (·.1)).Nodup) (hk : ∀ c, c ∈ W.map (·.1) ↔ ∃ j, j < nk st ∧ (typed st)[j]? = some c) (hv : ∀ c, getW W c = (cntP st (lP st c) e : Int) - (cntP st (lP st c) a : Int)) :
    (kvL (lcD st a e)).length = (kvL (W.filter fun p => decide ((0 : Int) < p.2))).length ∧ ∀ p ∈ kvL (lcD st a e), valV (kvL (W.filter fun p => decide ((0 : Int) < p.2))) p.1 = some p.2 ∧ flatB p.2 = true := by
  have hsub : ((W.filter fun p => decide ((0 : Int) < p.2)).map (·.1)).Nodup := List.Sublist.nodup (List.Sublist.map _ List.filter_sublist) hn
  have hm : ∀ c, c ∈ (W.filter fun p => decide ((0 : Int) < p.2)).map (·.1) ↔ c ∈ lcs st a e := by
    intro c
    unfold lcs
    rw [List.mem_filter, decide_eq_true_eq, ← let_iff]
    constructor
    · intro h
      obtain ⟨p, hp, e1⟩ := List.mem_map.mp h
      rw [List.mem_filter, decide_eq_true_eq] at hp
      have h1 : c ∈ W.map (·.1) := List.mem_map.mpr ⟨p, hp.1, e1⟩
      have h2 : getW W c = p.2 := getW_mem hn (by rw [← e1]; exact hp.1)
      rw [hv] at h2
      obtain ⟨j, hj, hc⟩ := (hk c).mp h1
      exact ⟨(List.all_eq_true.mp hlet) c (List.mem_of_getElem? hc), by omega⟩
    · rintro ⟨h1, h2⟩
      obtain ⟨k, hk2, hp⟩ := cntP_key (show 0 < cntP st (lP st c) e by omega)
      have hlt := lP_lt h1 hp
      have hc : (typed st)[k]? = some c := by
        unfold lP at hp
        rw [List.getD_eq_getElem?_getD, List.getElem?_eq_getElem (by rw [typed_len]; exact hlt)] at hp
        rw [List.getElem?_eq_getElem (by rw [typed_len]; exact hlt)]
        have : (typed st)[k]'(by rw [typed_len]; exact hlt) = c := by simpa using hp
        rw [this]
      obtain ⟨p, hp1, e1⟩ := List.mem_map.mp ((hk c).mpr ⟨k, hlt, hc⟩)
      have h3 : getW W c = p.2 := getW_mem hn (by rw [← e1]; exact hp1)
      rw [hv] at h3
      refine List.mem_map.mpr ⟨p, ?_, e1⟩
      rw [List.mem_filter, decide_eq_true_eq]
      exact ⟨hp1, by omega⟩
  have hln : (lcs st a e).Nodup := asc_nodup ((List.pairwise_lt_range' (s := 97) (n := 26)).filter _)
  refine ⟨?_, fun p hp => ?_⟩
  · rw [kvL_len, kvL_len]
    have h1 := nodup_sub hln fun c hc => (hm c).mpr hc
    have h2 := nodup_sub hsub fun c hc => (hm c).mp hc
    unfold lcD
    rw [List.length_map] at h1 h2 ⊢
    omega
  · unfold kvL lcD at hp
    obtain ⟨q, hq, rfl⟩ := List.mem_map.mp hp
    obtain ⟨c, hc, rfl⟩ := List.mem_map.mp hq
    refine ⟨?_, rfl⟩
    have h1 := (hm c).mpr hc
    show valV _ (Sum.inr (sL [c]) : Key) = some (.int ((cntP st (lP st c) e : Int) - (cntP st (lP st c) a : Int)))
    rw [valV_inL h1]
    obtain ⟨p, hp1, e1⟩ := List.mem_map.mp h1
    have h2 : getW (W.filter fun p => decide ((0 : Int) < p.2)) c = p.2 := getW_mem hsub (by rw [← e1]; exact hp1)
    have h3 : getW W c = p.2 := getW_mem hn (by rw [← e1]; exact (List.mem_filter.mp hp1).1)
    rw [h2, ← h3, hv]
end Pk
/-! ## Places of keys and letters, further -/
namespace Pk
theorem exF_sub : ∀ (st : List Stp) (E : List Nat) (n : Nat), (∀ k ∈ E, k ∈ exF E n st) ∧ ∀ k, n ≤ k → k < n + nk st → k ∈ exF E n st
  | [], E, n => ⟨fun k h => h, fun k h1 h2 => absurd h2 (by show ¬ k < n + 0; omega)⟩
  | .wr w :: r, E, n => by
    have ih := exF_sub r (E ++ List.range' n w.length) (n + w.length)
    have e1 : nk (.wr w :: r) = w.length + nk r := by simp [nk, Stp.ks]
    refine ⟨fun k h => ih.1 k (List.mem_append_left _ h), fun k h1 h2 => ?_⟩
    by_cases h3 : k < n + w.length
    · exact ih.1 k (List.mem_append_right _ (by rw [List.mem_range'_1]; omega))
    · exact ih.2 k (by omega) (by omega)
  | .pa f l t :: r, E, n => by
    have ih := exF_sub r (E ++ (List.replicate t ((E.drop f).take (l + 1 - f))).flatten) n
    have e1 : nk (.pa f l t :: r) = nk r := by simp [nk, Stp.ks]
    exact ⟨fun k h => ih.1 k (List.mem_append_left _ h), fun k h1 h2 => ih.2 k h1 (by omega)⟩
theorem ex_all {st : List Stp} {k : Nat} (h : k < nk st) : k ∈ ex st := (exF_sub st [] 0).2 k (Nat.zero_le _) (by omega)
theorem isIn_one (k x : Nat) : isIn [k] x = decide (x = k) := by
  unfold isIn
  simp
theorem cnt_in (st : List Stp) (k p : Nat) : cntP st (isIn [k]) p = cnt st k p := by
  unfold cntP cnt List.count
  refine List.countP_congr fun x _ => ?_
  rw [isIn_one]
  simp
theorem cntP_split (st : List Stp) (P : Nat → Bool) {p q : Nat} (h : p ≤ q) : cntP st P q = cntP st P p + (((ex st).take q).drop p).countP P := by
  unfold cntP
  have e : (ex st).take p = ((ex st).take q).take p := by rw [List.take_take, Nat.min_eq_left h]
  rw [e, ← List.countP_append, List.take_append_drop]
theorem cntP_imp {st : List Stp} {P L : Nat → Bool} (h : ∀ k, P k = true → L k = true) {p q : Nat} (hpq : p ≤ q) : cntP st P q + cntP st L p ≤ cntP st L q + cntP st P p := by
  rw [cntP_split st P hpq, cntP_split st L hpq]
  have := List.countP_mono_left (l := ((ex st).take q).drop p) (p := P) (q := L) (fun x _ hx => h x hx)
  omega
theorem cntP_top {st : List Stp} {m : Nat} (h : Goes m 0 st) (P : Nat → Bool) (p : Nat) : cntP st P p ≤ cntP st P (sz st) := by
  rcases Nat.le_total p (sz st) with z | z
  · exact cntP_mono st P z
  · rw [cntP_all h P z, cntP_all h P (Nat.le_refl _)]
    exact Nat.le_refl _
theorem occ_first {st : List Stp} {P : Nat → Bool} {p k : Nat} (hp : (ex st)[p]? = some k) (hk : P k = true) : (occ st P)[cntP st P p]? = some p := occ_get.mpr ⟨k, hp, hk, rfl⟩
theorem occ_at {st : List Stp} {m : Nat} (h : Goes m 0 st) {P : Nat → Bool} {n p : Nat} (e : (occ st P)[n]? = some p) : ∃ k, (ex st)[p]? = some k ∧ P k = true ∧ cntP st P p = n ∧ cntP st P (p + 1) = n + 1 ∧ p < sz st := by
  obtain ⟨k, h1, h2, h3⟩ := occ_get.mp e
  have h4 := cntP_succ (P := P) h1
  rw [if_pos h2] at h4
  have h5 := (List.getElem?_eq_some_iff.mp h1).1
  rw [ex_len st h] at h5
  exact ⟨k, h1, h2, h3, by omega, h5⟩
/-- the next place of P from p on -/
theorem next_ge {st : List Stp} {m : Nat} (h : Goes m 0 st) {P : Nat → Bool} {p r : Nat} (e : (occ st P)[cntP st P p]? = some r) : p ≤ r := by
  obtain ⟨k, h1, h2, h3, h4, h5⟩ := occ_at h e
  rcases Nat.lt_or_ge r p with z | z
  · have := cntP_mono st P (show r + 1 ≤ p by omega)
    omega
  · exact z
theorem next_le {st : List Stp} {m : Nat} (h : Goes m 0 st) {P L : Nat → Bool} (hi : ∀ k, P k = true → L k = true) {p r q : Nat} (e : (occ st P)[cntP st P p]? = some r) (e2 : (occ st L)[cntP st L p]? = some q) : q ≤ r := by
  have hr := next_ge h e
  obtain ⟨k, h1, h2, h3, h4, h5⟩ := occ_at h e
  obtain ⟨k2, g1, g2, g3, g4, g5⟩ := occ_at h e2
  rcases Nat.lt_or_ge r q with z | z
  · have a1 := cntP_succ (P := L) h1
    rw [if_pos (hi k h2)] at a1
    have a2 := cntP_mono st L (show r + 1 ≤ q by omega)
    have a3 := cntP_mono st L hr
    omega
  · exact z
theorem next_none {st : List Stp} (h : Goes most 0 st) {P L : Nat → Bool} (hi : ∀ k, P k = true → L k = true) {p : Nat} (e2 : (occ st L)[cntP st L p]? = none) : (occ st P)[cntP st P p]? = none := by
  cases e : (occ st P)[cntP st P p]? with
  | none => rfl
  | some r =>
    exfalso
    have hr := next_ge h e
    obtain ⟨k, h1, h2, h3, h4, h5⟩ := occ_at h e
    have a1 := cntP_succ (P := L) h1
    rw [if_pos (hi k h2)] at a1
    have a3 := cntP_mono st L hr
    have a4 := cntP_top h L (r + 1)
    obtain ⟨q, hq⟩ := occ_some h (P := L) (show cntP st L p < cntP st L (sz st) by omega)
    rw [e2] at hq
    cases hq
/-- the next place of L is that of its key -/
theorem next_key {st : List Stp} {m : Nat} (h : Goes m 0 st) {L : Nat → Bool} {p q : Nat} (e2 : (occ st L)[cntP st L p]? = some q) : ∃ k, (ex st)[q]? = some k ∧ L k = true ∧ (occ st (isIn [k]))[cntP st (isIn [k]) p]? = some q := by
  have hq := next_ge h e2
  obtain ⟨k, g1, g2, g3, g4, g5⟩ := occ_at h e2
  have hk : isIn [k] k = true := by rw [isIn_one]; exact decide_eq_true rfl
  have a1 := cntP_imp (st := st) (P := isIn [k]) (L := L) (fun x hx => by rw [isIn_one, decide_eq_true_eq] at hx; rw [hx]; exact g2) hq
  have a2 := cntP_mono st (isIn [k]) hq
  have a3 : cntP st (isIn [k]) p = cntP st (isIn [k]) q := by omega
  exact ⟨k, g1, g2, by rw [a3]; exact occ_first g1 hk⟩
theorem lks_mem {st : List Stp} {c k : Nat} : k ∈ lks st c ↔ k < nk st ∧ (typed st)[k]? = some c := by
  unfold lks lP
  rw [List.mem_filter, List.mem_range]
  constructor
  · rintro ⟨h1, h2⟩
    refine ⟨h1, ?_⟩
    rw [List.getD_eq_getElem?_getD, List.getElem?_eq_getElem (by rw [typed_len]; exact h1)] at h2
    rw [List.getElem?_eq_getElem (by rw [typed_len]; exact h1)]
    have : (typed st)[k]'(by rw [typed_len]; exact h1) = c := by simpa using h2
    rw [this]
  · rintro ⟨h1, h2⟩
    refine ⟨h1, ?_⟩
    rw [List.getD_eq_getElem?_getD, h2]
    simp
/-- a letter stands in a text where it is counted -/
theorem let_counted {st : List Stp} {m : Nat} (h : Goes m 0 st) {c : Nat} (hc : isLet c = true) : c ∈ typed st ↔ 0 < cntP st (lP st c) (sz st) := by
  constructor
  · intro z
    obtain ⟨k, hk⟩ := List.mem_iff_getElem?.mp z
    have hlt := (List.getElem?_eq_some_iff.mp hk).1
    rw [typed_len] at hlt
    rw [cntP_all h _ (Nat.le_refl _), List.countP_pos_iff]
    refine ⟨k, ex_all hlt, ?_⟩
    unfold lP
    rw [List.getD_eq_getElem?_getD, hk]
    simp
  · intro z
    obtain ⟨k, hk, hp⟩ := cntP_key z
    have hlt := lP_lt hc hp
    exact List.mem_of_getElem? (lks_mem.mp (List.mem_filter.mpr ⟨List.mem_range.mpr hlt, hp⟩)).2
theorem lks_nil {st : List Stp} {m : Nat} (h : Goes m 0 st) {c : Nat} (h0 : cntP st (lP st c) (sz st) = 0) : lks st c = [] := by
  rw [List.eq_nil_iff_forall_not_mem]
  intro k hk
  unfold lks at hk
  rw [List.mem_filter, List.mem_range] at hk
  rw [cntP_all h _ (Nat.le_refl _), List.countP_eq_zero] at h0
  exact h0 k (ex_all hk.1) hk.2
open PySem PySem.Spec PyProof.Rows L2
theorem at_typedI {st : List Stp} {v : Int} (h0 : 0 ≤ v) (h1 : v < (nk st : Nat)) : atI (sL (typed st)).cps.toList v = some (ltr st v.toNat) := by
  rw [show v = ((v.toNat : Nat) : Int) by omega]
  exact atI_nat (key_typed (by omega))
theorem at_cVI {n : Nat} {g : Nat → Int} {v : Int} (h0 : 0 ≤ v) (h1 : v < (n : Nat)) : atI (cV n g) v = some (.int (g v.toNat)) := by
  rw [show v = ((v.toNat : Nat) : Int) by omega]
  exact atI_nat (cV_get _ (by omega))
theorem valV_lcD {st : List Stp} {a e c : Nat} (hc : isLet c = true) (hae : a ≤ e) : (valV (kvL (lcD st a e)) (.inr (sL [c]))).getD (.int 0) = .int ((cntP st (lP st c) e : Int) - (cntP st (lP st c) a : Int)) := by
  have hm := cntP_mono st (lP st c) hae
  rw [valV_L]
  congr 1
  by_cases h : c ∈ lcs st a e
  · have : ∀ l : List Nat, c ∈ l → getW (l.map fun c => (c, (cntP st (lP st c) e : Int) - (cntP st (lP st c) a : Int))) c = (cntP st (lP st c) e : Int) - (cntP st (lP st c) a : Int) := by
      intro l
      induction l with
      | nil => intro z; simp at z
      | cons x r ih =>
        intro z
        show (if x = c then (cntP st (lP st x) e : Int) - (cntP st (lP st x) a : Int) else getW (r.map _) c) = _
        by_cases ex : x = c
        · rw [if_pos ex, ex]
        · rw [if_neg ex]
          exact ih ((List.mem_cons.mp z).resolve_left (Ne.symm ex))
    exact this _ h
  · have h0 : getW (lcD st a e) c = 0 := getW_out (by unfold lcD; rw [List.map_map]; simpa using h)
    rw [h0]
    unfold lcs at h
    rw [List.mem_filter, not_and, decide_eq_true_eq] at h
    have := h (let_iff.mp hc)
    omega
theorem lcD_at {st : List Stp} {a e i : Nat} {k : Key} {v : V} (h : (kvL (lcD st a e))[i]? = some (k, v)) : ∃ c, c ∈ lcs st a e ∧ isLet c = true ∧ k = .inr (sL [c]) ∧ v = .int ((cntP st (lP st c) e : Int) - (cntP st (lP st c) a : Int)) := by
  unfold kvL lcD at h
  rw [List.getElem?_map, List.getElem?_map] at h
  cases hx : (lcs st a e)[i]? with
  | none => rw [hx] at h; cases h
  | some c =>
    rw [hx] at h
    cases h
    have := List.mem_of_getElem? hx
    unfold lcs at this
    rw [List.mem_filter] at this
    exact ⟨c, List.mem_of_getElem? hx, let_iff.mpr this.1, rfl, rfl⟩
theorem lcD_mem {st : List Stp} {a e c : Nat} (hc : c ∈ lcs st a e) : valV (kvL (lcD st a e)) (.inr (sL [c])) = some (.int ((cntP st (lP st c) e : Int) - (cntP st (lP st c) a : Int))) := by
  have hl : isLet c = true := by
    unfold lcs at hc
    rw [List.mem_filter] at hc
    exact let_iff.mpr hc.1
  have hm : c ∈ (lcD st a e).map (·.1) := by
    unfold lcD
    rw [List.map_map]
    simpa using hc
  rw [valV_inL hm]
  congr 2
  have h2 := valV_lcD (st := st) (a := a) (e := e) hl
  rw [valV_inL hm] at h2
  by_cases hae : a ≤ e
  · have := h2 hae
    simpa using this
  · exfalso
    unfold lcs at hc
    rw [List.mem_filter, decide_eq_true_eq] at hc
    have := cntP_mono st (lP st c) (show e ≤ a by omega)
    omega
theorem iL {a c : Nat} {A B : Prop} (h1 : a = c → A) (h2 : ¬ a = c → B) : if decide (V.str ⟨#[a]⟩ = V.str (sL [c])) = true then A else B :=
  iB (fun h => h1 (by injection h with h; exact (List.cons.inj (sL_inj.mp h)).1)) fun h => h2 fun z => h (by rw [z]; rfl)
theorem lP_is {st : List Stp} {c k : Nat} (h : ltr st k = c) : lP st c k = true := beq_iff_eq.mpr h
theorem lP_not {st : List Stp} {c k : Nat} (h : ¬ ltr st k = c) : lP st c k = false := beq_eq_false_iff_ne.mpr h
/-- what is there of some places -/
theorem keeps_opt (L : List (Option Nat)) : keeps L.length (fun i => (L.getD i none).isSome) (fun i => optV (L.getD i none)) = (L.filterMap id).map fun k => V.int (k : Nat) := by
  unfold keeps
  rw [range_filterG none L Option.isSome optV]
  induction L with
  | nil => rfl
  | cons x r ih =>
    cases x with
    | none => rw [List.filter_cons, List.filterMap_cons]; exact ih
    | some k =>
      rw [List.filter_cons, List.filterMap_cons]
      show optV (some k) :: (r.filter Option.isSome).map optV = V.int (k : Nat) :: (r.filterMap id).map _
      rw [ih]
      rfl
theorem map_getDG {α β : Type} (d : α) (l : List α) (g : α → β) : (List.range l.length).map (fun i => g (l.getD i d)) = l.map g := by
  have h := range_filterG d l (fun _ => true) g
  rwa [List.filter_eq_self.mpr (fun _ _ => rfl), List.filter_eq_self.mpr (fun _ _ => rfl)] at h
theorem abc_list : (Str.ofString "abcdefghijklmnopqrstuvwxyz").cps.toList = List.range' 97 26 := by decide +kernel
theorem abc_len : (Str.ofString "abcdefghijklmnopqrstuvwxyz").length ≤ 26 := by decide +kernel
theorem at_abc {v : Int} (h0 : 0 ≤ v) (h1 : v < 26) : atI (Str.ofString "abcdefghijklmnopqrstuvwxyz").cps.toList v = some (97 + v.toNat) := by
  rw [abc_list, show v = ((v.toNat : Nat) : Int) by omega]
  refine atI_nat ?_
  rw [Int.toNat_natCast, List.getElem?_eq_getElem (by rw [List.length_range']; omega), List.getElem_range']
  simp
theorem abc_let {v : Int} (h0 : 0 ≤ v) (h1 : v < 26) : isLet (97 + v.toNat) = true := by
  unfold isLet
  rw [decide_eq_true (by omega), decide_eq_true (by omega)]
  rfl
end Pk
/-! ## d.get(x) of a written dict -/
namespace Pk
open PySem PySem.Spec PyProof.Rows L2
/-- a written dict of numbers at text keys: what its keys are worth -/
structure KInts (K : Fr) (w : World) (d : Addr) (kvs : List (Str × Int)) : Prop where
  at_ : ∃ es n, KDict K w d es n
  vals : ∀ p ∈ kvs, ∃ u, PySem.W.nsIn K d p.1 = some (some u) ∧ RelV (.int p.2) u
def tKGet1 (ty : TE) (kvs : List (Str × Int)) : TE := fun σ H Q => ty σ H fun y H2 => ∃ z i, y = .str z ∧ (z, i) ∈ kvs ∧ Q (.int i) H2
theorem pe_kget1 {X : Cx} {x : Str} {e : Expr} {p apos cpos : Pos} {ty : TE} {d : Addr} {kvs : List (Str × Int)} (D : KInts X.K X.w d kvs) (hg : Gl X x) (hm : X.mg x = some (.ref d)) (he : PE X e ty) (m : M1 X (.Name x p) "get" apos e cpos) (hdb : (x == ("__debug__" : Str)) = false := by decide) :
    PE X (.Call (.Attribute (.Name x p) "get" apos) [e] [] cpos) (tKGet1 ty kvs) := by
  refine ⟨fun pins s σ H Q I h => ?_⟩
  obtain ⟨es, n, kd⟩ := D.at_
  refine wpAny_Call_method m.base m.few m.line PySem.F.plainAttrs_dict PySem.F.slot_dict_get PySem.F.type_dict_get (ld_glob I hg hm ?_ hdb)
  have mo := PySem.W.mapOf_K (prog := X.prog) (w := X.w) I.kIn kd.at_ kd.lit
  refine ⟨kd_type kd I, fun b q => ?_, ?_⟩
  · cases q
    exact ⟨_, I.kIn _ _ kd.at_, rfl⟩
  · rw [m.trees]
    refine Calls.callWith_builtin rfl (Calls.evalArgs_plain (Calls.spliced_cons (thn (he.run pins s σ H _ I h) fun iv s2 ⟨y, H2, I2, ry, z, i, ey, hz, q⟩ => Calls.spliced_nil ?_)))
    subst ey
    obtain ⟨t, rfl⟩ := ry
    obtain ⟨u, hu, ru⟩ := D.vals _ hz
    have mo2 := PySem.W.mapOf_K (prog := X.prog) (w := X.w) I2.kIn kd.at_ kd.lit
    refine call_meetsIn PySem.F.slot_dict_get mo2.typeIs PySem.F.entry_dict_get (PySem.F.args_dict_get_2 _ _) (meets_dict_get (PySem.strKind X.prog X.w) d (PySem.strKind_is X.prog X.w z t) kd.low) ⟨_, mo2, ?_⟩
    rw [PySem.W.find_K kd.at_ hu]
    exact ⟨.int i, H2, I2.tok _, ru, q⟩
end Pk
/-! ## a field as a target; len of an own class -/
namespace Pk
open PySem PySem.Spec PyProof.Rows L2
section
variable {X : Cx}
def gFld (K : Fr) (to : TE) (f : Str) : TG := fun v σ H Q => to σ H fun x H2 => ∃ a C dx fs, x = .ref a ∧ H2 a = some (.ins C dx fs) ∧ Cls K C ∧ NoAttr K C f ∧ fs.length < 1000 ∧ Q σ (upd H2 a (.ins C dx (putF f v fs)))
theorem pg_fld {o : Expr} {to : TE} {f : Str} {pos : Pos} (ho : PE X o to) : PG X (.Attribute o f pos) (gFld X.K to f) := by
  refine ⟨fun pins s σ H y u Q I ry h => ?_⟩
  refine PySem.W.kas_attr (thn (ho.run pins s σ H _ I h) fun ov s2 ⟨x, H2, I2, rx, a, C, dx, fs, ex, ea, c, n, l, q2⟩ => ?_)
  subst ex
  obtain rfl : ov = Value.ref a := rx
  exact setattr_ok I2 ea c n l ry fun s3 I3 => ⟨σ, _, I3, q2⟩
def rLenO (C : Addr) (sp : Sp) (E : XK) : List V → Hp → VK → Prop := fun xs H Q => ∃ a dx fs, xs = [.ref a] ∧ H a = some (.ins C dx fs) ∧ sp [.ref a] H (fun y H2 => ∃ n : Int, y = .int n ∧ 0 ≤ n ∧ n < 9223372036854775808 ∧ Q (.int n) H2) E
theorem call_lenO {CX : CXT} {k : Nat} {C f : Addr} {sp : Sp} {E : XK} (hs : OpF X.K C "__len__" f) (F : FnR X.prog X.w X.K X.mg X.base CX k f sp) (hr : Room (k + 1) X.A) (hx : Passes CX X E) : CallR X (.builtin "len") (rLenO C sp E) := by
  intro pins s σ H xs us Q I r h
  obtain ⟨a, dx, fs, ex, ha, q⟩ := h
  subst ex
  obtain ⟨u, eu, rx⟩ := vals1 r
  subst eu
  cases rx
  obtain ⟨mA, O, _⟩ := ins_get I.hok ha
  obtain ⟨oa, JA, _⟩ := O.look
  obtain ⟨m, hF⟩ := I.fr
  refine PySem.W.len_K hF I.ok.mod.kin JA hs.at_ hs.fn (wpAny_mono (wpAny_call (codeAny_mono (SlX.run_at (us := [.ref a]) (ws := [V.ref a]) F hr.in1 I.env0.in1 hx I (.cons rfl .nil) q) fun r s3 hq => by
    cases r with
    | error e => exact hq
    | ok fl => cases fl with
      | ret w => exact hq
      | _ => exact hq.elim)) (fun v s3 hq => ?_) fun _ _ z => z)
  obtain ⟨y, H3, I3, ry, n, ey, h0, h1, q3⟩ := hq
  subst ey
  obtain ⟨t, rfl⟩ := ry
  exact ⟨⟨h0, by omega⟩, .int n, H3, I3.tok _, ⟨_, rfl⟩, q3⟩
end
end Pk
namespace Pk
open PySem PySem.Spec PyProof.Rows L2
def tMethSA (K : Fr) (C : Addr) (m : Str) (g : Addr) (sp : Sp) (E : XK) (ta te : TE) : TE := fun σ H Q => ta σ H fun x H1 => ∃ a dx fs, x = .ref a ∧ H1 a = some (.ins C dx fs) ∧ fs.lookup m = none ∧
  ∀ q, H1 q = none → te σ (upd H1 q (.met g a)) fun y H2 => ∃ b vs, y = .ref b ∧ (SqT K H2 b vs ∨ SqL K H2 b vs) ∧ H2 q = some (.met g a) ∧ sp (.ref a :: vs) H2 Q E
/-- o.m( *e), e a tuple or a list -/
theorem pe_methSA {X : Cx} {CX : CXT} {k : Nat} {C g : Addr} {m : Str} {sp : Sp} {E : XK} {o e : Expr} {ta te : TE} {p apos pos : Pos} (he : PE X o ta) (c : Cls X.K C) (b : BMeth X.K C m g) (F : FnR X.prog X.w X.K X.mg X.base CX k g sp) (hr : Room k X.A)
    (hx : Passes CX X E) (ha : PE X e te) (hbase : attributeBase o m X.env (eval o X.env) = eval o X.env := by rfl) : PE X (.Call (.Attribute o m apos) [.Starred e p] [] pos) (tMethSA X.K C m g sp E ta te) := by
  refine ⟨fun pins s σ H Q I h => starcall_of hbase (thn (he.run pins s σ H _ I h) fun u s1 ⟨x, H1, I1, rx, a, dx, fs, ex, ea, l, q⟩ => ?_)⟩
  subst ex
  obtain rfl : u = Value.ref a := rx
  refine getbound_ok I1 ea c b l fun q1 s2 hq1 I2 => PySem.W.ks_call (P := PySem.W.MethP X.K q1 g (.ref a)) rfl (PySem.W.keeps_M b.fi) (PySem.W.ks_lone ?_)
  refine thn (ha.run pins s2 σ _ _ I2 (q q1 hq1)) fun v s3 ⟨y, H2, I3, ry, t, vs, ey, ht, hm, hsp⟩ => ?_
  subst ey
  cases ry
  refine StX.star_any I3 ht fun us s4 I4 rv => ⟨met_P I4 hm, wpAny_call (PySem.W.method_call (met_P I4 hm).1 ?_)⟩
  exact run_fnR (us := Value.ref a :: us) (vs := V.ref a :: vs) F hr hx I4 (.cons rfl rv) hsp
end Pk
/-! ## sorted(set(xs)), sum(d.values()) -/
namespace Pk
open PySem PySem.Spec PyProof.Rows L2
/-- a set, just made -/
abbrev emptyS (w : World) : Obj := { cls := .type "set", dict := none, data := .set #[] 0 (.fresh 0 0 (!w.params.followText "set-order")) }
section
variable {P : Program} {w : World} {A : Around} {E : Value → Shared → Prop} {s : Shared}
theorem type_codes {T newId initId : String} {Bi : Builtin} {args : List Value} {Q Q₁ : Value → Shared → Prop} (ft : TypeCalled T newId initId) (hct : checkTypeCall T ⟨args, []⟩ = pure ()) (en : entryFor table initId = some Bi)
    (hnew : codeAny (model P w) A.in1 (.call (.builtin newId) ⟨.type T :: args, []⟩) (wants Q₁ E) s)
    (hty : ∀ obj s₁, Q₁ obj s₁ → s₁.TypeIs obj T) (hchk : ∀ obj s₁, Q₁ obj s₁ → ∀ (M : Model) (B : Around) (E' : Value → Shared → Prop) (Q' : Unit → Shared → Prop), Q' () s₁ → wpAny M B (checkBuiltinCall initId ⟨obj :: args, []⟩) Q' E' s₁)
    (hnext : ∀ obj s₁, Q₁ obj s₁ → wpAny (model P w) A.in1.in1 (Bi ⟨obj :: args, []⟩)
      (fun fin s' => match fin with | .done f => wants (fun r s₂ => r = .none ∧ Q obj s₂) E (.ok f) s' | .again c' => c'.quiet = true ∧ codeAny (model P w) A.in1 c' (wants (fun r s₂ => r = .none ∧ Q obj s₂) E) s')
      (fun e s' => wants (fun r s₂ => r = .none ∧ Q obj s₂) E (.error e) s') s₁) : wpAny (model P w) A (call (.type T) args) Q E s := by
  obtain ⟨c, tl, f1⟩ := ft.mro
  have f2 := ft.made; have f3 := ft.sub; have f4 := ft.notType; have f5 := ft.canCreate
  refine wpAny_call (codeAny_of_tree (show wpAny _ _ (callAny (.type T) _) _ _ _ from wpAny_pure ⟨Code.quiet_builtin _ (by decide +kernel), codeAny_builtin F.entry_type_call ?_⟩))
  rw [Around.under_plain (weight_type_call_type T args []) rfl]
  repeat (any_goals (first | assumption | wp_step))
  refine codeAny_mono hnew fun r s₁ hr => ?_
  match r, hr with
  | .error e, hr => exact hr
  | .ok (.ret obj), hr =>
    have y1 := hnext _ _ hr
    have y2 := hchk _ _ hr
    have y3 := hty _ _ hr
    have f6 := ft.init.lookup; have f7 := ft.init.bind obj
    repeat (any_goals (first | assumption | wp_step))
    refine codeAny_mono (codeAny_call_builtin ft.init.plain en (y2 _ _ _ _ y1)) fun r₂ s₂ z => ?_
    match r₂, z with
    | .error e, z => exact z
    | .ok (.ret r), z =>
      obtain ⟨rfl, z⟩ := z
      repeat (any_goals (first | assumption | wp_step))
theorem set_ofL {l : Addr} {its : List Value} (ns : List Int) {Q : Value → Shared → Prop} (hh : A.handled = none) (hl : s.heap.IsList l its.toArray) (hi : IntsAre its ns) (hb : ns.length + 1 < scanBound)
    (h : ∀ (h' : Heap) (tk c : Nat), SetR w h' s.heap.objs.size (fun j => decide (j ∈ ns)) c → c ≤ ns.length → (∀ b o, s.heap.get? b = some o → h'.get? b = some o) → Q (.ref s.heap.objs.size) { s with heap := h', toks := tk }) :
    wpAny (model P w) A (call (.type "set") [.ref l]) Q E s := by
  have hsz : its.toArray.size = ns.length := by rw [List.size_toArray]; exact IntsAre.length hi
  refine type_codes (Q₁ := fun obj s₁ => obj = .ref s.heap.objs.size ∧ s₁ = { s with heap := s.heap.push (emptyS w) }) F.called_set (F.typeCall_set_1 _) F.entry_set_init (code_set_led1 _ ⟨rfl, rfl⟩) (fun obj s₁ h₁ => by obtain ⟨rfl, rfl⟩ := h₁; exact ⟨_, Heap.get?_push_size _ rfl, rfl⟩) (fun obj s₁ h₁ M B E' Q' q' => ?_) fun obj s₁ h₁ => ?_
  · obtain ⟨rfl, rfl⟩ := h₁
    exact check_set_init_1 ⟨_, Heap.get?_push_size _ rfl, rfl⟩ q'
  obtain ⟨rfl, rfl⟩ := h₁
  have gS : (s.heap.push (emptyS w)).get? s.heap.objs.size = some (emptyS w) := Heap.get?_push_size _ rfl
  have tS : Shared.TypeIs { s with heap := s.heap.push (emptyS w) } (.ref s.heap.objs.size) "set" := ⟨_, gS, rfl⟩
  obtain ⟨⟨cl, dd, dt, sl⟩, hol, hcl, nl, hdl⟩ := hl
  simp only at hcl hdl
  subst hcl hdl
  have hol2 : (s.heap.push (emptyS w)).get? l = some { cls := .type "list", dict := dd, data := .seq its.toArray nl, slots := sl } := Heap.get?_push_of_some _ hol
  have i1 : (s.heap.push (emptyS w)).IsList l its.toArray := ⟨_, hol2, rfl, nl, rfl⟩
  have b1 := F.sub_list_set
  have b2 := F.sub_list_frozenset
  have b3 : (Value.type "list" == Value.type "dict") = false := by decide
  unfold Builtin.«set.__init__» noKeywords Builtin.Frozenset.updateFrom
  generalize hPI : pyIter = PI
  wp_walk
  subst hPI
  refine wpAny_pyIter_list i1 ?_
  refine wpAny_bind (wpAny_runValue ?_)
  have lt : l < s.heap.objs.size := Heap.lt_size hol
  have zz : (s.heap.push (emptyS w)).objs.size = s.heap.objs.size + 1 := Heap.size_push ..
  have n1 : l ≠ (s.heap.push (emptyS w)).objs.size := by rw [zz]; exact Nat.ne_of_lt (Nat.lt_succ_of_lt lt)
  have n2 : s.heap.objs.size ∉ [(s.heap.push (emptyS w)).objs.size, l] := by
    rw [zz, List.mem_cons, List.mem_singleton]
    exact not_or.mpr ⟨Nat.ne_of_lt (Nat.lt_succ_self _), Nat.ne_of_gt lt⟩
  refine set_update_ints ((Walks.list (by simp [hh]) _ l n1 its.toArray).toS) s.heap.objs.size n2 ns hsz hb (fun i v hv => ?_) (its.toArray.size - 0) 0 _ rfl (Nat.zero_le _) ⟨⟨_, Heap.get?_push_size _ rfl, rfl, rfl⟩, i1.push _⟩ ⟨0, Nat.le_refl 0, setR_new_at (Heap.get?_push_of_some _ gS)⟩ fun s' c' hm hc' hS' => ?_
  · have hi2 : i < ns.length := by rw [← hsz]; exact (Array.getElem?_eq_some_iff.mp hv).1
    obtain ⟨t, e⟩ := IntsAre.int_at hi i v (by simpa using hv)
    exact ⟨ns[i], t, List.getElem?_eq_getElem hi2, by rw [e, List.getD_eq_getElem?_getD, List.getElem?_eq_getElem hi2] <;> rfl⟩
  · obtain ⟨h', g2, d2, tk2, o2⟩ := s'
    obtain rfl : g2 = s.gens := hm.gens
    obtain rfl : d2 = s.drawn := hm.drawn
    obtain rfl : o2 = s.os := hm.os
    show wpAny _ _ _ _ _ _
    refine wpAny_pure ?_
    show wpAny _ _ (ret Value.none) _ _ _
    rw [hsz] at hc'
    refine wpAny_pure ⟨rfl, h h' tk2 c' hS' hc' fun b o e => ?_⟩
    have hb0 := Heap.lt_size e
    refine hm.heap b o ?_ (Heap.get?_push_of_some _ (Heap.get?_push_of_some _ e))
    rw [List.mem_cons, List.mem_singleton, zz]
    exact not_or.mpr ⟨Nat.ne_of_lt hb0, Nat.ne_of_lt (Nat.lt_succ_of_lt hb0)⟩
/-- sorted of a set of whole numbers, however many -/
theorem sorted_setN {a : Addr} {S : Int → Bool} {n : Nat} {Q : Value → Shared → Prop} (R : SetR w s.heap a S n) (hh : A.handled = none) (hn0 : n ≤ 4000)
    (hQ : ∀ s' p (out : Array Value) (c : Nat) (ns : List Int), (∀ b o, s.heap.get? b = some o → s'.heap.get? b = some o) → s'.gens = s.gens → s'.os = s.os → s.heap.objs.size ≤ p →
      s'.heap.get? p = some (seqObj "list" out c) → IntsAre out.toList ns → ns.Pairwise (· < ·) → (∀ k, k ∈ ns ↔ S k = true) → ns.length = n → Q (.ref p) s') :
    wpAny (model P w) A (call (.builtin "sorted") [.ref a]) Q E s := by
  obtain ⟨o, es, ep, t, ho, hex, hd, g, nd, hm, hb, hf, hn, hr, hl⟩ := R
  refine Calls.call_function_entry kind_sorted plain_sorted entry_sorted (args_sorted1 _) ?_
  unfold Builtin.«sorted»
  refine wpAny_bind (m := checkCount "sorted" 1 1 _) (wpAny_pure ?_)
  refine wpAny_bind (collect_set (A := A.in1) hh ⟨o, ho, hex.1, hd⟩ hf hb hr hl fun s1 vs k1 hz g1 o1 pm => ?_)
  have hvl : vs.length = n := by rw [pm.length_eq, List.length_map, Array.length_toList]; exact hn
  have hvz : vs.length ≤ sizeLine := by rw [hvl, sizeLine_eq]; omega
  have hI : IntsAre vs (vs.map SrtO.iv) := SrtO.ints_iv fun v hv => by
    obtain ⟨e, he, q⟩ := List.mem_map.mp (pm.mem_iff.mp hv)
    obtain ⟨k, tk, z1, _⟩ := g e he
    exact ⟨k, tk, by rw [← q]; exact z1⟩
  have pk : (vs.map SrtO.iv).Perm (es.toList.map keyOf) := by
    have q := pm.map SrtO.iv
    rw [List.map_map] at q
    exact q
  refine wpAny_bind (wpAny_newList ?_ hvz)
  have oL : (s1.heap.push (seqObj "list" vs.toArray 0)).get? s1.heap.objs.size = some (seqObj "list" vs.toArray 0) := Heap.get?_push_size _ rfl
  refine wpAny_bind (wpAny_holding (wpAny_call_entry slot_list_sort ⟨_, oL, rfl⟩ entry_list_sort (SrtO.list_sort_ord SrtO.swo_int oL hvz (fun h2 => SrtO.ints_sortable hI h2) fun out y1 y2 => ⟨_, rfl, ?_⟩) (args_list_sort _)))
  obtain ⟨x1, x2, x3⟩ := SrtO.ints_out hI y1 y2
  obtain ⟨c, hc⟩ := sortedHeap_at (vs := vs) (out := out.toArray) oL
  have pn := x2.trans pk
  refine wpAny_pure ⟨_, rfl, hQ _ s1.heap.objs.size out.toArray c (out.map SrtO.iv) (fun b u e => ?_) g1 o1 hz hc (by simpa using x1) (lt_of_le_nodup _ x3 (pn.nodup_iff.mpr nd)) (fun k => by rw [pn.mem_iff, ← hm k]) ?_⟩
  · have q := k1 b u e
    have lt := Heap.lt_size q
    show (sortedHeap (s1.heap.push (seqObj "list" vs.toArray 0)) s1.heap.objs.size vs out.toArray).get? b = some u
    rw [sortedHeap_old (Nat.ne_of_lt lt) (by rw [size_push']; exact Nat.lt_succ_of_lt lt)]
    exact Heap.get?_push_of_some _ q
  · rw [pn.length_eq, List.length_map, Array.length_toList]; exact hn
end
theorem sorted_inv {X : Cx} {pins : List (Addr × Obj)} {σ : L2.St} {H1 : Hp} {s2 : Shared} {a : Addr} {S : Int → Bool} {n : Nat} {Q : VK} {A : Around} {E : Value → Shared → Prop} (I2 : Inv X pins σ H1 s2) (R : SetR X.w s2.heap a S n) (hh : A.handled = none) (hn : n ≤ 1000)
    (q1 : ∀ (out : List Int) (q : Addr), out.Pairwise (· < ·) → (∀ k, k ∈ out ↔ S k = true) → H1 q = none → Q (.ref q) (upd H1 q (.lst (out.map V.int)))) :
    wpAny (model X.prog X.w) A (call (.builtin "sorted") [.ref a]) (fun u s' => ∃ x H', Inv X pins σ H' s' ∧ RelV x u ∧ Q x H') E s2 := by
  refine sorted_setN R hh (by omega) fun s' p out c ns2 k g o hp hg hi hs hm hl => ?_
  have hlen : (ns2.map V.int).length ≤ sizeLine := by rw [List.length_map, hl, sizeLine_eq]; omega
  have hn : H1 p = none := I2.hok.fresh hp
  have J : Inv X pins σ (upd H1 p (.lst (ns2.map V.int))) { s2 with heap := s'.heap, gens := s'.gens, drawn := s'.drawn, toks := s'.toks } :=
    I2.call (ch := []) (Un.laid k hp hn) (I2.hok.laid k hp ⟨hlen, out.toList, c, vals_of_ints hi, hg⟩) (by rw [g]; exact I2.bare) (fun _ z => nomatch z)
  have e : s' = { s2 with heap := s'.heap, gens := s'.gens, drawn := s'.drawn, toks := s'.toks } := by
    cases s'
    cases s2
    cases o
    rfl
  rw [e]
  exact ⟨.ref p, _, J, rfl, q1 ns2 p hs hm hn⟩
def tSortSet (K : Fr) (ta : TE) : TE := fun σ H Q => ta σ H fun x H1 => ∃ (l : Addr) (ns : List Int), x = .ref l ∧ SqL K H1 l (ns.map V.int) ∧ ns.length ≤ 1000 ∧
  ∀ (out : List Int) (q : Addr), out.Pairwise (· < ·) → (∀ k, k ∈ out ↔ k ∈ ns) → H1 q = none → Q (.ref q) (upd H1 q (.lst (out.map V.int)))
theorem pe_sortSet {X : Cx} (K : Fr) {a : Expr} {ta : TE} {p p2 q pos : Pos} (hg : Gl X "sorted") (hm : X.mg "sorted" = none) (hg2 : Gl X "set") (hm2 : X.mg "set" = none) (ha : PE X a ta) (hc : X.calm = true := by rfl)
    (na : starEach [a] X.env = (false, eval a X.env) :: starEach [] X.env := by rfl) (hK : X.K = K := by rfl) : PE X (.Call (.Name "sorted" p) [.Call (.Name "set" p2) [a] [] q] [] pos) (tSortSet K ta) := by
  subst hK
  refine ⟨fun pins s σ H Q I h => ?_⟩
  refine Call_ (ld_blt I hg hm b_sorted ?_)
  refine PyProof.Rows.callWith_builtin1 (PyProof.Rows.args_cons ?_ rfl) rfl rfl
  refine Call_ (ld_blt I hg2 hm2 boot_set ?_)
  refine PyProof.Rows.callWith_type1 (PyProof.Rows.args_cons (thn (ha.run pins s σ H _ I h) fun v s1 ⟨x, H1, I1, r1, q1⟩ => PyProof.Rows.args_nil ?_) na) na rfl
  obtain ⟨l, ns, rfl, hq, hl, q1⟩ := q1
  cases r1
  obtain ⟨its, r, pl, hz⟩ := I1.list hq
  refine set_ofL ns (I1.ok.hd hc) pl.isList r.ints (by unfold scanBound; omega) fun h' tk c hS hcl hk => ?_
  refine PyProof.Rows.args_nil ?_
  have I2 : Inv X pins σ H1 { s1 with heap := h', toks := tk } := I1.kept hk
  exact sorted_inv I2 hS (I2.ok.hd hc) (by omega) fun ns2 p hs hm hn => q1 ns2 p hs (fun k => (hm k).trans (by rw [decide_eq_true_eq])) hn
theorem preSum_sum : ∀ (is : List Int), preSum (fun i => is.getD i 0) is.length = is.sum := fun is => by
  have h : ∀ n, n ≤ is.length → preSum (fun i => is.getD i 0) n = (is.take n).sum := fun n => by
    induction n with
    | zero => intro _; rfl
    | succ n ih =>
      intro hn
      have e : is[n]? = some is[n] := List.getElem?_eq_getElem (by omega)
      show preSum (fun i => is.getD i 0) n + is.getD n 0 = _
      rw [ih (by omega), List.take_add_one, e, List.sum_append, List.getD_eq_getElem?_getD, e]
      simp
  rw [h _ (Nat.le_refl _), List.take_length]
/-- sum(d.values()), a dict with int values -/
def tSumVals (td : TE) : TE := fun σ H Q => td σ H fun x H1 => ∃ (a : Addr) (kvs : List (Key × V)) (is : List Int), x = V.ref a ∧ H1 a = some (.dK kvs) ∧ kvs.map (·.2) = is.map V.int ∧ Q (.int is.sum) H1
section
variable {X : Cx} {o : Expr} {p pos apos mpos : Pos} {td : TE}
theorem pe_sumVals (hc : X.calm = true) (hg : Gl X "sum") (hm : X.mg "sum" = none) (hd : PE X o td) (hbase : attributeBase o "values" X.env (eval o X.env) = eval o X.env := by rfl) (hline : (apos.endLine == mpos.line) = true := by rfl)
    (hse : starEach [Expr.Call (.Attribute o "values" apos) [] [] mpos] X.env = [(false, eval (Expr.Call (.Attribute o "values" apos) [] [] mpos) X.env)] := by rfl) :
    PE X (.Call (.Name "sum" p) [.Call (.Attribute o "values" apos) [] [] mpos] [] pos) (tSumVals td) := by
  refine ⟨fun pins s σ H Q I h => ?_⟩
  refine wpAny_Call_Name_kw (ld_blt I hg hm (u := .builtin "sum") (by first | rfl | decide +kernel) ?_ (by first | decide +kernel | decide) (by first | decide +kernel | decide))
  rw [hse]
  refine PySem.callWith_builtin1 (wpAny_Call_method0_late hbase hline (thn (hd.run pins s σ H _ I h) fun v s1 ⟨x, H1, I1, r1, a, kvs, is, ex, ha, hv, q⟩ => ?_))
  subst ex
  obtain rfl : v = Value.ref a := r1
  obtain ⟨_, hsys, vs, rel, dof⟩ := dk_of I1.hok ha
  obtain ⟨ep, dat⟩ := dof.dictAt
  have dat2 := dat
  obtain ⟨ob, es, ho, ex, hdat, hko, hpr, hnd⟩ := dat2
  refine ⟨"dict", "dict.values", F.plainAttrs_dict, F.slot_dict_values, F.type_dict_values, ⟨ob, ho, ex.1⟩, fun b e => ?_, Calls.callWith_builtin rfl (PySem.evalArgs_none ?_)⟩
  · cases e
    exact ⟨ob, ho, ex.2.1⟩
  refine call_meetsIn F.slot_dict_values ⟨ob, ho, ex.1⟩ F.entry_dict_values (F.args_dict_values_1 _) (meets_dict_values (mixKind X.prog X.w) a hsys) ⟨⟨vs, dof⟩, ?_⟩
  have d1 : (s1.heap.push { cls := .type "dict_values", data := .fields #[.ref a] }).DictAt (mixKind X.prog X.w) a vs ep := dat.keep fun b u e => Heap.get?_push_of_some _ e
  have hlv : vs.length = is.length := by
    have e1 := congrArg List.length hv
    rw [List.length_map, List.length_map] at e1
    rw [← e1]
    exact (KV.length rel).symm
  refine PySem.call_sum_walkAnyS (wpAny_pyIter_values (v := s1.heap.objs.size) (d := a) ⟨_, Heap.get?_push_size _ rfl, rfl, rfl⟩ d1 ?_)
  have lt : a < s1.heap.objs.size := Heap.lt_size ho
  have hsz : (s1.heap.push { cls := .type "dict_values", data := .fields #[.ref a] }).objs.size = s1.heap.objs.size + 1 := Heap.size_push _ _
  refine ⟨_, _, _, _, _, _, _, fun i => is.getD i 0, rfl, (Walks.dictValues (knd := mixKind X.prog X.w) (A := X.A.in1) (I.ok.hd hc) (s1.heap.push { cls := .type "dict_values", data := .fields #[.ref a] }).objs.size a (by rw [hsz]; exact Nat.ne_of_lt (Nat.lt_succ_of_lt lt)) vs ep).toS,
    ⟨⟨_, Heap.get?_push_size _ rfl, rfl, rfl⟩, d1.keep fun b u e => Heap.get?_push_of_some _ e⟩, fun b hb => ?_, fun i v hx => ?_, fun s' t' hm => ?_⟩
  · show b < ((s1.heap.push _).push _).objs.size
    rw [Heap.size_push, Heap.size_push]
    rw [hsz, List.mem_cons, List.mem_singleton] at hb
    rcases hb with e | e
    · rw [e]
      exact Nat.lt_succ_self _
    · rw [e]
      exact Nat.lt_succ_of_lt (Nat.lt_succ_of_lt lt)
  · obtain ⟨k, hk⟩ := hx
    obtain ⟨x, z1, z2⟩ := KV.at' rel hk
    have e1 : (kvs.map (·.2))[i]? = some x := by rw [List.getElem?_map, z1] <;> rfl
    rw [hv, List.getElem?_map] at e1
    obtain ⟨j, hj, rfl⟩ := Option.map_eq_some_iff.mp e1
    obtain ⟨t, e3⟩ := z2
    exact ⟨t, by show _ = Value.int (is.getD i 0) t; rw [e3, List.getD_eq_getElem?_getD, hj] <;> rfl⟩
  · rw [PySem.Moved.eq_with hm, hlv, preSum_sum]
    refine ⟨.int is.sum, H1, I1.kept fun b u e => hm.heap b u (fun z => ?_) (Heap.get?_push_of_some _ (Heap.get?_push_of_some _ e)), ⟨t', rfl⟩, q⟩
    have e1 := List.mem_singleton.mp z
    have e2 := Heap.lt_size e
    rw [hsz] at e1
    rw [e1] at e2
    exact absurd e2 (Nat.not_lt.mpr (Nat.le_succ _))
end
end Pk
/-! ## d.values(), list(d.values()) -/
namespace Pk
open PySem PySem.Spec PyProof.Rows L2
def vwObj (d : Addr) : Obj := { cls := .type "dict_values", data := .fields #[.ref d] }
/-- a view of the values of the dict at d -/
def vwO (p d : Addr) : HO := .ext fun h => h.get? p = some (vwObj d)
theorem vwO_ok {P : Program} {w : World} {H : Hp} {h : Heap} {p d : Addr} (e : h.get? p = some (vwObj d)) : ObjOk P w H h p (vwO p d) := ⟨e, ⟨_, e⟩, fun h1 h2 q k => k _ q⟩
section
variable {X : Cx} {o : Expr} {apos cpos : Pos} {td : TE}
def tVals (td : TE) : TE := fun σ H Q => td σ H fun x H1 => ∃ a kvs, x = V.ref a ∧ H1 a = some (.dK kvs) ∧ ∀ p, H1 p = none → Q (.ref p) (upd H1 p (vwO p a))
theorem pe_vals (he : PE X o td) (hbase : attributeBase o "values" X.env (eval o X.env) = eval o X.env := by rfl) (hline : (apos.endLine == cpos.line) = true := by rfl) : PE X (.Call (.Attribute o "values" apos) [] [] cpos) (tVals td) := by
  refine ⟨fun pins s σ H Q I h => ?_⟩
  refine wpAny_Call_method (T := "dict") (id := "dict.values") hbase rfl hline F.plainAttrs_dict F.slot_dict_values F.type_dict_values (thn (he.run pins s σ H _ I h) fun u s1 ⟨x, H1, I1, rx, d, kvs, ex, hd, q⟩ => ?_)
  subst ex
  obtain rfl : u = Value.ref d := rx
  obtain ⟨_, hs, vs, rel, dof⟩ := dk_of I1.hok hd
  obtain ⟨ep, hm⟩ := dof.dictAt
  refine ⟨hm.dictOf.typeIs, hm.dictOf.mapOf.noDict, ?_⟩
  show wpAny _ _ (callWith cpos (.builtin "dict.values") [.ref d] [] []) _ X.xe s1
  refine method_meetsIn F.slot_dict_values F.entry_dict_values rfl (PySem.evalArgs_none ⟨rfl, hm.dictOf.typeIs, F.args_dict_values_1 _, _, meets_dict_values (mixKind X.prog X.w) d hs, ⟨vs, hm.dictOf⟩, ?_⟩)
  exact ⟨.ref s1.heap.objs.size, _, I1.laid (t' := s1.toks) (fun b o q => Heap.get?_push_of_some _ q) (Nat.le_refl _) (vwO_ok (Heap.get?_push_size _ rfl)), rfl, q _ (I1.hok.fresh (Nat.le_refl _))⟩
def rListVals : List V → Hp → VK → Prop := fun xs H Q => ∃ (p a : Addr) (kvs : List (Key × V)), xs = [.ref p] ∧ H p = some (vwO p a) ∧ H a = some (.dK kvs) ∧ ∀ q, H q = none → Q (.ref q) (upd H q (.lst (kvs.map (·.2))))
theorem call_listVals (hc : X.calm = true) : CallR X (.type "list") rListVals := by
  intro pins s σ H xs us Q I r h
  obtain ⟨p, a, kvs, e, hp, hk, q⟩ := h
  subst e
  obtain ⟨u, eu, rx⟩ := vals1 r
  subst eu
  obtain rfl : u = Value.ref p := rx
  have hv : s.heap.get? p = some (vwObj a) := (show ObjOk X.prog X.w H s.heap p (vwO p a) from I.hok p _ hp).1
  obtain ⟨z, lo, vs, rk, hd⟩ := (show ObjOk X.prog X.w H s.heap a (.dK kvs) from I.hok a _ hk)
  obtain ⟨ep, hat⟩ := hd.dictAt
  have hl : kvs.length = vs.length := Paired.length rk
  refine PySem.W.kdl_call (PySem.W.kdl_values (knd := mixKind X.prog X.w) (kvs := vs) (ep := ep) (r := p) (d := a)) (I.ok.hd hc) ⟨⟨_, hv, rfl, rfl⟩, hat⟩ (by rw [← hl]; exact z) fun h' tk acc' c' hkeep hS hacc => ?_
  refine ⟨.ref s.heap.objs.size, upd H s.heap.objs.size (.lst (kvs.map (·.2))), I.laid hkeep (Nat.le_refl _) (show ObjOk X.prog X.w _ _ _ (.lst (kvs.map (·.2))) from ⟨?_, acc'.toList, c', ?_, ?_⟩), rfl, q _ (I.hok.fresh (Nat.le_refl _))⟩
  · rw [List.length_map]; exact z
  · have el : acc'.toList.length = acc'.size := by simp
    refine vals_of_at (by rw [List.length_map, el, hacc.1, hl]) fun j x w h1 h2 => ?_
    obtain ⟨k, hky⟩ := hacc.2 j w (by rw [← Array.getElem?_toList]; exact h2)
    obtain ⟨x2, z1, z2⟩ := KV.at' rk hky
    rw [List.getElem?_map, z1] at h1
    cases h1
    exact z2
  · rw [Array.toArray_toList]; exact hS
end
end Pk
/-! ## sorted(list of pairs of an int and a text), the ints apart -/
namespace Pk
open PySem PySem.Spec PyProof.Rows L2
def IsPairS (h : Heap) (v : Value) (x : Int) : Prop := ∃ a o t z u n, v = .ref a ∧ h.get? a = some o ∧ o.cls = .type "tuple" ∧ o.data = .seq #[.int x t, .str z u] n
theorem IsPairS.keeps {h h' : Heap} {v : Value} {x : Int} (p : IsPairS h v x) (k : ∀ b o, h.get? b = some o → o.cls = .type "tuple" → h'.get? b = some o) : IsPairS h' v x := by
  obtain ⟨a, o, t, z, u, n, e, ho, hc, hd⟩ := p
  exact ⟨a, o, t, z, u, n, e, k _ _ ho hc, hc, hd⟩
theorem firstsS {h : Heap} : ∀ {vs : List Value}, (∀ v ∈ vs, ∃ x, IsPairS h v x) → ∃ fs : List Value, PySem.W.KatTups h vs fs ∧ fs.length = vs.length ∧ ∀ f ∈ fs, ∃ x t, f = Value.int x t
  | [], _ => ⟨[], PySem.W.KatTups.nil, rfl, fun _ hm => by simp at hm⟩
  | v :: vs, hp => by
    obtain ⟨fs, h1, h2, h3⟩ := firstsS (vs := vs) fun v' hm => hp v' (List.mem_cons_of_mem _ hm)
    obtain ⟨x, a, o, t, z, u, n, e, ho, hc, hd⟩ := hp v (List.mem_cons_self ..)
    subst e
    refine ⟨.int x t :: fs, PySem.W.KatTups.cons ho hc hd rfl h1, by rw [List.length_cons, List.length_cons, h2], fun f hm => ?_⟩
    rcases List.mem_cons.mp hm with rfl | hm
    · exact ⟨x, t, rfl⟩
    · exact h3 f hm
section
open SrtO Srt
variable {prog : Program} {w : World} {A : Around} {E : Value → Shared → Prop} {s : Shared}
theorem swo_key {α : Type} (k : α → Int) : Swo fun v u => decide (k v < k u) := by
  refine ⟨fun x y h => ?_, fun x y z h1 h2 => ?_⟩
  · have a := of_decide_eq_true h
    exact decide_eq_false (by omega)
  · have a := of_decide_eq_false h1
    have b := of_decide_eq_false h2
    exact decide_eq_false (by omega)
theorem pairS_cmp {vs : List Value} {k : Value → Int} (hp : ∀ v ∈ vs, IsPairS s.heap v (k v)) (hk : ∀ v ∈ vs, ∀ u ∈ vs, k v = k u → v = u) : Cmp prog w A s (tuples' true) (fun p => p.1 ∈ vs) (lt2 fun v u => decide (k v < k u)) := by
  intro p q hm hm'
  have h1 := hp _ hm
  have h2 := hp _ hm'
  have h3 := hk _ hm _ hm'
  show wpAny (model prog w) A (keyLt' (tuples' true) p.1 q.1) (fun r s' => s' = s ∧ r = decide (k p.1 < k q.1)) (fun _ _ => False) s
  generalize k p.1 = x at h1 h3 ⊢
  generalize k q.1 = x' at h2 h3 ⊢
  obtain ⟨a, o, t, z, u, n, e, ho, hc, hd⟩ := h1
  obtain ⟨a', o', t', z', u', n', e', ho', hc', hd'⟩ := h2
  rw [e, e'] at h3 ⊢
  refine PySem.W.kat_lt ho hd ho' hd' ?_
  show PySem.W.KatLex prog w A true (decide (2 < 2)) _ [(.int x t, .int x' t'), (.str z u, .str z' u')] 0 s
  refine PySem.W.kat_cons (SeqAt.EqAt.int_int x t x' t' prog w _ _ ?_)
  refine PySem.W.kat_go (fun e1 => ?_) (fun e1 => ?_)
  · have ex : x = x' := by simpa using e1
    have ea := h3 ex
    have ea2 : a = a' := by injection ea
    subst ea2
    rw [ho] at ho'
    cases ho'
    rw [hd] at hd'
    have ez : z = z' := by
      injection hd' with hd'
      have := congrArg (fun l : Array Value => l.toList) hd'
      simp at this
      exact this.2.1
    refine PySem.W.kat_yes (PySem.W.kat_cons (SeqAt.EqAt.str_str z u z' u' prog w _ _ ?_))
    refine PySem.W.kat_go (fun e2 => ?_) (fun e2 => ?_)
    · exact PySem.W.kat_yes (PySem.W.kat_nil ⟨rfl, (decide_eq_false (by omega)).symm⟩)
    · rw [ez] at e2
      simp at e2
  · have ex : ¬ x = x' := by simpa using e1
    exact PySem.W.kat_no (oneLt_int ⟨rfl, rfl⟩)
theorem pairS_sortable {a : Addr} {vs : List Value} {k : Value → Int} (h0 : 0 < vs.length) (hp : ∀ v ∈ vs, IsPairS s.heap v (k v)) (hk : ∀ v ∈ vs, ∀ u ∈ vs, k v = k u → v = u) (ha : ∀ o, s.heap.get? a = some o → o.cls ≠ .type "tuple") : SortableO prog w A s a vs fun v u => decide (k v < k u) := by
  intro h' keep
  have hp' : ∀ v ∈ vs, IsPairS h' v (k v) := fun v hm => (hp v hm).keeps fun b o e c => keep b o (fun z => by subst z; exact ha o e c) e
  obtain ⟨fs, h1, h2, h3⟩ := firstsS fun v hm => ⟨_, hp' v hm⟩
  refine ⟨tuples' true, fun Q E hq => ?_, pairS_cmp hp' hk⟩
  refine PySem.W.kat_kind (T := .type "int") h1 (by omega) (fun f hm => ?_) (by rfl) ?_
  · obtain ⟨x, t, rfl⟩ := h3 f hm
    exact PySem.W.Looks.now
  · have e : (Value.type "int" != Value.type "tuple") = true := by first | decide +kernel | rfl | decide
    rw [e]
    exact hq
theorem sorted_pairsS {l : Addr} {vs : List Value} {k : Value → Int} {Q : Value → Shared → Prop} (hl : s.heap.IsList l vs.toArray) (hz : vs.length ≤ sizeLine) (hp : ∀ v ∈ vs, IsPairS s.heap v (k v)) (hk : ∀ v ∈ vs, ∀ u ∈ vs, k v = k u → v = u)
    (h : ∀ (h' : Heap) (d : Addr) (out : List Value), Srtd (fun v u => decide (k v < k u)) out → out.Perm vs → (∀ b o, s.heap.get? b = some o → h'.get? b = some o) → s.heap.objs.size ≤ d → (∃ n, h'.get? d = some (seqObj "list" out.toArray n)) → Q (.ref d) { s with heap := h' }) :
    wpAny (model prog w) A (call (.builtin "sorted") [.ref l]) Q E s := by
  refine sorted_ord (swo_key k) hl hz (fun h2 h₁ a ha kk => ?_) fun out hs hb => ?_
  · refine pairS_sortable (s := { s with heap := h₁ }) (by omega) (fun v hm => (hp v hm).keeps fun b o e _ => (kk b o e).2) hk fun o e => ?_
    have e' : some o = some (seqObj "list" vs.toArray 0) := e.symm.trans ha
    cases e'
    intro c
    exact absurd (Value.type.inj c) (by decide)
  · exact h _ _ out hs hb.perm (fun b o e => sortedAll_old e) (Nat.le_succ _) (sortedAll_at s.heap vs out.toArray)
end
/-- sorted(xs), xs a list of pairs of an int and a text, the ints apart: a new list, sorted -/
def rSortedIS (K : PySem.W.Frag) : List V → Hp → VK → Prop := fun vs H Q => ∃ (a : Addr) (xs : List V) (k : V → Int), vs = [V.ref a] ∧ SqL K H a xs ∧ (∀ x ∈ xs, ∃ t z, x = V.ref t ∧ H t = some (.tup [.int (k x), .str z])) ∧ (∀ x ∈ xs, ∀ y ∈ xs, k x = k y → x = y) ∧
  ∀ ys p, ys.Pairwise (fun x y => k x ≤ k y) → ys.Perm xs → H p = none → Q (.ref p) (upd H p (.lst ys))
section
variable {X : Cx}
theorem cr_sortedIS (K : Fr) (h0 : X.K = K := by rfl) : CallR X (.builtin "sorted") (rSortedIS K) := by
  subst h0
  intro pins s σ H vs us Q I r h
  obtain ⟨a, xs, k, rfl, hs, hx, hk, q⟩ := h
  obtain ⟨its, rv, hl, hz⟩ := I.list hs
  obtain ⟨u, rfl, ru⟩ := vals1 r
  obtain rfl : u = Value.ref a := ru
  obtain ⟨e1, e2⟩ := refs_back rv fun x m => by
    obtain ⟨t, z, e, _⟩ := hx x m
    exact ⟨t, e⟩
  have mem : ∀ v ∈ its, backV v ∈ xs := fun v hv => by rw [e1]; exact List.mem_map.mpr ⟨v, hv, rfl⟩
  refine sorted_pairsS (k := fun u => k (backV u)) hl.isList (by rw [← rv.length]; exact hz) (fun v hv => ?_) (fun v hv u hu e => ?_) fun h' d out h1 h2 kp hd hn => ?_
  · obtain ⟨t, rfl⟩ := e2 v hv
    have hm : V.ref t ∈ xs := mem _ hv
    obtain ⟨t', z, e, ht⟩ := hx _ hm
    cases e
    obtain ⟨_, its2, r2, o, ho, hc, n, hd⟩ := I.hok _ _ ht
    obtain ⟨u1, u2, rfl, ri, rj⟩ := vals2 r2
    obtain ⟨t1, rfl⟩ := ri
    obtain ⟨t2, rfl⟩ := rj
    exact ⟨t, o, t1, z, t2, n, rfl, ho, hc, hd⟩
  · obtain ⟨t, rfl⟩ := e2 v hv
    obtain ⟨t2, rfl⟩ := e2 u hu
    have := hk _ (mem _ hv) _ (mem _ hu) e
    have : V.ref t = V.ref t2 := this
    cases this
    rfl
  · have h3 : ∀ u ∈ out, ∃ a, u = Value.ref a := fun u hu => e2 u (h2.mem_iff.mp hu)
    obtain ⟨n, hn⟩ := hn
    have hb : (out.map backV).Perm xs := by
      rw [e1]
      exact h2.map backV
    have hso : (out.map backV).Pairwise (fun x y => k x ≤ k y) := List.pairwise_map.mpr (h1.imp fun {x y} z => by
      have z2 : decide (k (backV y) < k (backV x)) = false := z
      have := of_decide_eq_false z2
      omega)
    refine ⟨.ref d, upd H d (.lst (out.map backV)), I.laid (t' := s.toks) kp hd ⟨?_, out, n, vals_back h3, hn⟩, rfl, q _ d hso hb (I.hok.fresh hd)⟩
    rw [hb.length_eq]
    exact hz
end
end Pk
/-! ## list(zip(a, b)), lists -/
namespace Pk
open PySem PySem.Spec PyProof.Rows L2
section
variable {prog : Program} {w : World} {A : Around} {E : Value → Shared → Prop} {s : Shared} {z TI TO i1 i2 a b : Addr} {i : Nat} {held : Option Addr}
theorem zl_next {xs ys : Array Value} {x y : Value} {Q : Option Value → Shared → Prop} (D : ZipApart z TI TO i1 i2 a b) (Z : ZAt s.heap z TI TO i1 i2 a b i held) (alive : ∀ T, held = some T → ∃ o, s.heap.get? T = some o)
    (l1 : s.heap.IsList a xs) (l2 : s.heap.IsList b ys) (ex : xs[i]? = some x) (ey : ys[i]? = some y)
    (q : ∀ h2, ZAt h2 z TI TO i1 i2 a b (i + 1) (some (held.getD s.heap.objs.size)) → IsPair h2 s.heap.objs.size x y → (∀ c o, c ∉ [z, TO, i1, i2] → s.heap.get? c = some o → h2.get? c = some o) → Q (some (.ref s.heap.objs.size)) { s with heap := h2 }) :
    wpAny (model prog w) A (pyNext (.ref z)) Q E s := by
  have hp := Z.pair
  have nTI : TI ∉ [z, TO, i1, i2] := by simp [D.TIz, D.TITO, D.TIi1, D.TIi2]
  have h0 := Z.at_
  cases held with
  | none =>
    obtain ⟨x0, y0, hTO⟩ := Z.out
    refine wpAny_pyNext_zip_item D h0 hp hTO Z.it1 Z.it2 l1 l2 ex ey fun hq a1 a2 a3 a4 a5 a6 a7 => ?_
    have kp : ∀ c o, c ∉ [z, TO, i1, i2] → s.heap.get? c = some o → hq.get? c = some o := fun c o hc e => by
      simp only [List.mem_cons, List.not_mem_nil, or_false, not_or] at hc
      exact a7 c o hc.1 hc.2.1 hc.2.2.1 hc.2.2.2 e
    exact q hq ⟨kp _ _ nTI hp, a3, a4, ⟨_, _, a2⟩, false, a1⟩ a5 kp
  | some T =>
    obtain ⟨f, hz⟩ := h0
    obtain ⟨oT, hT⟩ := alive T rfl
    refine wpAny_pyNext_zip_item_held D hz hT hp Z.it1 Z.it2 l1 l2 ex ey fun hq a1 a3 a4 a5 a6 a7 => ?_
    have kp : ∀ c o, c ∉ [z, TO, i1, i2] → s.heap.get? c = some o → hq.get? c = some o := fun c o hc e => by
      simp only [List.mem_cons, List.not_mem_nil, or_false, not_or] at hc
      exact a7 c o hc.1 hc.2.2.1 hc.2.2.2 e
    exact q hq ⟨kp _ _ nTI hp, a3, a4, let ⟨x0, y0, hTO⟩ := Z.out; ⟨x0, y0, a7 _ _ D.TOz D.TOi1 D.TOi2 hTO⟩, true, a1⟩ a5 kp
theorem zl_done {xs ys : Array Value} {Q : Option Value → Shared → Prop} (hh : A.handled = none) (D : ZipApart z TI TO i1 i2 a b) (Z : ZAt s.heap z TI TO i1 i2 a b i held) (alive : ∀ T, held = some T → ∃ o, s.heap.get? T = some o)
    (l1 : s.heap.IsList a xs) (l2 : s.heap.IsList b ys) (over : xs[i]? = none ∨ ys[i]? = none)
    (q : ∀ h2, (∀ c o, c ∉ [z, TO, i1, i2] → s.heap.get? c = some o → h2.get? c = some o) → Q none { s with heap := h2 }) :
    wpAny (model prog w) A (pyNext (.ref z)) Q E s := by
  have hp := Z.pair
  have h0 := Z.at_
  cases held with
  | none =>
    obtain ⟨x0, y0, hTO⟩ := Z.out
    refine wpAny_pyNext_zip_end hh D h0 hp hTO Z.it1 Z.it2 l1 l2 over fun hq a7 => q hq fun c o hc e => ?_
    simp only [List.mem_cons, List.not_mem_nil, or_false, not_or] at hc
    exact a7 c o hc.1 hc.2.1 hc.2.2.1 hc.2.2.2 e
  | some T =>
    obtain ⟨f, hz⟩ := h0
    obtain ⟨oT, hT⟩ := alive T rfl
    refine wpAny_pyNext_zip_end_held hh D hz hT hp Z.it1 Z.it2 l1 l2 over fun hq a7 => q hq fun c o hc e => ?_
    simp only [List.mem_cons, List.not_mem_nil, or_false, not_or] at hc
    exact a7 c o hc.1 hc.2.2.1 hc.2.2.2 e
theorem zip_no_len : typeLookup (.type "zip") "__len__" = pure none := by rw [typeLookup_type, builtinLookup_eq_fast]; kernel_rfl
theorem zip_no_hint : typeLookup (.type "zip") "__length_hint__" = pure none := by rw [typeLookup_type, builtinLookup_eq_fast]; kernel_rfl
theorem zl_hint {Q : Bool → Shared → Prop} (hT : s.TypeIs (.ref z) "zip") (h : Q true s) : wpAny (model prog w) A (Builtin.List.listLengthHint (.ref z)) Q E s := by
  unfold Builtin.List.listLengthHint
  refine wpAny_bind (wpAny_specialOf hT zip_no_len ?_)
  show wpAny _ _ (specialOf (.ref z) "__length_hint__" >>= _) _ _ _
  refine wpAny_bind (wpAny_specialOf hT zip_no_hint ?_)
  exact wpAny_pure h
end
/-- the pairs that a list holds -/
def PrItems (H : Hp) (acc xs ys : List V) : Prop := ∀ (j : Nat) (v : V), acc[j]? = some v → ∃ (T : Addr) (x y : V), v = .ref T ∧ H T = some (.tup [x, y]) ∧ xs[j]? = some x ∧ ys[j]? = some y
theorem sqL_upd {K : Fr} {H : Hp} {a S : Addr} {o : HO} {xs : List V} (h : SqL K H a xs) (ne : a ≠ S) : SqL K (upd H S o) a xs := by
  rcases h with (z | ⟨u, z⟩) | z
  · exact .inl (.inl (by rw [upd_ne ne]; exact z))
  · exact .inl (.inr ⟨u, by rw [upd_ne ne]; exact z⟩)
  · exact .inr z
section
variable {X : Cx} {pins : List (Addr × Obj)} {σ : L2.St} {A : Around}
theorem zl_loop (hh : A.handled = none) {S z TI TO i1 i2 a b : Addr} (D : ZipApart z TI TO i1 i2 a b) {xs ys : List V} (hS : S ∉ [z, TI, TO, i1, i2]) (aS : a ≠ S) (bS : b ≠ S) (hm : min xs.length ys.length ≤ 16000000) (res : Value) {R : Result → Shared → Prop} :
    ∀ (k i : Nat) (s : Shared) (H : Hp) (acc : List V) (held : Option Addr), min xs.length ys.length - i = k → i ≤ min xs.length ys.length → Inv X pins σ H s → ZAt s.heap z TI TO i1 i2 a b i held → (∀ T, held = some T → ∃ us, H T = some (.tup us)) →
      (∀ c ∈ [z, TI, TO, i1, i2], FpOk X pins H c) → SqL X.K H a xs → SqL X.K H b ys → H S = some (.lst acc) → acc.length = i → PrItems H acc xs ys →
      (∀ s2 H2 acc2, Inv X pins σ H2 s2 → (∀ c o, c ≠ S → H c = some o → H2 c = some o) → H2 S = some (.lst acc2) → acc2.length = min xs.length ys.length → PrItems H2 acc2 xs ys → R (.ok (.ret res)) s2) →
      codeAny (model X.prog X.w) A (.builtin "list.extend.loop" ⟨[.ref S, .ref z, res], []⟩) R s := by
  intro k
  induction k with
  | zero =>
    intro i s H acc held hk hi I Z alive fp ha hb hSl hal hit fin
    obtain ⟨its, rv, p1, _⟩ := I.list ha
    obtain ⟨its2, rv2, p2, _⟩ := I.list hb
    have l1 := rv.length
    have l2 := rv2.length
    refine codeAny_builtin F.entry_extend_loop ?_
    rw [Around.under_plainId F.plain_extend_loop _]
    show wpAny _ A.in1 (pyNext (.ref z) >>= _) _ _ s
    refine wpAny_bind (zl_done (by simpa using hh) D Z (fun T hT => ?_) p1.isList p2.isList ?_ fun h2 kp => ?_)
    · obtain ⟨us, hu⟩ := alive T hT
      obtain ⟨its, _, ⟨o, ho, _⟩, _⟩ := I.tuple (xs := us) (.inl (.inl hu))
      exact ⟨o, ho⟩
    · by_cases hx : i < xs.length
      · right
        rw [List.getElem?_toArray]
        exact List.getElem?_eq_none (by omega)
      · left
        rw [List.getElem?_toArray]
        exact List.getElem?_eq_none (by omega)
    · have I2 : Inv X pins σ H { s with heap := h2 } := I.turnedL (t' := s.toks) (ch := [z, TI, TO, i1, i2]) (fun c o hc e => kp c o (fun q => hc (by
        simp only [List.mem_cons, List.not_mem_nil, or_false] at q ⊢
        rcases q with q | q | q | q <;> simp [q])) e) fp
      exact wpAny_pure (fin _ H acc I2 (fun _ _ _ e => e) hSl (by omega) hit)
  | succ k ih =>
    intro i s H acc held hk hi I Z alive fp ha hb hSl hal hit fin
    obtain ⟨its, rv, p1, _⟩ := I.list ha
    obtain ⟨its2, rv2, p2, _⟩ := I.list hb
    obtain ⟨x, hx⟩ : ∃ x, xs[i]? = some x := ⟨_, List.getElem?_eq_getElem (by omega)⟩
    obtain ⟨y, hy⟩ : ∃ y, ys[i]? = some y := ⟨_, List.getElem?_eq_getElem (by omega)⟩
    obtain ⟨u, hu, ru⟩ := rv.get hx
    obtain ⟨u2, hu2, ru2⟩ := rv2.get hy
    refine codeAny_builtin F.entry_extend_loop ?_
    rw [Around.under_plainId F.plain_extend_loop _]
    show wpAny _ A.in1 (pyNext (.ref z) >>= _) _ _ s
    refine wpAny_bind (zl_next D Z (fun T hT => ?_) p1.isList p2.isList (x := u) (y := u2) (by simpa using hu) (by simpa using hu2) fun h2 Z2 hT kp => ?_)
    · obtain ⟨us, hu⟩ := alive T hT
      obtain ⟨its, _, ⟨o, ho, _⟩, _⟩ := I.tuple (xs := us) (.inl (.inl hu))
      exact ⟨o, ho⟩
    have hn : H s.heap.objs.size = none := I.hok.fresh (Nat.le_refl _)
    have new : ObjOk X.prog X.w (upd H s.heap.objs.size (.tup [x, y])) h2 s.heap.objs.size (.tup [x, y]) := ⟨by show 2 ≤ sizeLine; decide, [u, u2], .cons ru (.cons ru2 .nil), ⟨_, hT, rfl, _, rfl⟩⟩
    have I1 : Inv X pins σ (upd H s.heap.objs.size (.tup [x, y])) { s with heap := h2 } :=
      I.turnedNew (t' := s.toks) (ch := [z, TI, TO, i1, i2]) (fun c o hc e => kp c o (fun q => hc (by
        simp only [List.mem_cons, List.not_mem_nil, or_false] at q ⊢
        rcases q with q | q | q | q <;> simp [q])) e) fp (Nat.le_refl _) new
    have neS : S ≠ s.heap.objs.size := ne_of_none hSl hn
    have hS1 : upd H s.heap.objs.size (.tup [x, y]) S = some (.lst acc) := by rw [upd_ne neS]; exact hSl
    obtain ⟨zz, jts, n, r, hl, e⟩ := I1.lstM hS1
    show wpAny _ A.in1 (updateSeq S (·.push (.ref s.heap.objs.size)) >>= _) _ _ _
    have szl : sizeLine = 16777216 := sizeLine_eq
    refine wpAny_bind (wpAny_updateSeq e rfl (wpAny_pure ⟨plainId_quiet F.plain_extend_loop _, ?_⟩) (by rw [List.size_toArray]; omega) (by show (jts.toArray.push _).size ≤ sizeLine + 1; rw [Array.size_push, List.size_toArray]; omega))
    have I2 : Inv X pins σ (upd (upd H s.heap.objs.size (.tup [x, y])) S (.lst (acc ++ [.ref s.heap.objs.size]))) { s with heap := h2.update S (Obj.mapSeq fun q => q.push (.ref s.heap.objs.size)) } :=
      I1.lset (t' := s.toks) (its' := jts ++ [.ref s.heap.objs.size]) (ys := acc ++ [.ref s.heap.objs.size]) hS1 e (by simp) (r.append (.cons (show RelV (V.ref s.heap.objs.size) (Value.ref s.heap.objs.size) from rfl) .nil)) (by rw [List.length_append, List.length_singleton]; omega)
    have kpS : ∀ c ∈ [z, TI, TO, i1, i2], ∀ o, h2.get? c = some o → (h2.update S (Obj.mapSeq fun q => q.push (.ref s.heap.objs.size))).get? c = some o := fun c hc o q => (Heap.get?_update_other _ _ (fun z9 : S = c => hS (z9 ▸ hc))).trans q
    have old : ∀ c o, c ≠ S → H c = some o → upd (upd H s.heap.objs.size (.tup [x, y])) S (.lst (acc ++ [.ref s.heap.objs.size])) c = some o := fun c o hc q => by rw [upd_ne hc, upd_ne (ne_of_none q hn)]; exact q
    have eT : upd (upd H s.heap.objs.size (.tup [x, y])) S (.lst (acc ++ [.ref s.heap.objs.size])) s.heap.objs.size = some (.tup [x, y]) := by rw [upd_ne neS.symm, upd_same]
    have sqT_ : ∀ {q : Addr} {qs : List V}, q ≠ S → SqL X.K H q qs → SqL X.K (upd (upd H s.heap.objs.size (.tup [x, y])) S (.lst (acc ++ [.ref s.heap.objs.size]))) q qs := fun {q qs} hq h => by
      rcases h with (z9 | ⟨u9, z9⟩) | z9
      · exact .inl (.inl (old _ _ hq z9))
      · exact .inl (.inr ⟨u9, old _ _ hq z9⟩)
      · exact .inr z9
    have lt : ∀ c ∈ [z, TI, TO, i1, i2], c < s.heap.objs.size := fun c hc => by
      simp only [List.mem_cons, List.not_mem_nil, or_false] at hc
      rcases hc with q | q | q | q | q
      · rw [q]; obtain ⟨o, ho, _⟩ := Z.ty; exact Heap.lt_size ho
      · rw [q]; exact Heap.lt_size Z.pair
      · rw [q]; obtain ⟨_, _, ho⟩ := Z.out; exact Heap.lt_size ho
      · rw [q]; obtain ⟨o, ho, _⟩ := Z.it1; exact Heap.lt_size ho
      · rw [q]; obtain ⟨o, ho, _⟩ := Z.it2; exact Heap.lt_size ho
    refine ih (i + 1) _ _ (acc ++ [.ref s.heap.objs.size]) (some (held.getD s.heap.objs.size)) (by omega) (by omega) I2 ?_ ?_ ?_ (sqT_ aS ha) (sqT_ bS hb) upd_same (by rw [List.length_append, hal]; rfl) ?_ fun s3 H3 acc3 I3 k3 hS3 l3 p3 => fin s3 H3 acc3 I3 (fun c o hc q => k3 c o hc (old c o hc q)) hS3 l3 p3
    · refine ⟨kpS TI (by simp) _ Z2.pair, Z2.it1.at fun o q => kpS i1 (by simp) o q, Z2.it2.at fun o q => kpS i2 (by simp) o q, ?_, ?_⟩
      · obtain ⟨x9, y9, ho⟩ := Z2.out
        exact ⟨x9, y9, kpS TO (by simp) _ ho⟩
      · obtain ⟨f, hz⟩ := Z2.at_
        exact ⟨f, kpS z (by simp) _ hz⟩
    · intro T9 hT9
      cases held with
      | none =>
        cases hT9
        exact ⟨_, eT⟩
      | some T1 =>
        cases hT9
        obtain ⟨us, hu9⟩ := alive T1 rfl
        exact ⟨us, old _ _ (fun z9 => by have z8 : T1 = S := z9; rw [z8, hSl] at hu9; cases hu9) hu9⟩
    · intro c hc
      refine ⟨?_, (fp c hc).2⟩
      rw [upd_ne (fun z9 : c = S => hS (z9 ▸ hc)), upd_ne (Nat.ne_of_lt (lt c hc))]
      exact (fp c hc).1
    · intro j v hv
      by_cases hj : j < i
      · rw [List.getElem?_append_left (by omega)] at hv
        obtain ⟨T9, x9, y9, e1, e2, e3, e4⟩ := hit j v hv
        exact ⟨T9, x9, y9, e1, old _ _ (fun z9 => by rw [z9, hSl] at e2; cases e2) e2, e3, e4⟩
      · have hji : j = i := by
          have := (List.getElem?_eq_some_iff.mp hv).1
          rw [List.length_append, List.length_singleton] at this
          omega
        subst hji
        rw [List.getElem?_append_right (by omega), hal, Nat.sub_self] at hv
        cases hv
        exact ⟨_, x, y, rfl, eT, hx, hy⟩
theorem zl_extend (hc : X.calm = true) (hh : A.handled = none) {S z TI TO i1 i2 a b : Addr} (D : ZipApart z TI TO i1 i2 a b) {xs ys : List V} (hS : S ∉ [z, TI, TO, i1, i2]) (aS : a ≠ S) (bS : b ≠ S) (hm : min xs.length ys.length ≤ 16000000) (res : Value) {R : Result → Shared → Prop}
    {s : Shared} {H : Hp} (I : Inv X pins σ H s) (hz : IsZip s.heap z TI TO .none) (Z : ZAt s.heap z TI TO i1 i2 a b 0 none) (fp : ∀ c ∈ [z, TI, TO, i1, i2], FpOk X pins H c) (ha : SqL X.K H a xs) (hb : SqL X.K H b ys) (hSl : H S = some (.lst []))
    (fin : ∀ s2 H2 acc2, Inv X pins σ H2 s2 → (∀ c o, c ≠ S → H c = some o → H2 c = some o) → H2 S = some (.lst acc2) → acc2.length = min xs.length ys.length → PrItems H2 acc2 xs ys → R (.ok (.ret res)) s2) :
    wpAny (model X.prog X.w) A.in1 (Builtin.List.listExtendWith (.ref S) (.ref z) res)
      (fun fin s' => match fin with | .done f => R (.ok f) s' | .again c' => c'.quiet = true ∧ codeAny (model X.prog X.w) A c' R s') (fun e s' => R (.error e) s') s := by
  have tz : s.TypeIs (.ref z) "zip" := ⟨_, hz, rfl⟩
  have sz : S ≠ z := fun e => hS (by rw [e]; simp)
  unfold Builtin.List.listExtendWith
  refine wpAny_bind (wpAny_typeOf (T := "zip") tz ?_)
  have h1 : Builtin.List.listSameRef (.ref S) (.ref z) = false := by simp [Builtin.List.listSameRef, sz]
  have e1 : (Value.type "zip" == Value.type "list") = false := by decide
  have e2 : (Value.type "zip" == Value.type "tuple") = false := by decide
  simp only [h1, e1, e2, Bool.or_false, Bool.false_eq_true, if_false]
  refine wpAny_bind (wpAny_pyIter_zip hz ?_)
  refine wpAny_bind (wpAny_holding (zl_hint tz ?_))
  have go : ∀ (s2 : Shared), Inv X pins σ H s2 → ZAt s2.heap z TI TO i1 i2 a b 0 none → codeAny (model X.prog X.w) A (.builtin "list.extend.loop" ⟨[.ref S, .ref z, res], []⟩) R s2 := fun s2 I2 Z2 =>
    zl_loop hh D hS aS bS hm res _ 0 s2 H [] none rfl (Nat.zero_le _) I2 Z2 (fun T hT => by cases hT) fp ha hb hSl rfl (fun j v hv => by simp at hv) fin
  obtain ⟨zz, jts, n, r, hl, e⟩ := I.lstM hSl
  obtain rfl : jts = [] := List.length_eq_zero_iff.mp hl.symm
  refine wpAny_ite_split (fun _ => ?_) (fun _ => wpAny_pure ⟨plainId_quiet F.plain_extend_loop _, go s I Z⟩)
  refine wpAny_bind (wpAny_rule (wpAny_bind ?_))
  show wpAny _ _ (updateSeq S (·.push .none) >>= fun _ => updateSeq S (·.pop)) _ _ _
  refine wpAny_bind (wpAny_updateSeq e rfl ?_)
  have e3 := Heap.get?_update_self (Obj.mapSeq (·.push Value.none)) e rfl
  refine wpAny_updateSeq (hz := by seq_fits) e3 rfl ?_
  have e4 := Heap.get?_update_self (Obj.mapSeq (·.pop)) e3 rfl
  have kp : ∀ c o, c ≠ S → s.heap.get? c = some o → ((s.heap.update S (Obj.mapSeq (·.push Value.none))).update S (Obj.mapSeq (·.pop))).get? c = some o := fun c o hc q => (Heap.get?_update_other _ _ (Ne.symm hc)).trans ((Heap.get?_update_other _ _ (Ne.symm hc)).trans q)
  have same : upd H S (.lst []) = H := funext fun q => by
    by_cases hq : q = S
    · rw [hq, upd_same, hSl]
    · rw [upd_ne hq]
  have I2 := I.write (x := S) (e := S) (o := .lst []) (t' := s.toks) (h' := (s.heap.update S (Obj.mapSeq (·.push Value.none))).update S (Obj.mapSeq (·.pop))) (by rw [hSl]; trivial) (.inl rfl) (fun c o hc q => kp c o hc q) ⟨_, e4⟩ ⟨Nat.zero_le _, [], _, .nil, e4⟩
  rw [same] at I2
  have nin : ∀ c ∈ [z, TI, TO, i1, i2], c ≠ S := fun c hc q => hS (q ▸ hc)
  refine wpAny_pure ⟨plainId_quiet F.plain_extend_loop _, go _ I2 ⟨kp _ _ (nin TI (by simp)) Z.pair, Z.it1.at fun o q => kp _ _ (nin i1 (by simp)) q, Z.it2.at fun o q => kp _ _ (nin i2 (by simp)) q, ?_, kp _ _ (nin z (by simp)) hz⟩⟩
  obtain ⟨x9, y9, ho⟩ := Z.out
  exact ⟨x9, y9, kp _ _ (nin TO (by simp)) ho⟩
/-- list(zip(a, b)): a new list of new pairs -/
def tListZip (K : Fr) (ta : TA) : TE := fun σ H Q => ta σ H fun vs H1 => ∃ (a b : Addr) (xs ys : List V), vs = [.ref a, .ref b] ∧ SqL K H1 a xs ∧ SqL K H1 b ys ∧ min xs.length ys.length ≤ 16000000 ∧
  ∀ (l : Addr) (acc : List V) H2, H1 l = none → Same H1 H2 → H2 l = some (.lst acc) → acc.length = min xs.length ys.length → PrItems H2 acc xs ys → Q (.ref l) H2
theorem pe_listZip (K : Fr) {p1 p2 pos1 pos2 : Pos} {e e2 : Expr} {ta : TA} (ge : Gl X "list") (me : X.mg "list" = none) (gz : Gl X "zip") (mz : X.mg "zip" = none) (ha : PA X [e, e2] ta) (hc : X.calm = true := by rfl)
    (hs : starEach [e, e2] X.env = (false, eval e X.env) :: starEach [e2] X.env := by rfl) (hpl : (backTo pos2 (starEach [e2] X.env)).any (·.1) = false := by rfl)
    (na : starEach [.Call (.Name "zip" p2) [e, e2] [] pos2] X.env = (false, eval (.Call (.Name "zip" p2) [e, e2] [] pos2) X.env) :: starEach [] X.env := by rfl) (hK : X.K = K := by rfl) :
    PE X (.Call (.Name "list" p1) [.Call (.Name "zip" p2) [e, e2] [] pos2] [] pos1) (tListZip K ta) := by
  subst hK
  refine ⟨fun pins s σ H Q I h => ?_⟩
  refine Call_ (ld_blt I ge me b_list (PyProof.Rows.callWith_type1 (PyProof.Rows.args_cons (Call_ (ld_blt I gz mz PyProof.Rows.boot_zip (PyProof.Rows.callWith_type1 (thn (ha.run pos2 pins s σ H _ I h) fun us s1 k1 => ?_) hs hpl))) na) na rfl))
  obtain ⟨vs, H1, I1, r1, a, b, xs, ys, ev, la, lb, hm, q⟩ := k1
  subst ev
  cases r1 with
  | cons r rr =>
  cases rr with
  | cons r2 rr =>
  cases rr
  cases r
  cases r2
  obtain ⟨its, rv, q1, _⟩ := I1.list la
  obtain ⟨its2, rv2, q2, _⟩ := I1.list lb
  have lta : a < s1.heap.objs.size := q1.lt
  have ltb : b < s1.heap.objs.size := q2.lt
  have DD := PySem.W.ktu_apart s1.heap.objs.size a b lta ltb
  refine call_zip_2 q1.isList q2.isList fun h1 hz hTI hTO t1 t2 size1 kp1 => PyProof.Rows.args_nil ?_
  have I2 : Inv X pins σ H1 { s1 with heap := h1 } := I1.kept (t' := s1.toks) kp1
  have nH : ∀ c, s1.heap.objs.size ≤ c → H1 c = none := fun c hc => I1.hok.fresh hc
  have aS : a ≠ h1.objs.size := Nat.ne_of_lt (Nat.lt_of_lt_of_le lta (by rw [size1]; exact Nat.le_add_right _ _))
  have bS : b ≠ h1.objs.size := Nat.ne_of_lt (Nat.lt_of_lt_of_le ltb (by rw [size1]; exact Nat.le_add_right _ _))
  have hSn : h1.objs.size ∉ [s1.heap.objs.size + 4, s1.heap.objs.size + 2, s1.heap.objs.size + 3, s1.heap.objs.size, s1.heap.objs.size + 1] := by
    rw [size1]
    simp only [List.mem_cons, List.not_mem_nil, or_false, not_or]
    refine ⟨?_, ?_, ?_, ?_, ?_⟩ <;> exact Nat.ne_of_gt (by omega)
  refine callType_codes (Q₁ := fun obj s2 => obj = .ref h1.objs.size ∧ s2 = { s1 with heap := h1.push { cls := .type "list", data := .seq #[] } }) PySem.F.called_list (PySem.F.typeCall_list_1 _) PySem.F.entry_list_init (code_list_new _ ⟨rfl, rfl⟩) fun obj s2 h2 => ?_
  obtain ⟨rfl, rfl⟩ := h2
  have gS : (h1.push { cls := .type "list", data := .seq #[] }).get? h1.objs.size = some { cls := .type "list", data := .seq #[] } := Heap.get?_push_size _ rfl
  have I3 : Inv X pins σ (upd H1 h1.objs.size (.lst [])) { s1 with heap := h1.push { cls := .type "list", data := .seq #[] } } :=
    I2.laid (t' := s1.toks) (fun c o q => Heap.get?_push_of_some _ q) (Nat.le_refl _) ⟨Nat.zero_le _, [], _, .nil, gS⟩
  refine ⟨⟨_, gS, rfl⟩, PySem.F.args_list_init_2 _ _, ?_⟩
  show wpAny _ _ (do let old ← Builtin.List.listItems (.ref h1.objs.size); Builtin.List.listUpdate (.ref h1.objs.size) (fun _ => #[]); letGo old.toList.reverse; Builtin.List.listExtendWith (.ref h1.objs.size) (.ref (s1.heap.objs.size + 4)) .none) _ _ _
  refine wpAny_bind ?_
  unfold Builtin.List.listItems
  refine wpAny_bind (wpAny_seqItems gS rfl (wpAny_pure ?_))
  show wpAny _ _ (updateSeq h1.objs.size (fun _ => #[]) >>= fun _ => letGo (#[] : Array Value).toList.reverse >>= fun _ => Builtin.List.listExtendWith (.ref h1.objs.size) (.ref (s1.heap.objs.size + 4)) .none) _ _ _
  refine wpAny_bind (wpAny_updateSeq gS rfl (wpAny_bind (wpAny_letGo ?_)))
  have I4 := I3.lset (t' := s1.toks) (f := fun _ => #[]) (its' := []) (ys := []) upd_same gS rfl .nil (Nat.zero_le _)
  rw [upd_upd] at I4
  have kp : ∀ c o, c ≠ h1.objs.size → h1.get? c = some o → ((h1.push { cls := .type "list", data := .seq #[] }).update h1.objs.size (Obj.mapSeq (fun _ => (#[] : Array Value)))).get? c = some o := fun c o hc q => (Heap.get?_update_other _ _ (Ne.symm hc)).trans (Heap.get?_push_of_some _ q)
  have nin : ∀ c ∈ [s1.heap.objs.size + 4, s1.heap.objs.size + 2, s1.heap.objs.size + 3, s1.heap.objs.size, s1.heap.objs.size + 1], c ≠ h1.objs.size := fun c hc q => hSn (q ▸ hc)
  refine zl_extend hc (A := X.A.in1) (I1.ok.hd hc) DD hSn aS bS hm .none I4 (kp _ _ (nin _ (by simp)) hz) ⟨kp _ _ (nin _ (by simp)) hTI, t1.at fun o q => kp _ _ (nin _ (by simp)) q, t2.at fun o q => kp _ _ (nin _ (by simp)) q, ⟨_, _, kp _ _ (nin _ (by simp)) hTO⟩, kp _ _ (nin _ (by simp)) hz⟩ (fun c hc2 => ?_) (sqL_upd la aS) (sqL_upd lb bS) upd_same fun s4 H4 acc I5 k4 hl4 len4 it4 => ?_
  · have hle : s1.heap.objs.size ≤ c := by
      simp only [List.mem_cons, List.not_mem_nil, or_false] at hc2
      rcases hc2 with q | q | q | q | q <;> rw [q] <;> first | exact Nat.le_add_right _ _ | exact Nat.le_refl _
    exact I1.fpOk hle (by rw [upd_ne (nin c hc2)]; exact nH c hle)
  · have nS : H1 h1.objs.size = none := nH _ (by rw [size1]; exact Nat.le_add_right _ _)
    exact ⟨rfl, .ref h1.objs.size, H4, I5, rfl, q _ acc H4 nS (fun c o e => k4 c o (ne_of_none e nS) (by rw [upd_ne (ne_of_none e nS)]; exact e)) hl4 len4 it4⟩
end
end Pk
/-! ## max(xs, key=f): the first of those with the greatest key -/
namespace Pk
open PySem PySem.Spec PyProof.Rows L2
section
variable {X : Cx} {σ : L2.St} {H : Hp} {A : Around}
/-- a call of the key leaves the heap as it was told, and gives the number kf i -/
def KeyTurn (X : Cx) (pins : List (Addr × Obj)) (σ : L2.St) (H : Hp) (A : Around) (q : Addr) (xs : List V) (kf : Nat → Int) : Prop :=
  ∀ (i : Nat) (x : V) (v : Value), xs[i]? = some x → RelV x v → ∀ (pl : List (Addr × Obj)) (s : Shared), Inv X (pl ++ pins) σ H s →
    wpAny (model X.prog X.w) A (call (.ref q) [v]) (fun u s2 => (∃ t, u = .int (kf i) t) ∧ Inv X (pl ++ pins) σ H s2) (fun _ _ => False) s
/-- the best of the first j + 1 -/
def Best (kf : Nat → Int) (i j : Nat) : Prop := i ≤ j ∧ ∀ k, k ≤ j → kf k ≤ kf i ∧ (k < i → kf k < kf i)
theorem mx_loop (hh : A.handled = none) {l I S q : Addr} {xs : List V} {kf : Nat → Int} {pins : List (Addr × Obj)} (IS : I ≠ S) (lI : l ≠ I) (lS : l ≠ S) (turn : KeyTurn X pins σ H A.in1 q xs kf) (hl : SqL X.K H l xs) {R : Result → Shared → Prop}
    (fin : ∀ i x v s2, xs[i]? = some x → RelV x v → Best kf i (xs.length - 1) → Inv X pins σ H s2 → R (.ok (.ret v)) s2) :
    ∀ (r j i : Nat) (s : Shared) (vb : Value) (xb : V) (tb : Tok) (c : Nat), xs.length - (j + 1) = r → j + 1 ≤ xs.length → Inv X pins σ H s → FpOk X pins H I → FpOk X pins H S → s.heap.get? S = some (seqObj "list" #[vb, .int (kf i) tb] c) → s.heap.IsListIter I l (j + 1) →
      xs[i]? = some xb → RelV xb vb → Best kf i j → codeAny (model X.prog X.w) A (.builtin "max.loop" ⟨[.ref I, .ref q, .ref S], []⟩) R s := by
  have hname : (toString "max" ++ toString ".loop" : String) = "max.loop" := by decide
  intro r
  induction r with
  | zero =>
    intro j i s vb xb tb c hr hj I0 fI fS gS it hxb rb best
    obtain ⟨its, rv, p1, _⟩ := I0.list hl
    have l1 := rv.length
    refine codeAny_builtin PySem.F.entry_max_loop ?_
    rw [Around.under_plainId PySem.F.plain_max_loop _]
    show wpAny _ A.in1 (seqItems? (.ref S) >>= _) _ _ _
    refine wpAny_bind (wpAny_seqItems gS rfl ?_)
    show wpAny _ A.in1 (tryCatch (pyNext (.ref I)) _ >>= _) _ _ _
    refine wpAny_bind (wpAny_tryCatch (wpAny_pyNext_list_end (by simpa using hh) it p1.isList (by simp; omega) fun h2 kp => ?_))
    show wpAny _ A.in1 (updateSeq S (fun _ => #[]) >>= _) _ _ _
    have gS2 := kp S _ (Ne.symm IS) gS
    refine wpAny_bind (wpAny_updateSeq gS2 rfl (wpAny_bind (wpAny_letGo (wpAny_pure ?_))))
    have e : j = xs.length - 1 := by omega
    refine fin i xb vb _ hxb rb (e ▸ best) ?_
    show Inv X pins σ H { s with heap := h2.update S (Obj.mapSeq fun _ => #[]), toks := s.toks }
    refine I0.turnedL (t' := s.toks) (ch := [I, S]) (fun b o hb q => ?_) fun b hb => ?_
    · simp only [List.mem_cons, List.not_mem_nil, or_false, not_or] at hb
      exact (Heap.get?_update_other _ _ (Ne.symm hb.2)).trans (kp b o hb.1 q)
    · rcases List.mem_cons.mp hb with z | z
      · rw [z]; exact fI
      · rw [List.mem_singleton.mp z]; exact fS
  | succ r ih =>
    intro j i s vb xb tb c hr hj I0 fI fS gS it hxb rb best
    obtain ⟨its, rv, p1, _⟩ := I0.list hl
    have l1 := rv.length
    have hlt : j + 1 < xs.length := by omega
    obtain ⟨x, hx⟩ : ∃ x, xs[j + 1]? = some x := ⟨_, List.getElem?_eq_getElem hlt⟩
    obtain ⟨v, hv, rx⟩ := rv.get hx
    refine codeAny_builtin PySem.F.entry_max_loop ?_
    rw [Around.under_plainId PySem.F.plain_max_loop _]
    show wpAny _ A.in1 (seqItems? (.ref S) >>= _) _ _ _
    refine wpAny_bind (wpAny_seqItems gS rfl ?_)
    show wpAny _ A.in1 (tryCatch (pyNext (.ref I)) _ >>= _) _ _ _
    refine wpAny_bind (wpAny_tryCatch (wpAny_pyNext_list_item it p1.isList (x := v) (by simpa using hv) fun h2 it2 sb => ?_))
    have gS2 : h2.get? S = some (seqObj "list" #[vb, .int (kf i) tb] c) := (sb.2 S (Ne.symm IS)).trans gS
    have I1 : Inv X pins σ H { s with heap := h2, toks := s.toks } := I0.turnedL (t' := s.toks) (ch := [I]) (fun b o hb q => (sb.2 b (fun z => hb (by simp [z]))).trans q) fun b hb => by rw [List.mem_singleton.mp hb]; exact fI
    obtain ⟨oI, hoI, hcI, hdI⟩ := id it2
    have IP : Inv X ((I, oI) :: (S, seqObj "list" #[vb, .int (kf i) tb] c) :: pins) σ H { s with heap := h2, toks := s.toks } := I1.pins_of fun p hp => by
      rcases List.mem_cons.mp hp with z | z
      · rw [z]; exact ⟨hoI, fI.1, fI.2.1, fI.2.2.1, fun w9 z9 => by rw [hdI] at z9; cases z9⟩
      · rcases List.mem_cons.mp z with z | z
        · rw [z]; exact ⟨gS2, fS.1, fS.2.1, fS.2.2.1, fun w9 z9 => by cases z9⟩
        · exact I1.pin p (List.mem_append_right _ z)
    show wpAny _ A.in1 (tryCatch (holding [v] (call (.ref q) [v])) _ >>= _) _ _ _
    refine wpAny_bind (wpAny_tryCatch (wpAny_holding (wpAny_mono (turn (j + 1) x v hx rx [_, _] _ IP) (fun u s3 he => ?_) fun _ _ z => z.elim)))
    obtain ⟨⟨t2, rfl⟩, I2⟩ := he
    have gI3 := (I2.pin (I, oI) (List.mem_append_right _ (List.mem_cons_self ..))).1
    have gS3 := (I2.pin (S, seqObj "list" #[vb, .int (kf i) tb] c) (List.mem_append_right _ (List.mem_cons_of_mem _ (List.mem_cons_self ..)))).1
    have I3 : Inv X pins σ H s3 := I2.pins_of fun p hp => I2.pin p (List.mem_append_right _ (List.mem_cons_of_mem _ (List.mem_cons_of_mem _ hp)))
    show wpAny _ A.in1 (tryCatch (holding [v, .int (kf (j + 1)) t2] (richCompare .Gt (.int (kf (j + 1)) t2) (.int (kf i) tb) >>= _)) _ >>= _) _ _ _
    refine wpAny_bind (wpAny_tryCatch (wpAny_holding (wpAny_bind (CmpOf.ints_gt (prog := X.prog) (w := X.w) (A := A.in1) (P := fun i v => ∃ t, v = .int (kf i) t) kf (fun i v h => h) (j + 1) i _ _ _ _ _ ⟨t2, rfl⟩ ⟨tb, rfl⟩ ?_))))
    refine wpAny_bind (wpAny_holding (wpAny_truthy_bool ?_))
    refine wpAny_bind (wpAny_letGo (wpAny_pure ?_))
    by_cases hb : kf (j + 1) > kf i
    · simp only [hb, decide_true, if_true]
      refine wpAny_bind (wpAny_updateSeq gS3 rfl (wpAny_bind (wpAny_letGo ?_)))
      obtain ⟨c2, hc2⟩ : ∃ c2, (s3.heap.update S (Obj.mapSeq fun _ => #[v, .int (kf (j + 1)) t2])).get? S = some (seqObj "list" #[v, .int (kf (j + 1)) t2] c2) := ⟨_, get?_update_seq gS3 fun _ => #[v, .int (kf (j + 1)) t2]⟩
      rw [hname]
      refine wpAny_pure ⟨plainId_quiet PySem.F.plain_max_loop _, ih (j + 1) (j + 1) _ v x t2 c2 (by omega) (by omega) (I3.turnedL (t' := _) (ch := [S]) (fun b o hb9 q9 => (Heap.get?_update_other _ _ (fun z : S = b => hb9 (by simp [z]))).trans q9) fun b hb9 => by rw [List.mem_singleton.mp hb9]; exact fS) fI fS hc2 ⟨oI, (Heap.get?_update_other _ _ (Ne.symm IS)).trans gI3, hcI, hdI⟩ hx rx ⟨Nat.le_refl _, fun k hk => ?_⟩⟩
      by_cases e : k = j + 1
      · subst e
        exact ⟨Int.le_refl _, fun z => absurd z (Nat.lt_irrefl _)⟩
      · have b1 := best.2 k (by omega)
        exact ⟨by omega, fun _ => by omega⟩
    · simp only [hb, decide_false, Bool.false_eq_true, if_false]
      refine wpAny_bind (wpAny_letGo ?_)
      rw [hname]
      refine wpAny_pure ⟨plainId_quiet PySem.F.plain_max_loop _, ih (j + 1) i _ vb xb tb c (by omega) (by omega) (I3.turnedL (t' := _) (ch := []) (fun b o _ q9 => q9) fun b hb9 => by simp at hb9) fI fS gS3 ⟨oI, gI3, hcI, hdI⟩ hxb rb ⟨by have := best.1; omega, fun k hk => ?_⟩⟩
      by_cases e : k = j + 1
      · subst e
        exact ⟨by omega, fun z => by have := best.1; omega⟩
      · exact best.2 k (by omega)
theorem mx_call (hc : X.calm = true) (hh : A.handled = none) {l q : Addr} {xs : List V} {kf : Nat → Int} {pins : List (Addr × Obj)} (turn : KeyTurn X pins σ H A.in1 q xs kf) (hl : SqL X.K H l xs) (hne : 0 < xs.length) {s : Shared} (I0 : Inv X pins σ H s) {Q : Value → Shared → Prop} {E : Value → Shared → Prop}
    (fin : ∀ i x v s2, xs[i]? = some x → RelV x v → Best kf i (xs.length - 1) → Inv X pins σ H s2 → Q v s2) :
    wpAny (model X.prog X.w) A (call (.builtin "max") [.ref l] [(Str.ofString "key", .ref q)]) Q E s := by
  have hname : (toString "max" ++ toString ".loop" : String) = "max.loop" := by decide
  obtain ⟨its, rv, p1, _⟩ := I0.list hl
  have l1 := rv.length
  obtain ⟨ol, hol, _⟩ := id p1.isList
  have hll : l < s.heap.objs.size := Heap.lt_size hol
  refine kmk_tree PySem.F.kind_max PySem.F.plain_max PySem.F.entry_max (kmk_max_key _ _) ?_
  show wpAny _ A.in1 (Builtin.Builtins.bindParams "max" ["key", "default"] 0 ⟨[], [(Str.ofString "key", .ref q)]⟩ >>= _) _ _ s
  refine wpAny_bind (wpAny_of_eq (show Builtin.Builtins.bindParams "max" ["key", "default"] 0 ⟨[], [(Str.ofString "key", .ref q)]⟩ = pure [some (.ref q), none] from rfl) ?_)
  refine wpAny_bind (wpAny_pure ?_)
  refine wpAny_bind (wpAny_pyIter_list p1.isList ?_)
  refine wpAny_bind (wpAny_newList ?_ (Nat.zero_le _))
  rw [hname]
  have hS : (s.heap.push { cls := .type "list_iterator", data := .fields #[.ref l, .int 0 0] }).objs.size = s.heap.objs.size + 1 := size_push' ..
  have lI : l ≠ s.heap.objs.size := Nat.ne_of_lt hll
  have IS : s.heap.objs.size ≠ (s.heap.push { cls := .type "list_iterator", data := .fields #[.ref l, .int 0 0] }).objs.size := by rw [hS]; exact Nat.ne_of_lt (Nat.lt_succ_self _)
  have lS : l ≠ (s.heap.push { cls := .type "list_iterator", data := .fields #[.ref l, .int 0 0] }).objs.size := by rw [hS]; exact Nat.ne_of_lt (Nat.lt_succ_of_lt hll)
  have gI : ((s.heap.push { cls := .type "list_iterator", data := .fields #[.ref l, .int 0 0] }).push (seqObj "list" #[] 0)).get? s.heap.objs.size = some { cls := .type "list_iterator", data := .fields #[.ref l, .int 0 0] } := Heap.get?_push_of_some _ (Heap.get?_push_size _ rfl)
  have gS : ((s.heap.push { cls := .type "list_iterator", data := .fields #[.ref l, .int 0 0] }).push (seqObj "list" #[] 0)).get? (s.heap.push { cls := .type "list_iterator", data := .fields #[.ref l, .int 0 0] }).objs.size = some (seqObj "list" #[] 0) := Heap.get?_push_size _ rfl
  have fI : FpOk X pins H s.heap.objs.size := I0.fpOk (Nat.le_refl _) (I0.hok.fresh (Nat.le_refl _))
  have fS : FpOk X pins H (s.heap.push { cls := .type "list_iterator", data := .fields #[.ref l, .int 0 0] }).objs.size := by
    rw [hS]
    exact I0.fpOk (Nat.le_succ _) (I0.hok.fresh (Nat.le_succ _))
  have I1 : Inv X pins σ H { s with heap := (s.heap.push { cls := .type "list_iterator", data := .fields #[.ref l, .int 0 0] }).push (seqObj "list" #[] 0), toks := s.toks } := I0.kept (t' := s.toks) fun b o e => Heap.get?_push_of_some _ (Heap.get?_push_of_some _ e)
  generalize (s.heap.push { cls := .type "list_iterator", data := .fields #[.ref l, .int 0 0] }).objs.size = S at IS lS gS fS ⊢
  generalize (s.heap.push { cls := .type "list_iterator", data := .fields #[.ref l, .int 0 0] }).push (seqObj "list" #[] 0) = h1 at gI gS I1 ⊢
  generalize s.heap.objs.size = I at lI IS gI fI ⊢
  refine wpAny_pure ⟨plainId_quiet PySem.F.plain_max_loop _, ?_⟩
  obtain ⟨its, rv, p1, _⟩ := I1.list hl
  have l1 := rv.length
  obtain ⟨x, hx⟩ : ∃ x, xs[0]? = some x := ⟨_, List.getElem?_eq_getElem hne⟩
  obtain ⟨v, hv, rx⟩ := rv.get hx
  have it1 : h1.IsListIter I l 0 := ⟨_, gI, rfl, rfl⟩
  refine codeAny_builtin PySem.F.entry_max_loop ?_
  rw [Around.under_plainId PySem.F.plain_max_loop _]
  show wpAny _ A.in1 (seqItems? (.ref _) >>= _) _ _ _
  refine wpAny_bind (wpAny_seqItems gS rfl ?_)
  show wpAny _ A.in1 (tryCatch (pyNext (.ref I)) _ >>= _) _ _ _
  refine wpAny_bind (wpAny_tryCatch (wpAny_pyNext_list_item it1 p1.isList (x := v) (by simpa using hv) fun h2 it2 sb => ?_))
  have gS2 : h2.get? S = some (seqObj "list" #[] 0) := (sb.2 S (Ne.symm IS)).trans gS
  have I2' := I1.turnedL (h' := h2) (t' := s.toks) (ch := [I]) (fun b o hb q => (sb.2 b (fun z => hb (by simp [z]))).trans q) fun b hb => by rw [List.mem_singleton.mp hb]; exact fI
  have I2 : Inv X pins σ H { s with heap := h2, toks := s.toks } := I2'
  obtain ⟨oI, hoI, hcI, hdI⟩ := id it2
  have IP : Inv X ((I, oI) :: (S, seqObj "list" #[] 0) :: pins) σ H { s with heap := h2, toks := s.toks } := I2.pins_of fun p hp => by
    rcases List.mem_cons.mp hp with z | z
    · rw [z]; exact ⟨hoI, fI.1, fI.2.1, fI.2.2.1, fun w9 z9 => by rw [hdI] at z9; cases z9⟩
    · rcases List.mem_cons.mp z with z | z
      · rw [z]; exact ⟨gS2, fS.1, fS.2.1, fS.2.2.1, fun w9 z9 => by cases z9⟩
      · exact I2.pin p (List.mem_append_right _ z)
  show wpAny _ A.in1 (tryCatch (holding [v] (call (.ref q) [v])) _ >>= _) _ _ _
  refine wpAny_bind (wpAny_tryCatch (wpAny_holding (wpAny_mono (turn 0 x v hx rx [_, _] _ IP) (fun u s3 he => ?_) fun _ _ z => z.elim)))
  obtain ⟨⟨t2, rfl⟩, I3⟩ := he
  have gI3 := (I3.pin (I, oI) (List.mem_append_right _ (List.mem_cons_self ..))).1
  have gS3 := (I3.pin (S, seqObj "list" #[] 0) (List.mem_append_right _ (List.mem_cons_of_mem _ (List.mem_cons_self ..)))).1
  have I4 : Inv X pins σ H s3 := I3.pins_of fun p hp => I3.pin p (List.mem_append_right _ (List.mem_cons_of_mem _ (List.mem_cons_of_mem _ hp)))
  show wpAny _ A.in1 (updateSeq S (fun _ => #[v, .int (kf 0) t2]) >>= _) _ _ _
  refine wpAny_bind (wpAny_updateSeq gS3 rfl ?_)
  obtain ⟨c2, hc2⟩ : ∃ c2, (s3.heap.update S (Obj.mapSeq fun _ => #[v, .int (kf 0) t2])).get? S = some (seqObj "list" #[v, .int (kf 0) t2] c2) := ⟨_, get?_update_seq gS3 fun _ => #[v, .int (kf 0) t2]⟩
  rw [hname]
  refine wpAny_pure ⟨plainId_quiet PySem.F.plain_max_loop _, mx_loop hh IS lI lS turn hl (fun i x v s2 e1 e2 e3 e4 => fin i x v s2 e1 e2 e3 e4) _ 0 0 _ v x t2 c2 rfl (by omega) (I4.turnedL (t' := _) (ch := [S]) (fun b o hb9 q9 => (Heap.get?_update_other _ _ (fun z : S = b => hb9 (by simp [z]))).trans q9) fun b hb9 => by rw [List.mem_singleton.mp hb9]; exact fS) fI fS hc2 ⟨oI, (Heap.get?_update_other _ _ (Ne.symm IS)).trans gI3, hcI, hdI⟩ hx rx ⟨Nat.le_refl _, fun k hk => ?_⟩⟩
  have e : k = 0 := by omega
  subst e
  exact ⟨Int.le_refl _, fun z => absurd z (Nat.lt_irrefl _)⟩
end
end Pk
/-! ## a lambda of one parameter, called where it was made -/
namespace Pk
open PySem PySem.Spec PyProof.Rows L2
/-- one parameter p, no other name of its own: captured ones and globals -/
structure LamP (p : Str) (sc scope : Scope) : Prop where
  kind : scope.kind = .function
  co : scope.isCoroutine = false
  gen : scope.isGenerator = false
  par : scope.names.lookup p = some .local
  own : ∀ y ∈ scope.names, y.2 ≠ .cell ∧ (y.2 = .local → y.1 = p)
  free : ∀ y ∈ scope.names, y.2 = .free → sc.names.lookup y.1 = some .cell ∨ sc.names.lookup y.1 = some .free
def lamPB (p : Str) (sc scope : Scope) : Bool :=
  decide (scope.kind = .function) && !scope.isCoroutine && !scope.isGenerator && decide (scope.names.lookup p = some .local) && scope.names.all fun y => (!decide (y.2 = .cell) && (!decide (y.2 = .local) || decide (y.1 = p))) && (!decide (y.2 = .free) || decide (sc.names.lookup y.1 = some .cell) || decide (sc.names.lookup y.1 = some .free))
theorem lamP_by {p : Str} {sc scope : Scope} (h : lamPB p sc scope = true) : LamP p sc scope := by
  unfold lamPB at h
  simp only [Bool.and_eq_true, Bool.or_eq_true, Bool.not_eq_true', decide_eq_true_eq, decide_eq_false_iff_not, List.all_eq_true] at h
  obtain ⟨⟨⟨⟨h1, h2⟩, h3⟩, h0⟩, h4⟩ := h
  refine ⟨h1, h2, h3, h0, fun y hy => ⟨(h4 y hy).1.1, fun e => ?_⟩, fun y hy e => ?_⟩
  · rcases (h4 y hy).1.2 with z | z
    · exact absurd e z
    · exact z
  · rcases (h4 y hy).2 with (z | z) | z
    · exact absurd e z
    · exact .inl z
    · exact .inr z
theorem LamP.has {p : Str} {X : Cx} {scope : Scope} (L : LamP p X.env.scope scope) (ok : X.Ok) : ∀ y ∈ scope.names, y.2 = .free → ∃ c, X.env.cells.lookup y.1 = some c := fun y hy e => by
  rcases L.free y hy e with k | k
  · exact ok.has _ (.inl k)
  · exact ok.has _ (.inr k)
/-- the context of the lambda's body -/
def lamCxP (X : Cx) (A : Around) (p : Str) (s : Shared) (H : Hp) (scope : Scope) (f c' : Addr) : Cx where
  prog := X.prog
  w := X.w
  K := X.K
  mg := X.mg
  base := X.base
  A := A.deeper (LamX.lamEnv X scope s.heap.objs.size f c')
  N := X.N ++ [p]
  s_0 := s
  H_0 := H
  env := LamX.lamEnv X scope s.heap.objs.size f c'
  outer := X.stack
  stack := LamX.lamEnv X scope s.heap.objs.size f c' :: X.stack
  ex := []
  fn := fun _ => false
  calm := true
  pn := []
  xe := fun _ _ => False
section
variable {X : Cx} {pins : List (Addr × Obj)} {σ : L2.St} {H : Hp} {s : Shared}
theorem lamP_start {A : Around} {p : Str} {scope : Scope} {f c' : Addr} {h₁ : Heap} {tk : Nat} {x : V} {v : Value} (I : Inv X pins σ H s) (L : LamP p X.env.scope scope) (hp : p ∉ X.N) (hA : A.frames = some X.stack) (hd : A.handled = none) (rx : RelV x v)
    (hns : h₁.Ns s.heap.objs.size fun y => ([(p, v)] : List (Str × Value)).reverse.lookup y) (kp : ∀ b o, s.heap.get? b = some o → h₁.get? b = some o) :
    Inv (lamCxP X A p s H scope f c') [] (σ ++ [some x]) H { s with heap := h₁, toks := tk } := by
  have e0 := I.env0
  have hfree := L.has I.ok
  have cm : ∀ {y c}, (cloFrom X.env.cells scope.names []).lookup y = some c → X.env.cells.lookup y = some c := fun {y c} e => by
    rcases cloFrom_mem (PySem.mem_of_lookup e) with hm | ⟨h1, h2⟩
    · cases hm
    · obtain ⟨c1, hc⟩ := hfree _ h1 rfl
      have hc : X.env.cells.lookup y = some c1 := hc
      have e2 : c = c1 := by
        rw [h2, hc] <;> rfl
      rw [e2]
      exact hc
  have look : ∀ {y}, scope.names.lookup y = some .free → ∃ c, (cloFrom X.env.cells scope.names []).lookup y = some c := fun {y} hl => by
    have hy : (y, NameKind.free) ∈ scope.names := PySem.mem_of_lookup hl
    exact mem_lookup (cloFrom_has (cells := X.env.cells) (acc := []) hy)
  have cellK : ∀ {c : Addr} {v : Option Value}, s.heap.IsCell c v → h₁.IsCell c v := fun {c v} ⟨o, ho, hd⟩ => ⟨_, kp _ _ ho, hd⟩
  have noA : ∀ b : Addr, b ∉ (lamCxP X A p s H scope f c').ex := fun b z => absurd (show b ∈ ([] : List Addr) from z) (by simp)
  refine ⟨⟨e0.mod, L.kind, rfl, rfl, Nat.le_refl _, fun y z c e1 e2 => I.ok.inj y z c (cm e1) (cm e2), fun y hy => ?_, fun y c z _ => ?_, fun _ => hd, Around.frames_deeper hA, .inr ⟨rfl, rfl⟩, fun b z => absurd z (noA b), e0.bs, e0.bsz, fun b _ _ => noA b,
      fun b z => absurd z (noA b), e0.funs, e0.frf⟩,
    rfl, e0.bare, Un.kept kp, ⟨_, hns, fun i y v' e1 e2 e3 => ?_⟩, fun y c e => ?_, e0.hok.fresh (Nat.le_refl _), fun y c e => ?_, fun q hq => absurd (show q ∈ ([] : List (Addr × Obj)) ++ [] from hq) (by simp), e0.hok.kept kp, ?_⟩
  · have hy : scope.names.lookup y = some .cell ∨ scope.names.lookup y = some .free := hy
    rcases hy with hy | hy
    · exact absurd rfl (L.own _ (PySem.mem_of_lookup hy)).1
    · exact look hy
  · have z : false = true := z
    cases z
  · have e3 : Vis scope y := e3
    have e1 : (X.N ++ [p])[i]? = some y := e1
    by_cases hi : i < X.N.length
    · rw [List.getElem?_append_left hi] at e1
      rw [List.getElem?_append_left (by rw [I.len]; exact hi)] at e2
      rcases e3 with k | k | k
      · have z : y = p := (L.own _ (PySem.mem_of_lookup k)).2 rfl
        exact absurd (z ▸ List.mem_of_getElem? e1) hp
      · exact absurd rfl (L.own _ (PySem.mem_of_lookup k)).1
      · obtain ⟨m, hn, hl⟩ := I.loc
        have hvis : Vis X.env.scope y := (L.free _ (PySem.mem_of_lookup k) rfl).elim (fun k => .inr (.inl k)) (fun k => .inr (.inr k))
        obtain ⟨w', r, q⟩ := hl i y v' e1 e2 hvis
        obtain ⟨c2, h2⟩ := look k
        refine ⟨w', r, .inr ⟨.inr k, c2, h2, ?_⟩⟩
        have c1 := cm h2
        rcases q with ⟨k', _⟩ | ⟨_, c3, e', z⟩
        · have k' : X.env.scope.names.lookup y = some .local := k'
          rcases L.free _ (PySem.mem_of_lookup k) rfl with k2 | k2 <;> rw [show X.env.scope.names.lookup y = _ from k2] at k' <;> cases k'
        · rw [c1] at e'
          cases e'
          exact cellK z
    · have hi0 : i - X.N.length = 0 := by
        rw [List.getElem?_append_right (Nat.not_lt.mp hi)] at e1
        have := (List.getElem?_eq_some_iff.mp e1).1
        simp at this
        omega
      rw [List.getElem?_append_right (Nat.not_lt.mp hi), hi0] at e1
      rw [List.getElem?_append_right (by rw [I.len]; exact Nat.not_lt.mp hi), I.len, hi0] at e2
      have e1 : p = y := Option.some.inj e1
      have e2 : x = v' := Option.some.inj (Option.some.inj e2)
      subst e1
      subst e2
      exact ⟨v, rx, .inl ⟨L.par, by simp⟩⟩
  · obtain ⟨w', z⟩ := I.cell y c (cm e)
    exact ⟨w', cellK z⟩
  · exact I.freeC y c (cm e)
  · show (σ ++ [some x]).length = (X.N ++ [p]).length
    simp [I.len]
/-- the key of max: the lambda's body gives the number, and the heap stays as it was told -/
theorem lamP_turn {p : Str} {scope : Scope} {f c' : Addr} {pm ctv : Value} {params : Arguments} {body : Expr} {k : Nat} {xs : List V} {kf : Nat → Int} (L : LamP p X.env.scope scope) (hp : p ∉ X.N) (hr : Room (k + 2) X.A)
    (hf : (f, PySem.W.kla_obj "<lambda>" (X.env.qual ++ "<lambda>") params body scope (cloFrom X.env.cells scope.names []) pm c' ctv) ∈ pins) (hc : H c' = some (LamX.CodeO c' (X.env.qual ++ "<lambda>")))
    (hbind : ∀ v : Value, bindArgs (PySem.W.kla_fn "<lambda>" (X.env.qual ++ "<lambda>") params body scope (cloFrom X.env.cells scope.names []) pm (.ref c') ctv) ⟨[v], []⟩ = pure [(p, v)])
    (hbody : ∀ (i : Nat) (x : V) (s : Shared), xs[i]? = some x → Room k (X.A.in1.deeper (LamX.lamEnv X scope s.heap.objs.size f c')) → ∃ t, PE (lamCxP X X.A.in1 p s H scope f c') body t ∧ t (σ ++ [some x]) H fun v H' => v = .int (kf i) ∧ H' = H) :
    KeyTurn X pins σ H X.A.in1 f xs kf := by
  intro i x v hx rx pl s I
  have hr1 := hr.in1
  have of1 := (I.pin _ (List.mem_append_right _ (List.mem_append_right _ hf))).1
  obtain ⟨⟨oc, vs, t, hoc, hdc, hvc⟩, _, _⟩ := I.hok c' _ hc
  have hfr : X.A.in1.frames = some X.stack := I.env0.frames
  obtain ⟨tb, hpe, htb⟩ := hbody i x s hx (hr1.deeper _)
  refine wpAny_call (codeAny_mono (R := CR C8.CX0 X.stack X.prog X.w H s (fun v H' => v = .int (kf i) ∧ H' = H) C8.E0) ?_ fun r s' hq => ?_)
  · refine PySem.W.kla_callFunE hr1.depth of1 rfl L.co L.gen rfl ⟨c', oc, vs, t, rfl, hoc, hdc, hvc⟩ ?_
    rw [hbind]
    refine wpAny_pure (wpAny_newFunctionEnv (fun y hy => (L.own y hy).1) (fun y hy => by rw [List.mem_singleton.mp hy]; exact L.par) (fun h₁ hns hsb => ⟨I.nolimit.fresh _ hsb, ?_⟩) L.kind)
    show codeAny _ _ (.expr body (LamX.lamEnv X scope s.heap.objs.size f c')) _ _
    have kp : ∀ b o, s.heap.get? b = some o → h₁.get? b = some o := fun b o e => hsb.extBut b o (Nat.ne_of_lt (Heap.lt_size e)) (Heap.get?_push_of_some _ e)
    have J := lamP_start (A := X.A.in1) (f := f) (c' := c') (tk := s.toks + ([(p, v)] : List (Str × Value)).length) I L hp hfr hr1.hd rx hns kp
    refine PySem.W.kla_codeExpr (wpAny_mono (hpe.run [] _ _ H _ J htb) (fun v s' hq => ?_) fun e s' hq => (show False from hq).elim)
    obtain ⟨w', H', J', rv, q⟩ := hq
    exact ⟨w', H', J'.os, J'.bare, J'.base, J'.hok, rv, q⟩
  · cases r with
    | error e => exact (show False from hq).elim
    | ok fl =>
      cases fl with
      | ret u =>
        obtain ⟨w', H', I', rv, q1, q2⟩ := I.after hq
        subst q1
        subst q2
        exact ⟨rv, I'⟩
      | next => exact False.elim hq
      | brk => exact False.elim hq
      | cont => exact False.elim hq
/-- max(e, key=lambda p: body): the first of those with the greatest key; the code's table may grow -/
def tMaxLam (T : List (Addr × Str)) (te tb : TE) : TE := fun σ H Q => te σ H fun v H1 => ∃ (l : Addr) (xs : List V) (kf : Nat → Int), v = .ref l ∧ H1 l = some (.lst xs) ∧ 0 < xs.length ∧ LamX.Tabs T H1 ∧
  ∀ H2, LamX.ExtN H1 H2 → LamX.Tabs T H2 → (∀ i x, xs[i]? = some x → tb (σ ++ [some x]) H2 fun v H' => v = .int (kf i) ∧ H' = H2) ∧ ∀ i x, xs[i]? = some x → Best kf i (xs.length - 1) → Q x H2
theorem pe_maxLam {T : List (Addr × Str)} {c P : Addr} {k : Nat} {x pn : Str} {params : Arguments} {body e : Expr} {scope : Scope} {lpos p pos kp : Pos} {te tb : TE} (hc : X.calm = true) (hg : Gl X x) (hm : X.mg x = none) (hv : bootBuiltins x = some (.builtin "max")) (he : PE X e te)
    (TB : LamX.TabB X.base X.mg c P) (hcode : X.env.code = .ref c) (hmT : (P, X.env.qual ++ "<lambda>") ∈ T) (hu : ∀ p ∈ T, p.1 = P → p.2 = X.env.qual ++ "<lambda>") (hr : Room (k + 2) X.A) (L : LamP pn X.env.scope scope) (hp : pn ∉ X.N) (hdef : defaultsOf params X.env = ([], []))
    (hbind : ∀ (q : Str) (cl : List (Str × Addr)) (pm cv ctv v : Value), bindArgs (PySem.W.kla_fn "<lambda>" q params body scope cl pm cv ctv) ⟨[v], []⟩ = pure [(pn, v)])
    (hbody : ∀ (s : Shared) (H : Hp) (f c' : Addr), Room k (X.A.in1.deeper (LamX.lamEnv X scope s.heap.objs.size f c')) → PE (lamCxP X X.A.in1 pn s H scope f c') body tb)
    (hn : x ≠ "__name__" := by decide) (hdb : (x == ("__debug__" : Str)) = false := by decide)
    (hst : backTo pos (starEach [e] X.env) = (false, eval e X.env) :: backTo pos (starEach [] X.env) := by rfl) (hpl : (backTo pos (starEach [e] X.env)).any (·.1) = false := by rfl) :
    PE X (.Call (.Name x p) [e] [⟨some (Str.ofString "key"), .Lambda params body scope lpos, kp⟩] pos) (tMaxLam T te tb) := by
  refine ⟨fun pins s σ H Q I h => ?_⟩
  refine wpAny_Call_Name_kw (ld_blt I hg hm hv ?_ hn hdb)
  refine PyProof.Rows.callWith_kw ?_ hst hpl (by rfl) (by rfl)
  rw [hst]
  refine Calls.spliced_cons (thn (he.run pins s σ H _ I h) fun u s1 ⟨w, H1, I1, r1, q1⟩ => Calls.spliced_nil ?_)
  obtain ⟨l, xs, kf, ew, hl, hne, hT, q⟩ := q1
  subst ew
  obtain rfl : u = Value.ref l := r1
  refine PyProof.Rows.kws_cons (LamX.lam_make2 I1 TB hcode hmT hu hT hdef (L.has I1.ok) fun f c' pm' ctv H2 s2 I2 eN T2 hf hfn hfr hco => PyProof.Rows.kws_nil ?_)
  show wpAny (model X.prog X.w) X.A (call (.builtin "max") [.ref l] [(Str.ofString "key", .ref f)]) _ _ s2
  obtain ⟨qb, qf⟩ := q H2 eN T2
  have hl2 : H2 l = some (.lst xs) := eN l _ hl (fun ps z => by cases z)
  have IP : Inv X ((f, PySem.W.kla_obj "<lambda>" (X.env.qual ++ "<lambda>") params body scope (cloFrom X.env.cells scope.names []) pm' c' ctv) :: pins) σ H2 s2 := I2.pins_of fun r hr => by
    rcases List.mem_cons.mp hr with z | z
    · rw [z]
      refine ⟨hf, hfn, fun z2 => ?_, fun z2 => hfr ?_, fun w9 z9 => by cases z9⟩
      · have z2 : f = X.env.locals := z2
        obtain ⟨m, ⟨ob, es, ep, ho, r⟩, _⟩ := I2.loc
        rw [← z2, hf] at ho
        cases ho
        exact absurd r.1 (fun z3 => by cases z3)
      · have z2 : f ∈ X.fs := z2
        rcases I2.ok.stk with e | ⟨e, hf2⟩
        · rw [e]; exact z2
        · rw [e]
          unfold frs at z2 ⊢
          rw [List.filterMap_cons]
          split
          · exact z2
          · exact List.mem_cons_of_mem _ z2
    · exact I2.pin r (List.mem_append_right _ z)
  have turn := lamP_turn (X := X) (σ := σ) (H := H2) (xs := xs) (kf := kf) (params := params) (body := body) L hp hr (List.mem_cons_self ..) hco (fun v => hbind _ _ _ _ _ v) (fun i x s hx hr2 => ⟨tb, hbody s H2 f c' hr2, qb i x hx⟩) (pins := (f, PySem.W.kla_obj "<lambda>" (X.env.qual ++ "<lambda>") params body scope (cloFrom X.env.cells scope.names []) pm' c' ctv) :: pins)
  exact mx_call hc (I2.ok.hd hc) turn (.inl (.of hl2)) hne IP fun i x v s3 hx rx best I3 => ⟨x, H2, I3.pins_of fun r hr => I3.pin r (List.mem_append_right _ (List.mem_cons_of_mem _ hr)), rx, qf i x hx best⟩
end
/-! ### a def that makes lambdas: its code object is known -/
section
variable {P : Program} {w : World} {K : PySem.W.Frag} {mg : Str → Option Value} {base : Heap} {f : Addr} {k : Nat} {sp : Sp}
/-- the def at f, its code object at c -/
def DfC (K : PySem.W.Frag) (x qual : Str) (st : Stmt) (kws : List (Str × V)) (f c : Addr) : Prop := ∃ fd : FuncData, FunD K x qual (defArgs st) (defBody st) (defScope st) [] kws f fd ∧ fd.code = .ref c
theorem kp_ofC {x qual : Str} {st : Stmt} {kws : List (Str × V)} {N ps : List Str} {c : Addr} (D : DfC K x qual st kws f c) (S : FnScope N ps (defScope st))
    (hb : ∀ (kV doc pm : Value) (an : Option Addr) (cdv ct : Value) (us : List Value), us.length = ps.length → bindArgs (PySem.W.fnOf x qual (defArgs st) (defBody st) (defScope st) .none kV doc pm an cdv ct) ⟨us, []⟩ = pure (ps.zip us))
    (len : ∀ vs H Q E, sp vs H Q E → vs.length = ps.length)
    (hbody : ∀ (A : Around) (outer : List Env) (s : Shared) (H : Hp) (vs : List V) (Q : VK) (E : XK), Room k (A.deeper (envOfC qual (defScope st) s.heap.objs.size f (.ref c))) → sp vs H Q E →
      ∃ t, PSs (cxOf CX0 P w K mg base N qual (defScope st) f (.ref c) A outer s H E).nox (defBody st) t ∧ t { nx := fun _ H' => Q .non H', rt := Q } (start N vs) H) : Kp P w K mg base (k + 1) f sp := by
  obtain ⟨fd, F, hcode⟩ := D
  refine ⟨fd, ps, ?_, F.bindsN hb, F.kp⟩
  obtain ⟨oc, od, dV, kV, doc, pm, an, cdv, ct, osl, rfl, lk, hcd, _, _⟩ := F.ex
  have e : cdv = .ref c := hcode
  subst e
  refine fn_of lk hcd S len fun A outer s H vs Q E hr hsp => ?_
  obtain ⟨t, h1, h2⟩ := hbody A outer s H vs Q E hr hsp
  exact ⟨t, h1.nox, h2⟩
end
end Pk
/-! ## defs that make lambdas, with all tables of a row told at once (Z) -/
namespace Pk
open PySem PySem.Spec PyProof.Rows L2
/-- the code object at c has its table among Z, of the name q -/
def LamD (base : Heap) (mg : Str → Option Value) (Z : List (Addr × Str)) (c : Addr) (q : Str) : Prop := ∃ Pt : Addr, LamX.TabB base mg c Pt ∧ (Pt, q) ∈ Z ∧ ∀ p ∈ Z, p.1 = Pt → p.2 = q
def DfL (K : PySem.W.Frag) (base : Heap) (mg : Str → Option Value) (Z : List (Addr × Str)) (x qual : Str) (st : Stmt) (f : Addr) (q : Str) : Prop := ∃ c : Addr, DfC K x qual st [] f c ∧ LamD base mg Z c q
theorem TbAt.nil {Z : List (Addr × Str)} {H : Hp} (h : ∀ p ∈ Z, H p.1 = some (.tbl #[])) : TbAt Z H := fun p hp => LamX.TabS.nil (h p hp)
section
variable {P : Program} {w : World} {K : PySem.W.Frag} {mg : Str → Option Value} {base : Heap} {f : Addr} {k : Nat}
theorem fnC_of {x : Str} {st : Stmt} {fd : FuncData} {N ps : List Str} {sp : Sp} {c : Addr} (D : FunD K x x (defArgs st) (defBody st) (defScope st) [] [] f fd) (hc : fd.code = .ref c) (S : FnScope N ps (defScope st))
    (len : ∀ vs H Q E, sp vs H Q E → vs.length = ps.length)
    (hbody : ∀ (A : Around) (outer : List Env) (s : Shared) (H : Hp) (vs : List V) (Q : VK) (E : XK), Room k (A.deeper (envOfC x (defScope st) s.heap.objs.size f (.ref c))) → sp vs H Q E →
      ∃ t, PSs (cxOf CX0 P w K mg base N x (defScope st) f (.ref c) A outer s H E).nox (defBody st) t ∧ t { nx := fun _ H' => Q .non H', rt := Q } (start N vs) H) : FnOk P w K mg base CX0 (k + 1) f fd ps sp := by
  obtain ⟨oc, od, dV, kV, doc, pm, an, cdv, ct, osl, rfl, lk, hcd, _, _⟩ := D.ex
  have e : cdv = .ref c := hc
  subst e
  refine fn_of lk hcd S len fun A outer s H vs Q E hr hsp => ?_
  obtain ⟨t, h1, h2⟩ := hbody A outer s H vs Q E hr hsp
  exact ⟨t, h1.nox, h2⟩
end
end Pk
/-! ## a law's end over a head by facts, with empty tables of code objects (cs: the code objects and their tables) -/
namespace Pk
open PySem PySem.Spec PyProof.Rows L2 LamX
theorem walk_ofET {l : PySem.W.OpenLaw} {n k : Nat} {q : Program} {loose : List Str} {XP : (Str → Option Value) → Heap → Prop} {YP : World → Heap → Prop} {d : DefRec} {CX : CXT} {x : Str}
    (hn : l.most = some n) (hn2 : n ≤ sizeLine) (hdf : d.params.defaults = []) (hr : Room k callerA)
    (F : ∀ (w : World) (mg : Str → Option Value) (fa : Addr) (h : Heap), YP w h → h.Ns mainGlobals mg → mg d.name = some (.ref fa) →
      ∃ (K : PySem.W.Frag) (fd : FuncData) (cs : List (Addr × Addr)) (sp : Sp), K.In h ∧ (∀ p ∈ cs, h.get? p.2 = some { cls := .none, data := .fields #[] }) ∧ (∀ p ∈ cs, K.lookup p.2 = none) ∧ (∀ p ∈ cs, PySem.W.CodeHd h p.1 p.2) ∧ (∀ (s : Shared) (u : Value), BindsTo s fd ⟨[u], []⟩ [(x, u)]) ∧
        (∀ (H : Hp) (a : Addr) (ns : List Int), ns.length ≤ n → (∀ p ∈ cs, H p.2 = some (.tbl #[])) → SqL K H a (ns.map V.int) → sp [.ref a] H (fun v _ => v = .bl true) fun _ _ _ => False) ∧
        ∀ base : Heap, K.In base → base.Ns mainGlobals mg → (∀ p ∈ cs, TabB base mg p.1 p.2) → FnOk l.prog w K mg base CX k fa fd [x] sp)
    (hCX : ∀ (H : Hp) (s : Shared) (e : Value) (s' : Shared), CX [] H s (fun _ _ _ => False) e s' → False) :
    PySem.W.WalkO q loose XP YP l.row.toRowW d [] (fun f vs => PySem.call f vs) := by
  refine Att.attach_callB hn hdf fun w s₀ s₁ mg mb fa o pm cd doc a vs ns G Y ho hd hcd hmg hobj hints hlen hbits hg => ?_
  obtain ⟨K, fd, cs, sp, KX, hT, nT, C, hb, hsp, hF⟩ := F w mg fa _ Y G.T.g hmg
  exact law_callTs KX G.T.g G.T.b G.T.builtins G.T.nolimit hg hT nT C G.T.bmain hobj hints (Nat.le_trans hlen hn2) hr hF hb (fun H hH hS => hsp H a ns hlen hH hS) fun H e s' => hCX H s₁ e s'
def refB (P : Addr) : Value → Bool | .ref p => decide (p = P) | _ => false
def strB : Value → Bool | .str _ _ => true | _ => false
def intB : Value → Bool | .int _ _ => true | _ => false
def boolB : Value → Bool | .bool _ => true | _ => false
theorem refB_of {P : Addr} {v : Value} (h : refB P v = true) : v = .ref P := by
  cases v <;> first | (cases h; done) | exact congrArg Value.ref (of_decide_eq_true h)
theorem strB_of {v : Value} (h : strB v = true) : ∃ x t, v = .str x t := by
  cases v <;> first | (cases h; done) | exact ⟨_, _, rfl⟩
theorem intB_of {v : Value} (h : intB v = true) : ∃ x t, v = .int x t := by
  cases v <;> first | (cases h; done) | exact ⟨_, _, rfl⟩
theorem boolB_of {v : Value} (h : boolB v = true) : ∃ x, v = .bool x := by
  cases v <;> first | (cases h; done) | exact ⟨_, rfl⟩
/-- the code object at c, its table at P, as far as the written part tells -/
def codeHdB (K : PySem.W.Frag) (c P : Addr) : Bool := match K.lookup c with
  | some ⟨.type "code", _, .fields vs, _⟩ => (match vs[11]? with | some v => refB P v | none => false) && strB (vs.getD 18 .none) && intB (vs.getD 7 .none) && boolB (vs.getD 9 .none) && intB (vs.getD 10 .none) && decide (c ≠ P)
  | _ => false
theorem codeHd_of {K : PySem.W.Frag} {h : Heap} {c P : Addr} (KX : K.In h) (e : codeHdB K c P = true) : PySem.W.CodeHd h c P := by
  unfold codeHdB at e
  split at e
  · rename_i dict vs sl lk
    simp only [Bool.and_eq_true, decide_eq_true_eq] at e
    obtain ⟨⟨⟨⟨⟨e1, e3⟩, e4⟩, e5⟩, e6⟩, e7⟩ := e
    have h1 : vs[11]? = some (.ref P) := by
      cases q : vs[11]? with
      | none => rw [q] at e1; cases e1
      | some v => rw [q] at e1; exact congrArg some (refB_of e1)
    have h2 : vs.getD 11 .none = .ref P := by
      rw [Array.getD_eq_getD_getElem?, h1]
      rfl
    obtain ⟨f, tf, h3⟩ := strB_of e3
    obtain ⟨fl, tg, h4⟩ := intB_of e4
    obtain ⟨b, h5⟩ := boolB_of e5
    obtain ⟨tx, tt, h6⟩ := intB_of e6
    exact ⟨_, _, _, _, _, _, _, _, _, KX _ _ lk, rfl, rfl, h1, h2, h3, h4, h5, h6, e7⟩
  · cases e
def codeB (K : PySem.W.Frag) (f c : Addr) : Bool := match K.lookup f with
  | some ⟨_, _, .func fd, _⟩ => refB c fd.code
  | _ => false
theorem dfC_of {K : PySem.W.Frag} {x qual : Str} {st : Stmt} {kws : List (Str × V)} {f c : Addr} (D : ∃ fd, FunD K x qual (defArgs st) (defBody st) (defScope st) [] kws f fd) (e : codeB K f c = true) : DfC K x qual st kws f c := by
  obtain ⟨fd, F⟩ := D
  refine ⟨fd, F, ?_⟩
  obtain ⟨oc, od, dV, kV, doc, pm, an, cdv, ct, osl, h1, lk, _⟩ := F.ex
  unfold codeB at e
  rw [lk] at e
  exact refB_of e
/-- the written part without some places -/
def dropT (K : PySem.W.Frag) (Ps : List Addr) : PySem.W.Frag := K.filter fun e => !decide (e.1 ∈ Ps)
theorem dropT_lookup {K : PySem.W.Frag} {Ps : List Addr} {a : Addr} {o : Obj} (h : (dropT K Ps).lookup a = some o) : K.lookup a = some o ∧ a ∉ Ps := by
  unfold dropT at h
  induction K with
  | nil => cases h
  | cons e K ih =>
    obtain ⟨b, o2⟩ := e
    rw [List.filter_cons] at h
    by_cases hb : b ∈ Ps
    · rw [if_neg (by simp [hb])] at h
      obtain ⟨h1, h2⟩ := ih h
      refine ⟨?_, h2⟩
      have z : (a == b) = false := beq_eq_false_iff_ne.mpr fun z => h2 (z ▸ hb)
      rw [List.lookup_cons, z]
      exact h1
    · rw [if_pos (by simp [hb]), List.lookup_cons] at h
      rw [List.lookup_cons]
      by_cases z : a = b
      · subst z
        rw [beq_self_eq_true] at h ⊢
        exact ⟨h, hb⟩
      · have z2 : (a == b) = false := by simp [z]
        rw [z2] at h ⊢
        exact ih h
theorem dropT_in {K : PySem.W.Frag} {Ps : List Addr} {h : Heap} (KX : K.In h) : (dropT K Ps).In h := fun a o e => KX a o (dropT_lookup e).1
theorem dropT_none {K : PySem.W.Frag} {Ps : List Addr} {P : Addr} (h : P ∈ Ps) : (dropT K Ps).lookup P = none := by
  cases e : (dropT K Ps).lookup P with
  | none => rfl
  | some o => exact absurd h (dropT_lookup e).2
end Pk
namespace Pk
open PySem PySem.W PySem.Calls PyProof.Rows He He5
/-! ### a hook for rows with defs that make lambdas (ls: their places): their code objects and tables, the facts without the tables -/
def cAt (K : Frag) (f : Addr) : Addr := match K.lookup f with
  | some ⟨_, _, .func fd, _⟩ => (match fd.code with | .ref c => c | _ => 0)
  | _ => 0
def tAt (K : Frag) (c : Addr) : Addr := match K.lookup c with
  | some ⟨_, _, .fields vs, _⟩ => (match vs.getD 11 .none with | .ref p => p | _ => 0)
  | _ => 0
def emptyB (K : Frag) (P : Addr) : Bool := match K.lookup P with
  | some ⟨.none, none, .fields vs, sl⟩ => decide (vs.size = 0) && decide (sl.size = 0)
  | _ => false
theorem emptyB_of {K : Frag} {P : Addr} (h : emptyB K P = true) : K.lookup P = some { cls := .none, data := .fields #[] } := by
  unfold emptyB at h
  split at h
  · rename_i vs sl lk
    simp only [Bool.and_eq_true, decide_eq_true_eq] at h
    have e1 : vs = #[] := Array.eq_empty_of_size_eq_zero h.1
    have e2 : sl = #[] := Array.eq_empty_of_size_eq_zero h.2
    rw [lk, e1, e2]
  · cases h
def csOf (ls : List (Frag → Addr)) (K : Frag) : List (Addr × Addr) := ls.map fun l => (cAt K (l K), tAt K (cAt K (l K)))
def noT (ls : List (Frag → Addr)) (K : Frag) : Frag := dropT K ((csOf ls K).map (·.2))
def chkR (ls : List (Frag → Addr)) (K : Frag) : Bool := (((csOf ls K).all fun p => codeHdB K p.1 p.2 && emptyB K p.2) && decide ((csOf ls K).map (·.2)).Nodup) && ((ls.zip (csOf ls K)).all fun p => codeB (noT ls K) (p.1 (noT ls K)) p.2.1)
abbrev AlR : Type := AlM × Bool
def obsR (fa : List Fa) (fn : List DefA) (ex : Frag → Bool) (ls : List (Frag → Addr)) (K : Frag) : AlR := (obsM fa fn ex (noT ls K), chkR ls K)
def valR (fn : List DefA) : AlR := (valM fn, true)
structure SaysR (fa : List Fa) (fn : List DefA) (ex : Frag → Bool) (ls : List (Frag → Addr)) (h : Heap) (K : Frag) (cs : List (Addr × Addr)) : Prop where
  m : SaysM fa fn ex K
  inn : K.In h
  tab : ∀ p ∈ cs, h.get? p.2 = some { cls := .none, data := .fields #[] }
  non : ∀ p ∈ cs, K.lookup p.2 = none
  code : ∀ p ∈ cs, CodeHd h p.1 p.2
  nd : (cs.map (·.2)).Nodup
  at_ : ∀ (i : Nat) (l : Frag → Addr), ls[i]? = some l → ∃ p, cs[i]? = some p ∧ codeB K (l K) p.1 = true
theorem saysR_of {fa : List Fa} {fn : List DefA} {ex : Frag → Bool} {ls : List (Frag → Addr)} {h : Heap} {K : Frag} (KX : K.In h) (e : obsR fa fn ex ls K = valR fn) : SaysR fa fn ex ls h (noT ls K) (csOf ls K) := by
  have h1 : obsM fa fn ex (noT ls K) = valM fn := congrArg Prod.fst e
  have h2 : chkR ls K = true := congrArg Prod.snd e
  unfold chkR at h2
  simp only [Bool.and_eq_true, List.all_eq_true, decide_eq_true_eq] at h2
  obtain ⟨⟨h3, h5⟩, h4⟩ := h2
  refine ⟨saysM_of h1, dropT_in KX, fun p hp => KX _ _ (emptyB_of (h3 p hp).2), fun p hp => dropT_none (List.mem_map_of_mem hp), fun p hp => codeHd_of KX (h3 p hp).1, h5, fun i l hl => ?_⟩
  have e1 : (csOf ls K)[i]? = some (cAt K (l K), tAt K (cAt K (l K))) := by
    unfold csOf
    rw [List.getElem?_map, hl]
    rfl
  refine ⟨_, e1, ?_⟩
  exact h4 (l, _) (List.mem_of_getElem? (i := i) (by rw [List.getElem?_zip_eq_some]; exact ⟨hl, e1⟩))
def obsRG (n : Nat) (fa : List Fa) (fn : List DefA) (ex : Frag → Bool) (ls : List (Frag → Addr)) (g : Addr → Option Obj) : AlR := obsR fa fn ex ls (frG g (asA g n))
def hookR (n : Nat) (fa : List Fa) (fn : List DefA) (ex : Frag → Bool) (ls : List (Frag → Addr)) : PySem.W.Hook where
  α := AlR
  obs := fun s => obsRG n fa fn ex ls s.heap.get?
  val := fun _ => valR fn
  says := fun _ h => ∃ (K : Frag) (cs : List (Addr × Addr)), SaysR fa fn ex ls h K cs
  of := fun _ _ e => ⟨_, _, saysR_of frG_in e⟩
  keeps := fun _ _ _ ⟨K, cs, c⟩ k => ⟨K, cs, c.m, Frag.In.keeps c.inn k, fun p hp => k _ _ (c.tab p hp), c.non, fun p hp => (c.code p hp).keeps k, c.nd, c.at_⟩
theorem obsRG_eq {n : Nat} {fa : List Fa} {fn : List DefA} {ex : Frag → Bool} {ls : List (Frag → Addr)} {g : Addr → Option Obj} {s : Shared} (h : ∀ a, g a = s.heap.get? a) : obsRG n fa fn ex ls g = (hookR n fa fn ex ls).obs s := by
  have e : g = s.heap.get? := funext h
  rw [e] <;> rfl
/-- the tables with the names that their code objects bear -/
def zOf (cs : List (Addr × Addr)) (qs : List Str) : List (Addr × Str) := (cs.map (·.2)).zip qs
theorem zOf_fst {cs : List (Addr × Addr)} {qs : List Str} {z : Addr × Str} (h : z ∈ zOf cs qs) : ∃ p ∈ cs, p.2 = z.1 := by
  obtain ⟨p, hp, e⟩ := List.mem_map.mp (List.of_mem_zip h).1
  exact ⟨p, hp, e⟩
theorem lamD_at {base : Heap} {mg : Str → Option Value} {cs : List (Addr × Addr)} {qs : List Str} {i : Nat} {p : Addr × Addr} {q : Str} (nd : (cs.map (·.2)).Nodup) (hp : cs[i]? = some p) (hq : qs[i]? = some q) (t : LamX.TabB base mg p.1 p.2) : LamD base mg (zOf cs qs) p.1 q := by
  have h1 : (cs.map (·.2))[i]? = some p.2 := by
    rw [List.getElem?_map, hp]
    rfl
  refine ⟨p.2, t, List.mem_of_getElem? (i := i) (by unfold zOf; rw [List.getElem?_zip_eq_some]; exact ⟨h1, hq⟩), fun z hz e => ?_⟩
  obtain ⟨j, hj⟩ := List.mem_iff_getElem?.mp hz
  unfold zOf at hj
  rw [List.getElem?_zip_eq_some] at hj
  obtain ⟨j1, j2⟩ := hj
  have hi := List.getElem?_eq_some_iff.mp h1
  have hj := List.getElem?_eq_some_iff.mp j1
  have key := List.pairwise_iff_getElem.mp nd
  have eij : i = j := by
    rcases Nat.lt_trichotomy i j with y | y | y
    · exact absurd (hi.2.trans (e.symm.trans hj.2.symm)) (key i j hi.1 hj.1 y)
    · exact y
    · exact absurd (hj.2.trans (e.trans hi.2.symm)) (key j i hj.1 hi.1 y)
  subst eij
  rw [hq] at j2
  exact (Option.some.inj j2).symm
end Pk
namespace Pk
open PySem PySem.Spec PyProof.Rows L2
theorem dfL_at {K : PySem.W.Frag} {base : Heap} {mg : Str → Option Value} {Z : List (Addr × Str)} {x qual : Str} {st : Stmt} {f c : Addr} {q : Str} (D : ∃ fd, FunD K x qual (defArgs st) (defBody st) (defScope st) [] [] f fd) (e : codeB K f c = true) (L : LamD base mg Z c q) : DfL K base mg Z x qual st f q := ⟨c, dfC_of D e, L⟩
theorem codeOf {K : PySem.W.Frag} {x qual : Str} {st : Stmt} {f c : Addr} {fd : FuncData} (F : FunD K x qual (defArgs st) (defBody st) (defScope st) [] [] f fd) (e : codeB K f c = true) : fd.code = .ref c := by
  obtain ⟨oc, od, dV, kV, doc, pm, an, cdv, ct, osl, h1, lk, _⟩ := F.ex
  subst h1
  unfold codeB at e
  rw [lk] at e
  exact refB_of e
end Pk
namespace Pk
open PySem PySem.W PySem.Calls PyProof.Rows He He5
/-! ### a hook that tells of written dicts besides -/
abbrev TabQ : Type := (Frag → Addr) × List PySem.Str
abbrev AlQ : Type := AlM × List (Option (List (Option (PySem.Str × Int))))
def obsQ (fa : List Fa) (fn : List DefA) (ex : Frag → Bool) (ts : List TabQ) (K : Frag) : AlQ := (obsM fa fn ex K, ts.map fun t => dicW K (t.1 K))
def valQ (fn : List DefA) (ts : List TabQ) (w : World) : AlQ := (valM fn, ts.map fun t => some (keysIn w.params t.2))
structure SaysQ (fa : List Fa) (fn : List DefA) (ex : Frag → Bool) (ts : List TabQ) (w : World) (K : Frag) : Prop where
  m : SaysM fa fn ex K
  tab : ∀ (i : Nat) (t : TabQ), ts[i]? = some t → ∃ es n, L2.KDict K w (t.1 K) es n
theorem saysQ_of {fa : List Fa} {fn : List DefA} {ex : Frag → Bool} {ts : List TabQ} {w : World} {K : Frag} (h : obsQ fa fn ex ts K = valQ fn ts w) : SaysQ fa fn ex ts w K := by
  refine ⟨saysM_of (congrArg Prod.fst h), fun i t ht => ?_⟩
  have e1 : (ts.map fun t => dicW K (t.1 K)) = ts.map fun t => some (keysIn w.params t.2) := congrArg Prod.snd h
  have e2 := congrArg (fun l => l[i]?) e1
  simp only [List.getElem?_map, ht, Option.map_some, Option.some.injEq] at e2
  exact dicW_ok e2
def obsQG (n : Nat) (fa : List Fa) (fn : List DefA) (ex : Frag → Bool) (ts : List TabQ) (g : Addr → Option Obj) : AlQ := obsQ fa fn ex ts (frG g (asA g n))
def hookQ (n : Nat) (fa : List Fa) (fn : List DefA) (ex : Frag → Bool) (ts : List TabQ) : PySem.W.Hook where
  α := AlQ
  obs := fun s => obsQG n fa fn ex ts s.heap.get?
  val := fun w => valQ fn ts w
  says := fun w h => ∃ K : Frag, K.In h ∧ SaysQ fa fn ex ts w K
  of := fun _ _ e => ⟨_, frG_in, saysQ_of e⟩
  keeps := fun _ _ _ ⟨K, hK, c⟩ k => ⟨K, Frag.In.keeps hK k, c⟩
theorem obsQG_eq {n : Nat} {fa : List Fa} {fn : List DefA} {ex : Frag → Bool} {ts : List TabQ} {g : Addr → Option Obj} {s : Shared} (h : ∀ a, g a = s.heap.get? a) : obsQG n fa fn ex ts g = (hookQ n fa fn ex ts).obs s := by
  have e : g = s.heap.get? := funext h
  rw [e] <;> rfl
/-- the number at a key of a written dict -/
def nsIntB (K : Frag) (a : Addr) (x : PySem.Str) (i : Int) : Bool := match nsIn K a x with
  | some (some (.int j _)) => decide (j = i)
  | _ => false
theorem nsInt_ok {K : Frag} {a : Addr} {x : PySem.Str} {i : Int} (h : nsIntB K a x i = true) : ∃ u, nsIn K a x = some (some u) ∧ L2.RelV (.int i) u := by
  unfold nsIntB at h
  cases e : nsIn K a x with
  | none => rw [e] at h; cases h
  | some r =>
    rw [e] at h
    cases r with
    | none => cases h
    | some u =>
      cases u with
      | int j t =>
        have ej : j = i := of_decide_eq_true h
        subst ej
        exact ⟨_, rfl, t, rfl⟩
      | _ => cases h
/-- a method that can be taken as a value -/
def bmB (K : Frag) (C : Addr) (m : PySem.Str) : Bool := eqO (specialIn K (.ref (ma K C m)) "__get__") (some (some (.builtin "function.__get__"))) && (decide (takesIn K (.ref (ma K C m)) = some false) && (decide (copiedNames.contains m = false) && fnIn K (ma K C m)))
theorem bm_ok {K : Frag} {C : Addr} {m : PySem.Str} (h0 : L2.Meth K C m (ma K C m)) (h : bmB K C m = true) : L2.BMeth K C m (ma K C m) := by
  obtain ⟨h1, h⟩ := ba h
  obtain ⟨h2, h⟩ := ba h
  obtain ⟨h3, h4⟩ := ba h
  exact ⟨h0, eqO_ok h1, of_decide_eq_true h2, of_decide_eq_true h3, h4⟩
end Pk
namespace Pk
open PySem PySem.W PySem.Calls PyProof.Rows He He5
/-! ### a hook that tells of written dicts, and of defs that make lambdas -/
abbrev AlS : Type := AlR × List (Option (List (Option (PySem.Str × Int))))
def obsS (fa : List Fa) (fn : List DefA) (ex : Frag → Bool) (ts : List TabQ) (ls : List (Frag → Addr)) (K : Frag) : AlS := (obsR fa fn ex ls K, ts.map fun t => dicW (noT ls K) (t.1 (noT ls K)))
def valS (fn : List DefA) (ts : List TabQ) (w : World) : AlS := (valR fn, ts.map fun t => some (keysIn w.params t.2))
structure SaysS (fa : List Fa) (fn : List DefA) (ex : Frag → Bool) (ts : List TabQ) (ls : List (Frag → Addr)) (w : World) (h : Heap) (K : Frag) (cs : List (Addr × Addr)) : Prop where
  r : SaysR fa fn ex ls h K cs
  tab : ∀ (i : Nat) (t : TabQ), ts[i]? = some t → ∃ es n, L2.KDict K w (t.1 K) es n
theorem saysS_of {fa : List Fa} {fn : List DefA} {ex : Frag → Bool} {ts : List TabQ} {ls : List (Frag → Addr)} {w : World} {h : Heap} {K : Frag} (KX : K.In h) (e : obsS fa fn ex ts ls K = valS fn ts w) : SaysS fa fn ex ts ls w h (noT ls K) (csOf ls K) := by
  refine ⟨saysR_of KX (congrArg Prod.fst e), fun i t ht => ?_⟩
  have e1 : (ts.map fun t => dicW (noT ls K) (t.1 (noT ls K))) = ts.map fun t => some (keysIn w.params t.2) := congrArg Prod.snd e
  have e2 := congrArg (fun l => l[i]?) e1
  simp only [List.getElem?_map, ht, Option.map_some, Option.some.injEq] at e2
  exact dicW_ok e2
def obsSG (n : Nat) (fa : List Fa) (fn : List DefA) (ex : Frag → Bool) (ts : List TabQ) (ls : List (Frag → Addr)) (g : Addr → Option Obj) : AlS := obsS fa fn ex ts ls (frG g (asA g n))
def hookS (n : Nat) (fa : List Fa) (fn : List DefA) (ex : Frag → Bool) (ts : List TabQ) (ls : List (Frag → Addr)) : PySem.W.Hook where
  α := AlS
  obs := fun s => obsSG n fa fn ex ts ls s.heap.get?
  val := fun w => valS fn ts w
  says := fun w h => ∃ (K : Frag) (cs : List (Addr × Addr)), SaysS fa fn ex ts ls w h K cs
  of := fun _ _ e => ⟨_, _, saysS_of frG_in e⟩
  keeps := fun _ _ _ ⟨K, cs, c⟩ k => ⟨K, cs, ⟨c.r.m, Frag.In.keeps c.r.inn k, fun p hp => k _ _ (c.r.tab p hp), c.r.non, fun p hp => (c.r.code p hp).keeps k, c.r.nd, c.r.at_⟩, c.tab⟩
theorem obsSG_eq {n : Nat} {fa : List Fa} {fn : List DefA} {ex : Frag → Bool} {ts : List TabQ} {ls : List (Frag → Addr)} {g : Addr → Option Obj} {s : Shared} (h : ∀ a, g a = s.heap.get? a) : obsSG n fa fn ex ts ls g = (hookS n fa fn ex ts ls).obs s := by
  have e : g = s.heap.get? := funext h
  rw [e] <;> rfl
end Pk
/-! ## text[::k], ranges with a step -/
namespace Pk
open PySem PySem.Spec PyProof.Rows L2
theorem rgC_up {n c : Nat} (hc : 1 ≤ c) (hc2 : c < 1000) (hn : n ≤ 100000) : RgC 0 (n : Nat) (c : Nat) ((n + c - 1) / c) := by
  have e : Builtin.Range.rangeSize 0 (n : Nat) (c : Nat) = (((n + c - 1) / c : Nat) : Int) := by
    unfold Builtin.Range.rangeSize
    rw [if_pos (by omega)]
    by_cases h : n = 0
    · subst h
      rw [if_neg (by omega), Nat.div_eq_of_lt (by omega)]
      rfl
    · rw [if_pos (by omega), show (n : Int) - 0 - 1 = ((n - 1 : Nat) : Int) by omega, ← Int.natCast_ediv]
      have h2 : (n + c - 1) / c = (n - 1) / c + 1 := by
        rw [show n + c - 1 = n - 1 + c by omega, Nat.add_div_right _ (by omega)]
      omega
  refine ⟨by omega, by omega, ?_, e⟩
  have h3 : (n + c - 1) / c ≤ n + c - 1 := Nat.div_le_self _ _
  have h4 : (n + c - 1) / c * c ≤ n + c - 1 := Nat.div_mul_le_self _ _
  have h5 : (((n + c - 1) / c : Nat) : Int) * (c : Int) ≤ 110000 := by
    rw [← Int.natCast_mul]
    omega
  unfold Builtin.Range.small
  rw [e]
  simp only [Builtin.Range.rangeFitsLong, Bool.and_eq_true, Bool.or_eq_true, decide_eq_true_eq, beq_iff_eq]
  generalize (n + c - 1) / c = m at *
  refine ⟨⟨⟨⟨by decide, by omega⟩, by omega⟩, by omega⟩, .inr ?_⟩
  rw [if_pos (by omega), Bool.and_eq_true, decide_eq_true_eq, decide_eq_true_eq]
  omega
theorem pe_cntK {X : Cx} (K : Fr) {o e : Expr} {es : List Expr} {to : TE} {t : TA} {apos cpos : Pos} (ho : PE X o to) (ha : PA X (e :: es) t)
    (hbase : attributeBase o "count" X.env (eval o X.env) = eval o X.env := by rfl)
    (hfew : ((backTo cpos (starEach (e :: es) X.env)).all (fun x => !x.1) && (backToKw cpos (keywordEach [] X.env)).all (fun x => x.1.isSome)
      && decide ((e :: es).length + ([] : List Keyword).length + (if ([] : List Keyword).isEmpty then 0 else 1) < 30)) = true := by rfl)
    (hline : (apos.endLine == cpos.line) = true := by rfl) (hs : starEach (e :: es) X.env = (false, eval e X.env) :: starEach es X.env := by rfl) (hplain : (backTo cpos (starEach es X.env)).any (·.1) = false := by rfl) (h : X.K = K := by rfl) :
    PE X (.Call (.Attribute o "count" apos) (e :: es) [] cpos) (tBM K "list" (rCntI K) to t) := by
  subst h
  exact pe_bm PySem.F.plainAttrs_list PySem.F.slot_list_count PySem.F.type_list_count mt_lcount ho ha hbase hfew hline hs hplain
/-- each k-th sign of a text -/
def stepL (z : List Nat) (k : Nat) : List Nat := (List.range ((z.length + k - 1) / k)).filterMap fun i => z[k * i]?
theorem step_range (n k : Nat) (hk : 1 ≤ k) : Builtin.Str.strSliceIndices none none (k : Nat) n = (List.range ((n + k - 1) / k)).map fun i => k * i := by
  unfold Builtin.Str.strSliceIndices sliceRange
  dsimp only
  rw [if_pos (show ((k : Nat) : Int) > 0 by omega), if_pos (show ((k : Nat) : Int) > 0 by omega), if_pos (show ((k : Nat) : Int) > 0 by omega)]
  have e : ((if (0 : Int) < (n : Nat) then ((n : Nat) - 0 + (k : Nat) - 1 : Int) / (k : Nat) else 0)).toNat = (n + k - 1) / k := by
    by_cases h : n = 0
    · subst h
      rw [if_neg (by omega), Nat.div_eq_of_lt (by omega)]
      rfl
    · rw [if_pos (by omega), show ((n : Nat) - 0 + (k : Nat) - 1 : Int) = ((n + k - 1 : Nat) : Int) by omega, ← Int.natCast_ediv, Int.toNat_natCast]
  rw [e]
  refine List.map_congr_left fun i _ => ?_
  rw [Int.zero_add, ← Int.natCast_mul, Int.toNat_natCast]
def tStepS (k : Nat) (te : TE) : TE := fun σ H Q => te σ H fun x H1 => ∃ z : List Nat, x = .str (sL z) ∧ z.length ≤ sizeLine ∧ Q (.str (sL (stepL z k))) H1
theorem pe_stepS {X : Cx} {e : Expr} {te : TE} {k : Nat} {kk : Nat} {p1 p3 pos : Pos} (hk : 2 ≤ k) (he : PE X e te) : PE X (.Subscript e (.Slice none none (some (.Constant (.int k) kk p1)) p3) pos) (tStepS k te) := ⟨fun pins s σ H Q I h => by
  refine Subscript_ (thn (he.run pins s σ H _ I h) fun v s1 k1 => ?_)
  obtain ⟨x, H1, I1, r1, z, ex, hz, q⟩ := k1
  subst ex
  obtain ⟨tz, rfl⟩ := r1
  have hst : PO X (some (.Constant (.int k) kk p1)) (tPart (tC (.int k))) := po_some pe_int
  refine wpAny_Slice (thn (po_none.run pins s1 σ H1 (fun o H2 => o = none ∧ H2 = H1) I1 ⟨rfl, rfl⟩) fun vl s2 k2 => ?_)
  obtain ⟨l, H2, I2, pl, el, e2⟩ := k2
  subst el e2
  refine thn (po_none.run pins s2 σ H2 (fun o H3 => o = none ∧ H3 = H2) I2 ⟨rfl, rfl⟩) fun vu s3 k3 => ?_
  obtain ⟨u, H3, I3, pu, eu, e3⟩ := k3
  subst eu e3
  refine thn (hst.run pins s3 σ H3 (fun o H4 => o = some (k : Int) ∧ H4 = H3) I3 ⟨(k : Int), rfl, rfl, rfl⟩) fun vs s4 k4 => ?_
  obtain ⟨o, H4, I4, ps, eo, e4⟩ := k4
  subst eo e4
  have I5 : Inv X pins σ H4 { s4 with heap := s4.heap.push { cls := .type "slice", data := .fields #[vl, vu, vs] } } := I4.kept (t' := s4.toks) fun b ob q => Heap.get?_push_of_some _ q
  obtain ⟨a1, rfl, b1⟩ := IsPart.raw pl
  obtain ⟨a2, rfl, b2⟩ := IsPart.raw pu
  obtain ⟨a3, rfl, b3⟩ := IsPart.raw ps
  change wpAny (model X.prog X.w) X.A (subscriptTail e (.Slice none none (some (.Constant (.int k) kk p1)) p3) (.str (sL z) tz) (.ref s4.heap.objs.size)) (EP X pins σ Q) X.xe { s4 with heap := s4.heap.push { cls := .type "slice", data := .fields #[partValue a1, partValue a2, partValue a3] } }
  refine tail_any (ops := [.str (sL z) tz, .ref s4.heap.objs.size]) (typeIs_str _ _ _) (F.slot_str_getitem.lookup) ?_ (by with_unfolding_all rfl)
  refine wpAny_getItem_str_slice (l := a1) (u := a2) (st := a3) ⟨_, Heap.get?_push_size _ rfl, rfl, rfl⟩ (by rw [b3]; show (((k : Nat) : Int) == 0) = false; exact beq_eq_false_iff_ne.mpr (by omega)) ?_
  have el : (sL z).length = z.length := sL_len z
  show Made.post (if ((a3.map (·.1)).getD 1 == 1 && (Builtin.Str.strSliceIndices (a1.map (·.1)) (a2.map (·.1)) ((a3.map (·.1)).getD 1) (sL z).length).length == (sL z).length) = true then Made.val (.str (sL z) tz)
    else Made.str ⟨((Builtin.Str.strSliceIndices (a1.map (·.1)) (a2.map (·.1)) ((a3.map (·.1)).getD 1) (sL z).length).filterMap ((sL z).cps[·]?)).toArray⟩) (EP X pins σ Q) _
  rw [b1, b2, b3, show (some (k : Int)).getD 1 = (k : Int) from rfl, if_neg (by
    rw [Bool.and_eq_true]
    rintro ⟨h1, _⟩
    have := beq_iff_eq.mp h1
    omega), el, step_range z.length k (by omega)]
  have ez : (((List.range ((z.length + k - 1) / k)).map fun i => k * i).filterMap ((sL z).cps[·]?)) = stepL z k := by
    unfold stepL
    rw [List.filterMap_map]
    refine fm_congr fun i _ => ?_
    show (sL z).cps[k * i]? = z[k * i]?
    unfold sL
    simp
  rw [ez]
  have hl : (stepL z k).length ≤ sizeLine := by
    unfold stepL
    refine Nat.le_trans (List.length_filterMap_le _ _) ?_
    rw [List.length_range]
    have h4 : (z.length + k - 1) / k * k ≤ z.length + k - 1 := Nat.div_mul_le_self _ _
    have h5 : (z.length + k - 1) / k * 2 ≤ (z.length + k - 1) / k * k := Nat.mul_le_mul_left _ hk
    rcases Nat.lt_or_ge z.length k with y | y
    · rcases Nat.eq_zero_or_pos z.length with y2 | y2
      · rw [y2, Nat.div_eq_of_lt (by omega)]
        exact Nat.zero_le _
      · rw [show z.length + k - 1 = z.length - 1 + k by omega, Nat.add_div_right _ (by omega), Nat.div_eq_of_lt (by omega)]
        omega
    · omega
  refine ⟨?_, .str (sL (stepL z k)), H4, I5.tok _, ⟨_, rfl⟩, q⟩
  show (sL (stepL z k)).length ≤ sizeLine
  rw [sL_len]
  exact hl⟩
end Pk
/-! ## a generator method with *v -/
namespace Pk
open PySem PySem.Spec PyProof.Rows L2 GenW
section
variable {P : Program} {w : World} {K : PySem.W.Frag} {mg : Str → Option Value} {base : Heap} {k : Nat} {f : Addr} {name qual : Str} {params : Arguments} {body : List Stmt} {scope : Scope} {dV kV doc pm cdv ct oc : Value} {an od : Option Addr}
  {osl : Array (Option Value)} {N ps : List Str} {A : Around} {outer : List Env} {s s1 : Shared} {H : Hp} {us : List Value} {vs : List V} {Q : List V → Hp → Prop} {E : XK}
/-- behind the frame: the object that the call gives -/
theorem gen_made (S : GScope N ps scope) (hd : A.handled = none) (e0 : Env0 P w K mg base A outer s H) (hl : vs.length = ps.length) (r : Vals vs us)
    (hbody : ∀ (B : Around) (pn : List (Addr × Obj)), Room k (B.deeper (envOfC qual scope s.heap.objs.size f cdv)) → ∃ t, GSs (gcxOf P w K mg base N qual scope f cdv B outer s H E pn) body t ∧ t { nx := fun ys _ H' => Q ys H', rt := fun ys v H' => v = .non ∧ Q ys H' } [] (start N vs) H)
    (x : InCallC s s.heap.objs.size (bindL (envOfC qual scope s.heap.objs.size f cdv).kindOf (ps.zip us) fun _ => none) (cellsFrom (s.heap.objs.size + 1) scope.names []) (bindC (envOfC qual scope s.heap.objs.size f cdv).kindOf (ps.zip us) fun _ => none) s1)
    (go : Obj) (nm qn : Value) (tk2 : Nat) (g1 : go.cls = .type "generator") (g2 : go.data = .fields #[.int s1.gens.size 0, nm, qn]) (g3 : go.slots = #[]) (g4 : go.isFreed = false) :
    s1.heap.NoLimit ∧ GMade P w (k + 1) outer H s [] Q E (.ref s1.heap.objs.size) { s1 with gens := s1.gens.push (.fresh (.func body (envOfC qual scope s.heap.objs.size f cdv))), toks := tk2, heap := s1.heap.push go } := by
  have lim : s.heap.NoLimit := e0.mod.nolimit.keeps fun b o e => (e0.bs b o e).1
  obtain ⟨hx, tk, es, hk⟩ := x.done
  have kp : ∀ b o, s.heap.get? b = some o → s1.heap.get? b = some o := x.toInCall.keep
  have lim1 : s1.heap.NoLimit := lim.keeps kp
  have os1 : s1.os = s.os := by rw [es]
  have gn1 : s1.gens = s.gens := by rw [es]
  have lt : s.heap.objs.size < s1.heap.objs.size := x.toInCall.ns.lt
  have isG : ∀ h : Heap, h.get? s1.heap.objs.size = some go → h.IsGen s1.heap.objs.size s1.gens.size := fun h e => ⟨go, nm, qn, e, g1, g2, g3⟩
  have at1 : (s1.heap.push go).get? s1.heap.objs.size = some go := Heap.get?_push_size _ g4
  have noC : ∀ v, go.data ≠ .cell v := fun v q => by rw [g2] at q; cases q
  refine ⟨lim1, s1.heap.objs.size, s1.gens.size, _, rfl, Nat.le_of_lt lt, by show _ < (s1.heap.push go).objs.size; rw [Heap.size_push]; exact Nat.lt_succ_self _, isG _ at1, Array.getElem?_push_size .., os1, AllBare.push (by rw [gn1]; exact e0.bare) rfl,
    lim1.keeps fun b o e => Heap.get?_push_of_some _ e, fun b o e => Heap.get?_push_of_some _ (kp b o e), fun B T s2 hrB frB hT keep hTl hos hba => ?_⟩
  obtain ⟨t, gt, tq⟩ := hbody B [(s1.heap.objs.size, go)] (hrB.deeper _)
  have J1 : Inv (gcxOf P w K mg base N qual scope f cdv B outer s H E []) [] (start N vs) H s1 := inv_startG S hrB.hd ⟨frB, e0.mod, e0.bs, e0.bsz, e0.funs, e0.frf, e0.hok, e0.bare⟩ hl r x
  have kp2 : ∀ b o, s1.heap.get? b = some o → s2.heap.get? b = some o := fun b o e => keep b o (Heap.get?_push_of_some _ e)
  have J2 := J1.call' (ch := []) (hos.trans os1.symm) (Un.kept kp2) (J1.hok.kept kp2) hba fun b z => by simp at z
  have hT2 : s1.heap.objs.size < T := by
    have z : (s1.heap.push go).objs.size ≤ T := hT
    rw [Heap.size_push] at z
    exact z
  obtain ⟨cT, eT⟩ := hTl
  have at2 : s2.heap.get? s1.heap.objs.size = some go := keep _ go at1
  have late : ∀ b, s1.heap.objs.size ≤ b → H b = none ∧ b ≠ s.heap.objs.size ∧ b ∉ frs outer ∧ s.heap.objs.size ≤ b ∧ ∀ y c, (cellsFrom (s.heap.objs.size + 1) scope.names []).lookup y = some c → c ≠ b := fun b hb => by
    refine ⟨J1.hok.fresh hb, Nat.ne_of_gt (Nat.lt_of_lt_of_le lt hb), J1.nofs hb, Nat.le_trans (Nat.le_of_lt lt) hb, fun y c e z => ?_⟩
    obtain ⟨_, _, ho, _⟩ := J1.cell y c e
    exact absurd (Nat.lt_of_lt_of_le (z ▸ Heap.lt_size ho) hb) (Nat.lt_irrefl _)
  obtain ⟨a1, a2, a3, _, _⟩ := late s1.heap.objs.size (Nat.le_refl _)
  obtain ⟨b1, b2, b3, b4, b5⟩ := late T (Nat.le_of_lt hT2)
  have start0 : GI (gcxOf P w K mg base N qual scope f cdv B outer s H E [(s1.heap.objs.size, go)]) T [] [] (start N vs) H s2 := ⟨#[], cT, .nil, Inv.pinnedG J2 fun p hp => by
    have hp2 : p = (s1.heap.objs.size, go) ∨ p = (T, lstObj #[] cT) := by simpa using hp
    rcases hp2 with rfl | rfl
    · exact ⟨at2, a1, a2, a3, noC⟩
    · exact ⟨eT, b1, b2, b3, fun v q => by cases q⟩⟩
  have isG2 : ∀ {ip : List (Addr × Obj)} {ys : List V} {s' : Shared} {σ' : L2.St} {H' : Hp}, GI (gcxOf P w K mg base N qual scope f cdv B outer s H E [(s1.heap.objs.size, go)]) T ip ys σ' H' s' → s'.heap.IsGen s1.heap.objs.size s1.gens.size := fun ⟨_, _, _, J⟩ => isG _ (J.pin (s1.heap.objs.size, go) (List.mem_append_left _ (List.mem_singleton.mpr rfl))).1
  refine seg_func (seg_imp (R := GR (gcxOf P w K mg base N qual scope f cdv B outer s H E [(s1.heap.objs.size, go)]) T (fun ys v H' => v = .non ∧ Q ys H') fun e s' => CX P w outer H s E e s' ∧ ∀ p ∈ [(s1.heap.objs.size, go)], s'.heap.get? p.1 = some p.2)
    (Y := GY (gcxOf P w K mg base N qual scope f cdv B outer s H E [(s1.heap.objs.size, go)]) T) (fun n z1 r z2 hR => ?_) (fun n z1 v z2 kap kap' hkk hY => ?_) sizeLine ?_)
  · match r, hR with
    | .error e, hR => exact .inr ⟨e, rfl, hR.1, isG _ (hR.2 _ (List.mem_singleton.mpr rfl))⟩
    | .ok (.ret u), ⟨ys, v, ip, σ', H', hn, hI, rv, ev, hQ⟩ =>
      subst ev
      obtain rfl : u = Value.none := rv
      obtain ⟨y1, _, _, acc, cc, ra, ea⟩ := hI.at
      obtain ⟨_, _, _, J⟩ := hI
      exact .inl ⟨.inl rfl, H', ys, acc, cc, J.os, J.bare, J.base, J.hok, y1, ea, ra, by omega, hQ⟩
  · obtain ⟨ys, xx, ip, σ', H', hn, y2, hI, y3⟩ := hY
    obtain ⟨_, _, _, acc, cc, ra, ea⟩ := hI.at
    have hg := isG2 hI
    obtain ⟨_, _, _, J⟩ := hI
    have hsz : acc.size = ys.length := by
      have e1 := ra.length
      rw [Array.length_toList] at e1
      exact e1.symm
    exact ⟨J.os, J.bare, J.nolimit, hg, ⟨acc, cc, ea, by rw [hsz]; exact hn⟩, fun s' z => hkk _ _ (y3 s' z)⟩
  · refine gt.run B T [] _ sizeLine [] s2 _ [] _ _ id id s2 (start N vs) H _ ⟨fun p hp => by rw [List.mem_singleton.mp hp]; exact Nat.ne_of_lt hT2, fun p hp => by simp at hp, ⟨b4, b2, b5⟩, over_func, rfl, rfl, rfl⟩ (Nat.add_zero _) ⟨fun n ys z1 s' fl hn hs => ?_, fun n z1 e s' hx => ?_⟩ start0 tq
    · match fl, hs with
      | .next, ⟨σ', H', hI, hQ⟩ => exact seg_end (.ok (.ret .none)) ⟨ys, .non, [], σ', H', hn, hI, rfl, rfl, hQ⟩
      | .brk, ⟨_, _, _, q⟩ => exact False.elim q
      | .cont, ⟨_, _, _, q⟩ => exact False.elim q
      | .ret u, ⟨v, σ', H', hI, rv, ev, hQ⟩ => exact seg_end (.ok (.ret u)) ⟨ys, v, [], σ', H', hn, hI, rv, ev, hQ⟩
    · refine seg_wrap ?_
      rw [over_func]
      refine wpAny_mono (show wpAny (model P w) (B.deeper (envOfC qual scope s.heap.objs.size f cdv)) (leaving (envOfC qual scope s.heap.objs.size f cdv) e) (fun _ s'' => CX P w outer H s E e s'' ∧ ∀ p ∈ [(s1.heap.objs.size, go)], s''.heap.get? p.1 = some p.2) (fun _ _ => False) s' from hx) (fun _ s'' q => seg_end (.error e) q) fun _ s'' q => q.elim
end
/-- a generator def f(self, *v) keeps sp (of self and the tuple) -/
def GpS (P : Program) (w : World) (K : PySem.W.Frag) (mg : Str → Option Value) (base : Heap) (k : Nat) (f : Addr) (sp : SpG) : Prop :=
  ∀ (A : Around) (outer : List Env) (s : Shared) (H : Hp) (u : Value) (us : List Value) (v : V) (vs : List V) (Q : List V → Hp → Prop) (E : XK), Room k A → Env0 P w K mg base A outer s H → RelV v u → Vals vs us → vs.length ≤ sizeLine →
    sp [v, .ref s.heap.objs.size] (upd H s.heap.objs.size (.tup vs)) Q E →
    codeAny (model P w) A (.call (.ref f) ⟨u :: us, []⟩) (fun r s' => match r with | .ok (.ret x) => GMade P w k outer (upd H s.heap.objs.size (.tup vs)) { s with heap := s.heap.push { cls := .type "tuple", data := .seq us.toArray } } [] Q E x s' | _ => False) s
section
variable {P : Program} {w : World} {K : PySem.W.Frag} {mg : Str → Option Value} {base : Heap} {k : Nat} {f : Addr} {name qual : Str} {params : Arguments} {body : List Stmt} {scope : Scope} {dV kV doc pm cdv ct oc : Value} {an od : Option Addr}
  {osl : Array (Option Value)} {N : List Str} {sp : SpG}
theorem gpS_of {p1 pv : Str} (lk : K.lookup f = some ⟨oc, od, .func (PySem.W.fnOf name qual params body scope dV kV doc pm an cdv ct), osl⟩) (hcd : PySem.W.codeIn K cdv qual = true) (S : GScope N [p1, pv] scope)
    (hb : ∀ us rest : List Value, us.length = [p1].length → bindArgs (PySem.W.fnOf name qual params body scope dV kV doc pm an cdv ct) ⟨us ++ rest, []⟩ = (newTuple rest >>= fun t => pure ([p1].zip us ++ [(pv, t)])))
    (hbody : ∀ (A : Around) (outer : List Env) (s : Shared) (H : Hp) (vs : List V) (Q : List V → Hp → Prop) (E : XK) (pn : List (Addr × Obj)), Room k (A.deeper (envOfC qual scope s.heap.objs.size f cdv)) → sp vs H Q E →
      ∃ t, GSs (gcxOf P w K mg base N qual scope f cdv A outer s H E pn) body t ∧ t { nx := fun ys _ H' => Q ys H', rt := fun ys v H' => v = .non ∧ Q ys H' } [] (start N vs) H) : GpS P w K mg base (k + 1) f sp := by
  intro A outer s H u us v vs Q E hr e0 rv r hz hsp
  have KX : K.In s.heap := e0.mod.kin.keeps fun b o e => (e0.bs b o e).1
  have hz2 : us.length ≤ sizeLine := by rw [← r.length]; exact hz
  refine codeAny_call_generator hr.depth (KX _ _ lk) rfl S.co S.gen rfl (PySem.W.codeRec_of KX hcd) ?_
  rw [show (⟨u :: us, []⟩ : Args) = ⟨[u] ++ us, []⟩ from rfl, hb [u] us rfl]
  refine wpAny_bind (wpAny_newTuple (wpAny_pure ?_) hz2)
  have hn : H s.heap.objs.size = none := e0.hok.fresh (Nat.le_refl _)
  have new : ObjOk P w (upd H s.heap.objs.size (.tup vs)) (s.heap.push ({ cls := .type "tuple", data := .seq us.toArray } : Obj)) s.heap.objs.size (.tup vs) := ⟨hz, us, r, ⟨_, Heap.get?_push_size _ rfl, rfl, _, rfl⟩⟩
  have e2 := StX.env0_laid e0 new
  have hkind : ∀ y ∈ [(p1, u), (pv, Value.ref s.heap.objs.size)], scope.names.lookup y.1 = some .local ∨ (scope.names.lookup y.1 = some .cell ∧ ((cellsFrom ((s.heap.push ({ cls := .type "tuple", data := .seq us.toArray } : Obj)).objs.size + 1) scope.names []).lookup y.1).isSome = true) := fun y hy => by
    have hy2 : y.1 ∈ [p1, pv] := by
      rcases List.mem_cons.mp hy with rfl | h
      · exact List.mem_cons_self
      · rw [List.mem_singleton.mp h]
        exact List.mem_cons_of_mem _ List.mem_cons_self
    rcases S.par y.1 hy2 with q | q
    · exact .inl q
    · exact .inr ⟨q, PySem.W.cellsFrom_some _ _ _ (.inl q)⟩
  refine wpAny_newFunctionEnv_cells S.kind hkind fun env he s1 x => ?_
  subst he
  exact gen_made (ps := [p1, pv]) (us := [u, .ref s.heap.objs.size]) (vs := [v, .ref s.heap.objs.size]) S hr.hd e2 rfl (.cons rv (.cons rfl .nil)) (fun B pn hB => hbody B outer _ _ _ Q E pn hB hsp) x _ _ _ _ rfl rfl rfl rfl
end
section
variable {X : Cx} {k : Nat} {f C : Addr} {sp : SpG} {m : Str} {pos' apos : Pos} {o : Expr} {ta : TE}
def tMethGS (C : Addr) (m : Str) (sp : SpG) (E : XK) (ta : TE) (t : TA) : TGen := fun σ H cont => ta σ H fun x H1 => ∃ a dx fs, x = .ref a ∧ H1 a = some (.ins C dx fs) ∧ fs.lookup m = none ∧
  t σ H1 fun vs H2 => vs.length ≤ sizeLine ∧ ∀ p, H2 p = none → sp [x, .ref p] (upd H2 p (.tup vs)) cont E
/-- o.m(e, ..), m(self, *v) a generator method -/
theorem pgen_methS {E : XK} {pl : Sem Bool} {e : Expr} {es : List Expr} {t : TA} (he : PE X o ta) (c : Cls X.K C) (hm : Meth X.K C m f) (F : GpS X.prog X.w X.K X.mg X.base k f sp) (hr : Room k X.A) (ha : PA X (e :: es) t)
    (hst : starEach (e :: es) X.env = (false, eval e X.env) :: starEach es X.env := by rfl) (hpl : (backTo pos' (starEach es X.env)).any (·.1) = false := by rfl)
    (ht : eval (.Call (.Attribute o m apos) (e :: es) [] pos') X.env = (do
      let ov ← eval o X.env
      standAt apos.atName
      let (f, first) ← holding [ov] (getMethod ov m pl)
      callWith pos' f first (backTo pos' (starEach (e :: es) X.env)) (backToKw pos' (keywordEach [] X.env))) := by rfl) :
    PGen X k (.Call (.Attribute o m apos) (e :: es) [] pos') (tMethGS C m sp E ta t) E := by
  refine ⟨fun pins s σ H cont I h => ?_⟩
  refine PySem.W.methodCall_KW (pl := pl) (thn (he.run pins s σ H _ I h) fun u s1 ⟨x, H1, I1, rx, a, dx, fs, ex, ea, l, q⟩ => ?_) ht
  subst ex
  obtain rfl : u = Value.ref a := rx
  refine getmeth_ok I1 ea c hm l ?_
  refine PySem.W.callWith_K (first := [.ref a]) (h₀ := X.base) I.ok.mod.kin hm.kp (thn (ha.run pos' pins s1 σ H1 _ I1 q) fun us s2 ⟨vs, H2, I2, r, hz, q2⟩ => ⟨I2.kIn, ?_⟩) hst hpl
  have hn : H2 s2.heap.objs.size = none := I2.hok.fresh (Nat.le_refl _)
  have new : ObjOk X.prog X.w (upd H2 s2.heap.objs.size (.tup vs)) (s2.heap.push ({ cls := .type "tuple", data := .seq us.toArray } : Obj)) s2.heap.objs.size (.tup vs) := ⟨hz, us, r, ⟨_, Heap.get?_push_size _ rfl, rfl, _, rfl⟩⟩
  refine wpAny_call (codeAny_mono (F X.A X.stack s2 H2 (.ref a) us (.ref a) vs cont E hr I2.env0 rfl r hz (q2 _ hn)) fun r s' hq => ?_)
  match r, hq with
  | .ok (.ret u), hq => exact ⟨_, _, [], I2.laid (t' := s2.toks) (fun b ob z => Heap.get?_push_of_some _ z) (Nat.le_refl _) new, .nil, hq⟩
/-- list(o.m(e)), m(self, *v) a generator method -/
theorem pe_listGS {pl : Sem Bool} {e : Expr} {es : List Expr} {t : TA} {p pos : Pos} (he : PE X o ta) (c : Cls X.K C) (hm : Meth X.K C m f) (F : GpS X.prog X.w X.K X.mg X.base k f sp) (hr : Room (k + 3) X.A) (ha : PA X (e :: es) t) (hl : X.mg ("list" : Str) = none)
    (hgl : Gl X "list" := by rfl) (hst : starEach (e :: es) X.env = (false, eval e X.env) :: starEach es X.env := by rfl) (hpl : (backTo pos' (starEach es X.env)).any (·.1) = false := by rfl)
    (ht : eval (.Call (.Attribute o m apos) (e :: es) [] pos') X.env = (do
      let ov ← eval o X.env
      standAt apos.atName
      let (f, first) ← holding [ov] (getMethod ov m pl)
      callWith pos' f first (backTo pos' (starEach (e :: es) X.env)) (backToKw pos' (keywordEach [] X.env))) := by rfl)
    (he2 : starEach [.Call (.Attribute o m apos) (e :: es) [] pos'] X.env = (false, eval (.Call (.Attribute o m apos) (e :: es) [] pos') X.env) :: starEach [] X.env := by rfl) :
    PE X (.Call (.Name "list" p) [.Call (.Attribute o m apos) (e :: es) [] pos'] [] pos) (tListG (tMethGS C m sp E0 ta t)) :=
  pe_listG (pgen_methS he c hm F (hr.mono (by omega)) ha hst hpl ht) passL (fun _ _ _ h => h.elim) hr hgl hl b_list (by decide) (by decide) he2
end
end Pk
/-! ## text.find of one letter -/
namespace Pk
open PySem PySem.Spec PyProof.Rows L2 PySem.StrLaws Builtin Builtin.Str
theorem occ_full (s sub : Str) (hi : Nat) (z : Array Nat) (hz : 1 ≤ z.size) : ∀ (l : List Nat) (f : Nat), (forIn l (z, f) (occBody s sub hi 1)).run.fst = z
  | [], f => rfl
  | a :: l, f => by
    rw [List.forIn_cons]
    unfold occBody
    rw [if_neg (by intro h; have := h.1.1.1; simp only at this; omega)]
    exact occ_full s sub hi z hz l f
theorem occ_one (s sub : Str) (hi i : Nat) (hc : i + sub.length ≤ hi ∧ subAt s sub i = true) : ∀ (n a f : Nat), f ≤ a → a ≤ i → i < a + n → (∀ j, a ≤ j → j < i → ¬ (j + sub.length ≤ hi ∧ subAt s sub j = true)) →
    (forIn (List.range' a n) ((#[] : Array Nat), f) (occBody s sub hi 1)).run.fst = #[i]
  | 0, a, f, h1, h2, h3, h4 => by omega
  | n + 1, a, f, h1, h2, h3, h4 => by
    rw [List.range'_succ, List.forIn_cons]
    unfold occBody
    by_cases e : a = i
    · subst e
      rw [if_pos ⟨⟨⟨by simp, h1⟩, hc.1⟩, hc.2⟩]
      exact occ_full s sub hi #[a] (by simp) _ _
    · have h5 := h4 a (Nat.le_refl _) (by omega)
      rw [if_neg (fun z => h5 ⟨z.1.2, z.2⟩)]
      exact occ_one s sub hi i hc n (a + 1) f (by omega) (by omega) (by omega) fun j z1 z2 => h4 j (by omega) z2
theorem find_sL {l : List Nat} {c i : Nat} (h : l[i]? = some c) (hn : ∀ j, j < i → l[j]? ≠ some c) : Txt.find (sL l) (sL [c]) = (i : Int) := by
  have e : occurrences (sL l) (sL [c]) 0 (sL l).length 1 = [i] := by
    rw [occ_eq]
    have hl := (List.getElem?_eq_some_iff.mp h).1
    rw [occ_one (sL l) (sL [c]) (sL l).length i ((subAt_one (sL l) c i).mpr (by simpa [sL] using h)) _ 0 0 (Nat.le_refl _) (Nat.zero_le _) (by rw [sL_len]; omega) fun j _ z hh => hn j z (by simpa [sL] using (subAt_one (sL l) c j).mp hh)]
  unfold Txt.find
  rw [e]
end Pk
/-! ## One more paste -/
namespace Pk
def pas (st : List Stp) (f l t : Nat) : List Stp := st ++ [.pa f l t]
variable {st : List Stp} {f l t : Nat}
theorem pas_goes (h : Goes most 0 st) (h1 : f ≤ l) (h2 : l < sz st) (h3 : 1 ≤ t) (h4 : t ≤ 1000000000) (h5 : sz st + (l + 1 - f) * t ≤ most) : Goes most 0 (pas st f l t) := by
  refine goes_app.mpr ⟨h, ?_, ?_, trivial⟩
  · simp [Stp.ok]
    omega
  · rw [Nat.zero_add]
    exact h5
theorem pas_sz : sz (pas st f l t) = sz st + (l + 1 - f) * t := by
  unfold pas
  rw [sz_app, sz_cons]
  rfl
theorem pas_nk : nk (pas st f l t) = nk st := by
  unfold pas
  rw [nk_app]
  rfl
theorem pas_typed : typed (pas st f l t) = typed st := by
  unfold pas
  rw [typed_app]
  show typed st ++ [] = _
  rw [List.append_nil]
theorem pas_len : (pas st f l t).length = st.length + 1 := by
  unfold pas
  rw [List.length_append]
  rfl
theorem pas_at : (pas st f l t)[st.length]? = some (.pa f l t) := by
  unfold pas
  rw [List.getElem?_append_right (Nat.le_refl _), Nat.sub_self]
  rfl
theorem pas_take : (pas st f l t).take st.length = st := by
  unfold pas
  rw [List.take_left]
theorem pas_take1 : (pas st f l t).take (st.length + 1) = pas st f l t := List.take_of_length_le (by rw [pas_len]; exact Nat.le_refl _)
theorem pas_pre (hg : Goes most 0 (pas st f l t)) : ∃ F, ex (pas st f l t) = ex st ++ F ∧ (ex st).length = sz st := by
  obtain ⟨A, F, h1, _, _, h4⟩ := ex_split hg pas_at
  rw [pas_take] at h1 h4
  exact ⟨A ++ F, h1, h4⟩
theorem pas_low (hg : Goes most 0 (pas st f l t)) (P : Nat → Bool) {p : Nat} (hp : p ≤ sz st) : cntP (pas st f l t) P p = cntP st P p := by
  obtain ⟨F, h1, h2⟩ := pas_pre hg
  unfold cntP
  rw [h1, List.take_append_of_le_length (by omega)]
theorem pas_ex (hg : Goes most 0 (pas st f l t)) {p : Nat} (hp : p < sz st) : (ex (pas st f l t))[p]? = (ex st)[p]? := by
  obtain ⟨F, h1, h2⟩ := pas_pre hg
  rw [h1, List.getElem?_append_left (by omega)]
theorem pas_ok (hg : Goes most 0 (pas st f l t)) : f ≤ l ∧ l < sz st ∧ 1 ≤ t ∧ t ≤ 1000000000 := by
  have h := (goes_at hg pas_at).1
  rw [pas_take] at h
  simp only [Stp.ok, Bool.and_eq_true, decide_eq_true_eq] at h
  exact ⟨h.1.1.1, h.1.1.2, h.1.2, h.2⟩
theorem pas_exU (hg : Goes most 0 (pas st f l t)) {u : Nat} (hu : u < (l + 1 - f) * t) : (ex (pas st f l t))[sz st + u]? = (ex st)[f + u % (l + 1 - f)]? := by
  obtain ⟨o1, o2, o3, o4⟩ := pas_ok hg
  have h := (ex_pa hg pas_at (p := sz st + u) (by rw [pas_take]; omega) (by rw [pas_take1, pas_sz]; omega)).1
  rw [pas_take, Nat.add_sub_cancel_left] at h
  have hm := Nat.mod_lt u (show 0 < l + 1 - f by omega)
  rw [h, pas_ex hg (by omega)]
theorem pas_cnt (hg : Goes most 0 (pas st f l t)) (P : Nat → Bool) {u : Nat} (hu : u ≤ (l + 1 - f) * t) :
    (cntP (pas st f l t) P (sz st + u) : Int) = (cntP st P (sz st) : Int) + ((u / (l + 1 - f) : Nat) : Int) * ((cntP st P (l + 1) : Int) - (cntP st P f : Int)) + ((cntP st P (f + u % (l + 1 - f)) : Int) - (cntP st P f : Int)) := by
  obtain ⟨o1, o2, o3, o4⟩ := pas_ok hg
  have h := cntP_paI hg pas_at P u hu
  have hm := Nat.mod_lt u (show 0 < l + 1 - f by omega)
  rw [pas_take, pas_low hg P (Nat.le_refl _), pas_low hg P (show l + 1 ≤ sz st by omega), pas_low hg P (show f ≤ sz st by omega), pas_low hg P (show f + u % (l + 1 - f) ≤ sz st by omega)] at h
  rw [h]
  omega
theorem pas_all (hg : Goes most 0 (pas st f l t)) (P : Nat → Bool) :
    (cntP (pas st f l t) P (sz (pas st f l t)) : Int) = (cntP st P (sz st) : Int) + (t : Int) * ((cntP st P (l + 1) : Int) - (cntP st P f : Int)) := by
  obtain ⟨o1, o2, o3, o4⟩ := pas_ok hg
  have h := pas_cnt hg P (Nat.le_refl ((l + 1 - f) * t))
  rw [Nat.mul_div_cancel_left t (by omega), Nat.mul_mod_right, show f + 0 = f from rfl] at h
  rw [pas_sz, h]
  omega
theorem pas_occ (hg : Goes most 0 (pas st f l t)) {P : Nat → Bool} {u : Nat} (hu : u < t * (cntP st P (l + 1) - cntP st P f)) :
    ∃ q, (occ st P)[cntP st P f + u % (cntP st P (l + 1) - cntP st P f)]? = some q ∧ f ≤ q ∧ q ≤ l ∧ (occ (pas st f l t) P)[cntP st P (sz st) + u]? = some (sz st + (u / (cntP st P (l + 1) - cntP st P f)) * (l + 1 - f) + (q - f)) := by
  obtain ⟨o1, o2, o3, o4⟩ := pas_ok hg
  have hm := cntP_mono st P (show f ≤ l + 1 by omega)
  have ha := pas_all hg P
  have e1 := pas_low hg P (Nat.le_refl (sz st))
  have e2 := pas_low hg P (show l + 1 ≤ sz st by omega)
  have e3 := pas_low hg P (show f ≤ sz st by omega)
  have hz : cntP (pas st f l t) P (sz (pas st f l t)) = cntP st P (sz st) + t * (cntP st P (l + 1) - cntP st P f) := by
    have e : ((t * (cntP st P (l + 1) - cntP st P f) : Nat) : Int) = (t : Int) * ((cntP st P (l + 1) : Int) - (cntP st P f : Int)) := by rw [Int.natCast_mul, Int.ofNat_sub hm]
    omega
  obtain ⟨_, _, q, h1, h2, h3, h4⟩ := occ_pa hg pas_at (P := P) (n := cntP st P (sz st) + u) (u := u) (by rw [pas_take, e1]) (by rw [pas_take1, hz]; omega)
  rw [e2, e3] at h1 h4
  rw [pas_take] at h4
  refine ⟨q, ?_, h2, h3, h4⟩
  obtain ⟨k, g1, g2, g3⟩ := occ_get.mp h1
  rw [pas_ex hg (by omega)] at g1
  rw [pas_low hg P (by omega)] at g3
  exact occ_get.mpr ⟨k, g1, g2, g3⟩
theorem pasK_low (hg : Goes most 0 (pas st f l t)) (k : Nat) {p : Nat} (hp : p ≤ sz st) : cnt (pas st f l t) k p = cnt st k p := by
  rw [← cnt_in, ← cnt_in]
  exact pas_low hg _ hp
theorem pasK_cnt (hg : Goes most 0 (pas st f l t)) (k : Nat) {u : Nat} (hu : u ≤ (l + 1 - f) * t) :
    (cnt (pas st f l t) k (sz st + u) : Int) - (cnt (pas st f l t) k (sz st) : Int) = ((u / (l + 1 - f) : Nat) : Int) * ((cnt st k (l + 1) : Int) - (cnt st k f : Int)) + ((cnt st k (f + u % (l + 1 - f)) : Int) - (cnt st k f : Int)) := by
  have h := pas_cnt hg (isIn [k]) hu
  rw [cnt_in, cnt_in, cnt_in, cnt_in, cnt_in] at h
  have e := pasK_low hg k (Nat.le_refl (sz st))
  rw [h, e]
  omega
theorem pasK_all (hg : Goes most 0 (pas st f l t)) (k : Nat) :
    (cnt (pas st f l t) k (sz (pas st f l t)) : Int) - (cnt (pas st f l t) k (sz st) : Int) = (t : Int) * ((cnt st k (l + 1) : Int) - (cnt st k f : Int)) := by
  have h := pas_all hg (isIn [k])
  rw [cnt_in, cnt_in, cnt_in, cnt_in] at h
  have e := pasK_low hg k (Nat.le_refl (sz st))
  rw [h, e]
  omega
/-- ascending lists of the same numbers are one -/
theorem asc_one : ∀ {xs ys : List Int}, xs.Pairwise (· < ·) → ys.Pairwise (· < ·) → (∀ k, k ∈ xs ↔ k ∈ ys) → xs = ys
  | [], [], _, _, _ => rfl
  | [], y :: r, _, _, h => absurd ((h y).mpr List.mem_cons_self) (by simp)
  | x :: r, [], _, _, h => absurd ((h x).mp List.mem_cons_self) (by simp)
  | x :: r, y :: s, hx, hy, h => by
    rw [List.pairwise_cons] at hx hy
    have e : x = y := by
      rcases List.mem_cons.mp ((h x).mp List.mem_cons_self) with e | e
      · exact e
      · rcases List.mem_cons.mp ((h y).mpr List.mem_cons_self) with e2 | e2
        · exact e2.symm
        · have a1 := hx.1 y e2
          have a2 := hy.1 x e
          omega
    subst e
    congr 1
    refine asc_one hx.2 hy.2 fun k => ⟨fun z => ?_, fun z => ?_⟩
    · rcases List.mem_cons.mp ((h k).mp (List.mem_cons_of_mem _ z)) with e | e
      · have := hx.1 k z
        omega
      · exact e
    · rcases List.mem_cons.mp ((h k).mpr (List.mem_cons_of_mem _ z)) with e | e
      · have := hy.1 k z
        omega
      · exact e
theorem occ_asc (st : List Stp) (P : Nat → Bool) : (occ st P).Pairwise (· < ·) := List.Pairwise.filter _ List.pairwise_lt_range
theorem ints_asc {l : List Nat} (h : l.Pairwise (· < ·)) : (l.map fun i : Nat => (i : Int)).Pairwise (· < ·) := List.pairwise_map.mpr (h.imp fun {a b} z => by omega)
theorem cntP_gap (st : List Stp) (P : Nat → Bool) {p q : Nat} (h : p ≤ q) : cntP st P q ≤ cntP st P p + (q - p) := by
  rw [cntP_split st P h]
  have h1 := List.countP_le_length (l := ((ex st).take q).drop p) (p := P)
  rw [List.length_drop, List.length_take] at h1
  omega
/-- a key that stands in a range -/
theorem key_in {st : List Stp} {a b j k : Nat} (h : (ex st)[a + j]? = some k) (hj : a + j ≤ b) : cnt st k a < cnt st k (b + 1) ∧ cnt st k (b + 1) ≤ cnt st k a + (b + 1 - a) ∧ cnt st k (b + 1) ≤ b + 1 := by
  have hkk : isIn [k] k = true := by rw [isIn_one]; exact decide_eq_true rfl
  have f1 := cntP_succ (P := isIn [k]) h
  have f2 := cntP_mono st (isIn [k]) (show a ≤ a + j by omega)
  have f3 := cntP_mono st (isIn [k]) (show a + j + 1 ≤ b + 1 by omega)
  have f4 := cntP_gap st (isIn [k]) (show a ≤ b + 1 by omega)
  have f5 := cntP_le st (isIn [k]) (b + 1)
  rw [if_pos hkk] at f1
  rw [cnt_in, cnt_in] at f1 f2 f3 f4
  rw [cnt_in] at f5
  omega
/-! ### the letters of a range are its places -/
theorem sum_filter (p : Nat → Bool) (g : Nat → Int) (hz : ∀ c, p c = false → g c = 0) : ∀ l : List Nat, ((l.filter p).map g).sum = (l.map g).sum
  | [] => rfl
  | c :: r => by
    have ih := sum_filter p g hz r
    by_cases h : p c = true
    · rw [List.filter_cons, if_pos h, List.map_cons, List.map_cons, List.sum_cons, List.sum_cons, ih]
    · rw [List.filter_cons, if_neg h, List.map_cons, List.sum_cons, ih, hz c (by simpa using h), Int.zero_add]
theorem sum_let1 (st : List Stp) (k : Nat) (h : isLet (ltr st k) = true) : ((List.range' 97 26).map fun c => if lP st c k = true then (1 : Int) else 0).sum = 1 := by
  have e : (fun c => if lP st c k = true then (1 : Int) else 0) = fun c => if ltr st k = c then (1 : Int) else 0 := by
    funext c
    by_cases h : ltr st k = c
    · rw [if_pos h, if_pos (lP_is h)]
    · rw [if_neg h, if_neg (by rw [lP_not h]; exact Bool.false_ne_true)]
  have hc : (List.range' 97 26).count (ltr st k) = 1 := nd_count List.nodup_range' (let_iff.mp h)
  rw [e, sum_ones, hc]
  rfl
theorem sum_lets (st : List Stp) : ∀ E : List Nat, (∀ k ∈ E, isLet (ltr st k) = true) → ((List.range' 97 26).map fun c => (E.countP (lP st c) : Int)).sum = (E.length : Nat)
  | [], _ => by
    have : (fun c => (([] : List Nat).countP (lP st c) : Int)) = fun _ => 0 := by funext c; simp
    rw [this, sum_zero]
    rfl
  | k :: r, h => by
    have e : (fun c => ((k :: r).countP (lP st c) : Int)) = fun c => (r.countP (lP st c) : Int) + if lP st c k = true then 1 else 0 := by
      funext c
      rw [List.countP_cons]
      split <;> simp
    rw [e, sum_add, sum_lets st r (fun x hx => h x (List.mem_cons_of_mem _ hx)), sum_let1 st k (h k List.mem_cons_self), List.length_cons]
    omega
theorem sum_lcD {st : List Stp} {m : Nat} (h : Goes m 0 st) (hlet : (typed st).all isLet = true) {a e : Nat} (hae : a ≤ e) (he : e ≤ sz st) : ((lcD st a e).map (·.2)).sum = (e : Int) - (a : Int) := by
  have h1 : ((lcD st a e).map (·.2)).sum = ((List.range' 97 26).map fun c => (cntP st (lP st c) e : Int) - (cntP st (lP st c) a : Int)).sum := by
    unfold lcD lcs
    rw [List.map_map]
    refine sum_filter _ _ (fun c hc => ?_) _
    have h2 := cntP_mono st (lP st c) hae
    have h3 := of_decide_eq_false hc
    show (cntP st (lP st c) e : Int) - (cntP st (lP st c) a : Int) = 0
    omega
  have hs : ∀ p, p ≤ sz st → ((List.range' 97 26).map fun c => (cntP st (lP st c) p : Int)).sum = (p : Nat) := fun p hp => by
    have h4 := sum_lets st ((ex st).take p) fun k hk => ltr_let hlet (ex_lt st k (List.mem_of_mem_take hk))
    rw [List.length_take, ex_len st h, Nat.min_eq_left hp] at h4
    exact h4
  rw [h1, sum_sub, hs e he, hs a (by omega)]
end Pk
/-! ## Texts written out -/
namespace Pk
def chunk (ls : List Nat) (m : Nat) : List Stp := (List.range m).map fun i => .wr ((ls.drop (20 * i)).take 20)
/-- the same letters without pasting -/
def plainT (ls : List Nat) : List Stp := chunk ls ((ls.length + 19) / 20)
theorem chunk_succ (ls : List Nat) (m : Nat) : chunk ls (m + 1) = chunk ls m ++ [.wr ((ls.drop (20 * m)).take 20)] := by
  unfold chunk
  rw [List.range_succ, List.map_append]
  rfl
theorem chunk_len (ls : List Nat) (m : Nat) : (chunk ls m).length = m := by
  unfold chunk
  rw [List.length_map, List.length_range]
theorem chunk_typed (ls : List Nat) : ∀ m, typed (chunk ls m) = ls.take (20 * m)
  | 0 => by simp [chunk, typed]
  | m + 1 => by
    rw [chunk_succ, typed_app, chunk_typed ls m, Nat.mul_add, Nat.mul_one, List.take_add]
    congr 1
    unfold typed
    rw [List.flatMap_cons, List.flatMap_nil, List.append_nil]
    rfl
theorem chunk_sz (ls : List Nat) : ∀ m, sz (chunk ls m) = (ls.take (20 * m)).length
  | 0 => by simp [chunk, sz]
  | m + 1 => by
    rw [chunk_succ, sz_app, chunk_sz ls m, Nat.mul_add, Nat.mul_one, List.take_add, List.length_append]
    rfl
theorem chunk_goes {ls : List Nat} (hal : ls.all isLet = true) (hm : ls.length ≤ most) : ∀ m, m ≤ (ls.length + 19) / 20 → Goes most 0 (chunk ls m)
  | 0, _ => trivial
  | m + 1, h => by
    rw [chunk_succ]
    have h20 : 20 * m < ls.length := by omega
    have hz := chunk_sz ls m
    rw [List.length_take] at hz
    refine goes_app.mpr ⟨chunk_goes hal hm m (by omega), ?_, ?_, trivial⟩
    · show (decide (1 ≤ ((ls.drop (20 * m)).take 20).length) && decide (((ls.drop (20 * m)).take 20).length ≤ 20) && ((ls.drop (20 * m)).take 20).all isLet) = true
      have hd : 1 ≤ ((ls.drop (20 * m)).take 20).length := by rw [List.length_take, List.length_drop]; omega
      have hd2 : ((ls.drop (20 * m)).take 20).length ≤ 20 := by rw [List.length_take]; omega
      have hd3 : ((ls.drop (20 * m)).take 20).all isLet = true := by
        rw [List.all_eq_true] at hal ⊢
        exact fun x hx => hal x (List.mem_of_mem_drop (List.mem_of_mem_take hx))
      rw [decide_eq_true hd, decide_eq_true hd2, hd3]
      rfl
    · show 0 + sz (chunk ls m) + ((ls.drop (20 * m)).take 20).length ≤ most
      rw [List.length_take, List.length_drop]
      omega
theorem exF_wr (ls : List Nat) : ∀ m (E : List Nat) (n : Nat), True → exF E n (chunk ls m) = E ++ List.range' n (nk (chunk ls m)) := by
  have h : ∀ (st : List Stp) (E : List Nat) (n : Nat), (∀ x ∈ st, ∃ w, x = .wr w) → exF E n st = E ++ List.range' n (nk st) := by
    intro st
    induction st with
    | nil => intro E n _; simp [exF, nk]
    | cons x r ih =>
      intro E n hx
      obtain ⟨w, rfl⟩ := hx x List.mem_cons_self
      show exF (E ++ List.range' n w.length) (n + w.length) r = _
      rw [ih _ _ fun y hy => hx y (List.mem_cons_of_mem _ hy), List.append_assoc]
      congr 1
      have e : nk (.wr w :: r) = w.length + nk r := by simp [nk, Stp.ks]
      rw [e, ← List.range'_append_1]
  intro m E n _
  refine h _ E n fun x hx => ?_
  obtain ⟨i, _, rfl⟩ := List.mem_map.mp hx
  exact ⟨_, rfl⟩
theorem plain_typed (ls : List Nat) : typed (plainT ls) = ls := by
  unfold plainT
  rw [chunk_typed, List.take_of_length_le (by omega)]
theorem plain_nk (ls : List Nat) : nk (plainT ls) = ls.length := by rw [← typed_len, plain_typed]
theorem plain_sz (ls : List Nat) : sz (plainT ls) = ls.length := by
  unfold plainT
  rw [chunk_sz, List.take_of_length_le (by omega)]
theorem plain_goes {ls : List Nat} (hal : ls.all isLet = true) (hm : ls.length ≤ most) : Goes most 0 (plainT ls) := chunk_goes hal hm _ (Nat.le_refl _)
theorem plain_len {ls : List Nat} (h : ls.length ≤ 600) : (plainT ls).length ≤ 30 := by
  unfold plainT
  rw [chunk_len]
  omega
theorem plain_ex (ls : List Nat) : ex (plainT ls) = List.range ls.length := by
  unfold ex
  have h := exF_wr ls ((ls.length + 19) / 20) [] 0 trivial
  have e := plain_nk ls
  unfold plainT at e ⊢
  rw [h, e, List.nil_append, List.range_eq_range']
theorem plain_lts (ls : List Nat) : lts (plainT ls) = ls := by
  unfold lts
  rw [plain_ex]
  refine List.ext_getElem (by simp) fun i h1 h2 => ?_
  simp only [List.getElem_map, List.getElem_range]
  unfold ltr
  rw [plain_typed, List.getD_eq_getElem?_getD, List.getElem?_eq_getElem h2]
  rfl
/-! ### what letters alone tell -/
theorem cntP_lts (st : List Stp) (c p : Nat) : cntP st (lP st c) p = ((lts st).take p).countP (· == c) := by
  unfold cntP lts
  rw [← List.map_take, List.countP_map]
  rfl
theorem cntP_alike {a b : List Stp} (h : lts a = lts b) (c p : Nat) : cntP a (lP a c) p = cntP b (lP b c) p := by rw [cntP_lts, cntP_lts, h]
theorem lcD_alike {a b : List Stp} (h : lts a = lts b) (x y : Nat) : lcD a x y = lcD b x y := by
  unfold lcD lcs
  simp only [cntP_alike h]
theorem occ_alike {a b : List Stp} (h : lts a = lts b) (c : Nat) : occ a (lP a c) = occ b (lP b c) := by
  have hl : (ex a).length = (ex b).length := by rw [← lts_len, ← lts_len, h]
  unfold occ occL
  rw [hl]
  refine List.filter_congr fun p hp => ?_
  rw [List.mem_range] at hp
  have g : ∀ st : List Stp, p < (ex st).length → lP st c ((ex st).getD p 0) = ((lts st)[p]? == some c) := fun st hs => by
    rw [lts_at (List.getElem?_eq_getElem hs), List.getD_eq_getElem?_getD, List.getElem?_eq_getElem hs]
    unfold lP ltr
    simp
  rw [g a (by omega), g b hp, h]
theorem has_alike {a b : List Stp} {m n : Nat} (ha : Goes m 0 a) (hb : Goes n 0 b) (h : lts a = lts b) {c : Nat} (hc : isLet c = true) : c ∈ typed a ↔ c ∈ typed b := by
  have hl : sz a = sz b := by rw [← ex_len a ha, ← ex_len b hb, ← lts_len, ← lts_len, h]
  rw [let_counted ha hc, let_counted hb hc, hl, cntP_alike h]
/-! ### the first place that isn't new -/
theorem ord_fst : ∀ {l : List Nat} {p k : Nat}, InOrd 0 l → l.take p = List.range p → l[p]? = some k → k ≤ p := by
  intro l p k h ht hk
  have h1 := (ord_at h hk).1
  rw [ht, List.range_eq_range', (ord_range p 0).2] at h1
  omega
theorem pre_range {l : List Nat} {p : Nat} (hp : p ≤ l.length) (hq : ∀ q, q < p → l.getD q 0 = q) : l.take p = List.range p := by
  refine List.ext_getElem (by simp; omega) fun i h1 h2 => ?_
  simp only [List.length_range] at h2
  have := hq i h2
  rw [List.getD_eq_getElem?_getD, List.getElem?_eq_getElem (by omega)] at this
  simpa using this
/-- places whose number isn't theirs; the first of them is the first key that stood before -/
theorem fst_due {l : List Nat} (h : InOrd 0 l) : ((List.range l.length).filter fun p => decide (l.getD p 0 ∈ l.take p)).head? = ((List.range l.length).filter fun p => decide (l.getD p 0 ≠ p)).head? ∧
    ((List.range l.length).filter fun p => decide (l.getD p 0 ≠ p)).head? = ((List.range l.length).find? fun p => decide (l.getD p 0 ≠ p)) := by
  have hf : ∀ (P : Nat → Bool), ((List.range l.length).filter P).head? = (List.range l.length).find? P := fun P => List.head?_filter
  rw [hf, hf]
  refine ⟨?_, rfl⟩
  have pre : ∀ p, p ≤ l.length → (∀ q, q < p → l.getD q 0 = q) → l.take p = List.range p := fun p hp hq => by
    refine List.ext_getElem (by simp; omega) fun i h1 h2 => ?_
    simp only [List.length_range] at h2
    have := hq i h2
    rw [List.getD_eq_getElem?_getD, List.getElem?_eq_getElem (by omega)] at this
    simpa using this
  cases hd : (List.range l.length).find? fun p => decide (l.getD p 0 ≠ p) with
  | none =>
    rw [List.find?_eq_none] at hd ⊢
    intro p hp
    rw [List.mem_range] at hp
    have hall : ∀ q, q < l.length → l.getD q 0 = q := fun q hq => by
      have := hd q (List.mem_range.mpr hq)
      simpa using this
    rw [pre p (by omega) fun q hq => hall q (by omega), hall p hp, decide_eq_true_eq, List.mem_range]
    omega
  | some p =>
    obtain ⟨h1, h2, h3⟩ := List.find?_range_eq_some.mp hd
    rw [List.mem_range] at h2
    have hq : ∀ q, q < p → l.getD q 0 = q := fun q hq => by
      have := h3 q hq
      simpa using this
    have ht := pre p (by omega) hq
    have hk : l[p]? = some (l.getD p 0) := by
      rw [List.getD_eq_getElem?_getD, List.getElem?_eq_getElem h2]
      rfl
    have hle := ord_fst h ht hk
    have hne := of_decide_eq_true h1
    rw [List.find?_range_eq_some]
    refine ⟨?_, List.mem_range.mpr h2, fun j hj => ?_⟩
    · rw [ht, decide_eq_true_eq, List.mem_range]
      omega
    · rw [pre j (by omega) fun q hq2 => hq q (by omega), hq j hj]
      simp
end Pk
namespace KL
open PySem PySem.Spec PyProof.Rows L2 Pk He
def top (i : Nat) : Stmt := PySem.Challenge.pw_pastekeys_k43_undo_and_redo.main.body.getD i (.Pass ⟨0, 0, 0, 0⟩)
abbrev Df (K : Fr) (x q : Str) (st : Stmt) (f : Addr) : Prop := ∃ fd, FunD K x q (defArgs st) (defBody st) (defScope st) [] [] f fd
abbrev CS (K : Fr) : Addr := ga K "Span"
abbrev CT (K : Fr) : Addr := ga K "Text"
structure Tc (w : World) (K : Fr) (mg : Str → Option Value) : Prop where
  isi : mg "isinstance" = none
  int : mg "int" = none
  bool : mg "bool" = none
  str : mg "str" = none
  tup : mg "tuple" = none
  lst : mg "list" = none
  len : mg "len" = none
  all : mg "all" = none
  rng : mg "range" = none
  enu : mg "enumerate" = none
  zip : mg "zip" = none
  min : mg "min" = none
  max : mg "max" = none
  dm : mg "divmod" = none
  ValueError : mg "ValueError" = none
  TypeError : mg "TypeError" = none
  super : mg "super" = none
  NotImplemented : mg "NotImplemented" = none
  letters : ∃ t, mg "LETTERS" = some (.str "abcdefghijklmnopqrstuvwxyz" t)
  longest : ∃ t, mg "LONGEST_WORD" = some (.int 20 t)
  mostSteps : ∃ t, mg "MOST_STEPS" = some (.int 30 t)
  mostTimes : ∃ t, mg "MOST_TIMES" = some (.int 1000000000 t)
  g_LENGTHS : mg "LENGTHS" = some (.ref (ga K "LENGTHS"))
  k_LENGTHS : KInts K w (ga K "LENGTHS") [("write", 2), ("paste", 4), ("retype", 3)]
  gIsNumber : mg "is_number" = some (.ref (ga K "is_number"))
  gIsLetter : mg "is_letter" = some (.ref (ga K "is_letter"))
  gIsWord : mg "is_word" = some (.ref (ga K "is_word"))
  gCounts : mg "key_counts" = some (.ref (ga K "key_counts"))
  gAddW : mg "_add_weight" = some (.ref (ga K "_add_weight"))
  gLeave : mg "_leave_pasted" = some (.ref (ga K "_leave_pasted"))
  gCheckRange : mg "_check_range" = some (.ref (ga K "_check_range"))
  gIsStep : mg "is_step" = some (.ref (ga K "is_step"))
  gSpanOf : mg "span_of" = some (.ref (ga K "span_of"))
  gSpansOf : mg "spans_of" = some (.ref (ga K "spans_of"))
  gKeyAt : mg "key_at" = some (.ref (ga K "key_at"))
  gMoved : mg "moved_step" = some (.ref (ga K "moved_step"))
  g_check_operations : mg "check_operations" = some (.ref (ga K "check_operations"))
  g_is_operation : mg "is_operation" = some (.ref (ga K "is_operation"))
  g_executed : mg "executed" = some (.ref (ga K "executed"))
  g_with_place_retyped : mg "_with_place_retyped" = some (.ref (ga K "_with_place_retyped"))
  g_law_dice : mg "_law_dice" = some (.ref (ga K "_law_dice"))
  g_law_next : mg "_law_next" = some (.ref (ga K "_law_next"))
  g_law_like : mg "_law_like" = some (.ref (ga K "_law_like"))
  g_law_pick : mg "_law_pick" = some (.ref (ga K "_law_pick"))
  g_law_told : mg "_law_told" = some (.ref (ga K "_law_told"))
  gWord : mg "_law_word" = some (.ref (ga K "_law_word"))
  g_law_drawn : mg "_law_drawn" = some (.ref (ga K "_law_drawn"))
  gSteps : mg "_law_steps" = some (.ref (ga K "_law_steps"))
  gKeys : mg "_law_keys" = some (.ref (ga K "_law_keys"))
  g_law_is_step : mg "_law_is_step" = some (.ref (ga K "_law_is_step"))
  g_law_after : mg "_law_after" = some (.ref (ga K "_law_after"))
  g_law_deed : mg "_law_deed" = some (.ref (ga K "_law_deed"))
  g_law_act : mg "_law_act" = some (.ref (ga K "_law_act"))
  g_law : mg "law" = some (.ref (ga K "law"))
  g_TextError : mg "TextError" = some (.ref (ga K "TextError"))
  g_InvalidStep : mg "InvalidStep" = some (.ref (ga K "InvalidStep"))
  g_TooLong : mg "TooLong" = some (.ref (ga K "TooLong"))
  g_InvalidPlace : mg "InvalidPlace" = some (.ref (ga K "InvalidPlace"))
  g_InvalidKey : mg "InvalidKey" = some (.ref (ga K "InvalidKey"))
  g_InvalidLetter : mg "InvalidLetter" = some (.ref (ga K "InvalidLetter"))
  g_InvalidNumber : mg "InvalidNumber" = some (.ref (ga K "InvalidNumber"))
  g_AlreadyOpen : mg "AlreadyOpen" = some (.ref (ga K "AlreadyOpen"))
  g_InvalidOperation : mg "InvalidOperation" = some (.ref (ga K "InvalidOperation"))
  g_Contradiction : mg "Contradiction" = some (.ref (ga K "Contradiction"))
  g_NotationError : mg "NotationError" = some (.ref (ga K "NotationError"))
  g_InvalidCount : mg "InvalidCount" = some (.ref (ga K "InvalidCount"))
  g_DecodeError : mg "DecodeError" = some (.ref (ga K "DecodeError"))
  gSpan : mg "Span" = some (.ref (ga K "Span"))
  clS : Cls K (ga K "Span")
  mkS : Mk K (ga K "Span") (ma K (ga K "Span") "__init__")
  nS1 : NoAttr K (ga K "Span") "begin"
  nS2 : NoAttr K (ga K "Span") "end"
  nS3 : NoAttr K (ga K "Span") "key"
  nS4 : NoAttr K (ga K "Span") "source"
  nS5 : NoAttr K (ga K "Span") "width"
  gText : mg "Text" = some (.ref (ga K "Text"))
  clT : Cls K (ga K "Text")
  mkT : Mk K (ga K "Text") (ma K (ga K "Text") "__init__")
  nT1 : NoAttr K (ga K "Text") "_steps"
  nT2 : NoAttr K (ga K "Text") "spans"
  nT3 : NoAttr K (ga K "Text") "_size"
  nT4 : NoAttr K (ga K "Text") "_typed"
  cmOf : ClX.CMet K (ga K "Text") (.type "type") "of_steps" (ma K (ga K "Text") "of_steps") (He5.wf K (ga K "Text") "classmethod" "of_steps")
  pSteps : PropOf K (ga K "Text") "steps" (ma K (ga K "Text") "steps") (pgA K (ga K "Text") "steps")
  pTyped : PropOf K (ga K "Text") "typed_keys" (ma K (ga K "Text") "typed_keys") (pgA K (ga K "Text") "typed_keys")
  pSize : PropOf K (ga K "Text") "size" (ma K (ga K "Text") "size") (pgA K (ga K "Text") "size")
  callO : StX.CallO K (ga K "Text") (ma K (ga K "Text") "__call__")
  oGet : OpF K (ga K "Text") "__getitem__" (ma K (ga K "Text") "__getitem__")
  mCheck : Meth K (ga K "Text") "_check_place" (ma K (ga K "Text") "_check_place")
  o_Text_iter : OpF K (ga K "Text") "__iter__" (ma K (ga K "Text") "__iter__")
  oHas : OpF K (ga K "Text") "__contains__" (ma K (ga K "Text") "__contains__")
  oEq : OpF K (ga K "Text") "__eq__" (ma K (ga K "Text") "__eq__")
  oAdd : OpF K (ga K "Text") "__add__" (ma K (ga K "Text") "__add__")
  oMul : OpF K (ga K "Text") "__mul__" (ma K (ga K "Text") "__mul__")
  mRet : Meth K (ga K "Text") "retyped" (ma K (ga K "Text") "retyped")
  mWith : Meth K (ga K "Text") "with_letters" (ma K (ga K "Text") "with_letters")
  maxSize : ∃ t, ClX.CVal K (ga K "Text") (.type "type") "MAX_SIZE" (.int 1000000000000000000) (.int 1000000000000000000 t)
  rd : ClX.CRead K (ga K "Text") (.type "type")
  g_Log : mg "Log" = some (.ref (ga K "Log"))
  clLog : Cls K (ga K "Log")
  mkLog : Mk K (ga K "Log") (ma K (ga K "Log") "__init__")
  n_Log_texts : NoAttr K (ga K "Log") "texts"
  n_Log_operations : NoAttr K (ga K "Log") "operations"
  n_Log_done : NoAttr K (ga K "Log") "done"
  m_Log_moved : Meth K (ga K "Log") "moved" (ma K (ga K "Log") "moved")
  m_Log_after : Meth K (ga K "Log") "after" (ma K (ga K "Log") "after")
  g_Editor : mg "Editor" = some (.ref (ga K "Editor"))
  clEditor : Cls K (ga K "Editor")
  mkEditor : Mk K (ga K "Editor") (ma K (ga K "Editor") "__init__")
  n_Editor_log : NoAttr K (ga K "Editor") "_log"
  n_Editor_kept : NoAttr K (ga K "Editor") "_kept"
  cm_Editor_replay : ClX.CMet K (ga K "Editor") (.type "type") "replay" (ma K (ga K "Editor") "replay") (He5.wf K (ga K "Editor") "classmethod" "replay")
  p_Editor_present_text : PropOf K (ga K "Editor") "present_text" (ma K (ga K "Editor") "present_text") (pgA K (ga K "Editor") "present_text")
  p_Editor_history : PropOf K (ga K "Editor") "history" (ma K (ga K "Editor") "history") (pgA K (ga K "Editor") "history")
  o_Editor_len : OpF K (ga K "Editor") "__len__" (ma K (ga K "Editor") "__len__")
  m_Editor_write : Meth K (ga K "Editor") "write" (ma K (ga K "Editor") "write")
  m_Editor_paste : Meth K (ga K "Editor") "paste" (ma K (ga K "Editor") "paste")
  m_Editor_retype : Meth K (ga K "Editor") "retype" (ma K (ga K "Editor") "retype")
  m_Editor_execute : Meth K (ga K "Editor") "_execute" (ma K (ga K "Editor") "_execute")
  m_Editor_undo : Meth K (ga K "Editor") "undo" (ma K (ga K "Editor") "undo")
  m_Editor_redo : Meth K (ga K "Editor") "redo" (ma K (ga K "Editor") "redo")
  m_Editor_apply : Meth K (ga K "Editor") "apply" (ma K (ga K "Editor") "apply")
  bm_Editor_apply : BMeth K (ga K "Editor") "apply" (ma K (ga K "Editor") "apply")
  o_Editor_enter : OpF K (ga K "Editor") "__enter__" (ma K (ga K "Editor") "__enter__")
  o_Editor_exit : OpF K (ga K "Editor") "__exit__" (ma K (ga K "Editor") "__exit__")
  rd_Editor : ClX.CRead K (ga K "Editor") (.type "type")
  ne_Span_Text : ga K "Span" ≠ ga K "Text"
  ne_Span_Log : ga K "Span" ≠ ga K "Log"
  ne_Span_Editor : ga K "Span" ≠ ga K "Editor"
  ne_Text_Log : ga K "Text" ≠ ga K "Log"
  ne_Text_Editor : ga K "Text" ≠ ga K "Editor"
  ne_Log_Editor : ga K "Log" ≠ ga K "Editor"
  tMul : OpT K (ga K "Text") "mul" "int"
  first : PySem.W.selfFirst K (ga K "Text") = true
  insT : C8.InsC K (ga K "Text")
  csct : ga K "Span" ≠ ga K "Text"
  subT : PySem.W.subIn K (.type "tuple") (.ref (ga K "Text")) = some false
  neT : PySem.W.findIn K (.ref (ga K "Text")) "__ne__" = some (some (.builtin "object.__ne__"))
  tupT : PySem.W.kitOne K (.type "tuple") (.ref (ga K "Text")) = some false
abbrev sIsNumber : Stmt := top 18
abbrev sIsLetter : Stmt := top 19
abbrev sIsWord : Stmt := top 20
abbrev sCounts : Stmt := top 22
abbrev sAddW : Stmt := top 23
abbrev sLeave : Stmt := top 24
abbrev sCheckRange : Stmt := top 25
abbrev sIsStep : Stmt := top 30
abbrev sSpanOf : Stmt := top 31
abbrev sSpansOf : Stmt := top 32
abbrev sKeyAt : Stmt := top 33
abbrev sMoved : Stmt := top 34
abbrev s_check_operations : Stmt := top 40
abbrev s_is_operation : Stmt := top 41
abbrev s_executed : Stmt := top 42
abbrev s_with_place_retyped : Stmt := top 43
abbrev s_law_dice : Stmt := top 47
abbrev s_law_next : Stmt := top 48
abbrev s_law_like : Stmt := top 49
abbrev s_law_pick : Stmt := top 50
abbrev s_law_told : Stmt := top 51
abbrev sWord : Stmt := top 52
abbrev s_law_drawn : Stmt := top 53
abbrev sSteps : Stmt := top 54
abbrev sKeys : Stmt := top 55
abbrev s_law_is_step : Stmt := top 56
abbrev s_law_after : Stmt := top 57
abbrev s_law_deed : Stmt := top 58
abbrev s_law_act : Stmt := top 59
abbrev sLaw : Stmt := top 60
abbrev s_InvalidStep_init : Stmt := inClass (top 3) 0
abbrev s_InvalidOperation_init : Stmt := inClass (top 10) 0
abbrev s_NotationError_init : Stmt := inClass (top 12) 0
abbrev s_DecodeError_init : Stmt := inClass (top 14) 0
abbrev sSpanInit : Stmt := inClass (top 29) 0
abbrev sInit : Stmt := inClass (top 36) 1
abbrev sOf : Stmt := inClass (top 36) 3
abbrev sStepsP : Stmt := inClass (top 36) 4
abbrev sTyped : Stmt := inClass (top 36) 5
abbrev sSize : Stmt := inClass (top 36) 6
abbrev sCall : Stmt := inClass (top 36) 7
abbrev sGet : Stmt := inClass (top 36) 8
abbrev sCheck : Stmt := inClass (top 36) 9
abbrev s_Text_iter : Stmt := inClass (top 36) 10
abbrev sHas : Stmt := inClass (top 36) 11
abbrev sEq : Stmt := inClass (top 36) 12
abbrev sAdd : Stmt := inClass (top 36) 13
abbrev sMul : Stmt := inClass (top 36) 14
abbrev sRet : Stmt := inClass (top 36) 15
abbrev sWith : Stmt := inClass (top 36) 16
abbrev s_Log_init : Stmt := inClass (top 39) 0
abbrev s_Log_moved : Stmt := inClass (top 39) 1
abbrev s_Log_after : Stmt := inClass (top 39) 2
abbrev s_Editor_init : Stmt := inClass (top 45) 0
abbrev s_Editor_replay : Stmt := inClass (top 45) 1
abbrev s_Editor_present_text : Stmt := inClass (top 45) 2
abbrev s_Editor_history : Stmt := inClass (top 45) 3
abbrev s_Editor_len : Stmt := inClass (top 45) 4
abbrev s_Editor_write : Stmt := inClass (top 45) 5
abbrev s_Editor_paste : Stmt := inClass (top 45) 6
abbrev s_Editor_retype : Stmt := inClass (top 45) 7
abbrev s_Editor_execute : Stmt := inClass (top 45) 8
abbrev s_Editor_undo : Stmt := inClass (top 45) 9
abbrev s_Editor_redo : Stmt := inClass (top 45) 10
abbrev s_Editor_apply : Stmt := inClass (top 45) 11
abbrev s_Editor_enter : Stmt := inClass (top 45) 14
abbrev s_Editor_exit : Stmt := inClass (top 45) 15
theorem sc_is_number : FnScope ["value", "low", "high"] ["value", "low", "high"] (defScope sIsNumber) := ⟨rfl, rfl, rfl, by decide +kernel, rfl, by decide +kernel, by decide +kernel⟩
theorem sc_is_letter : FnScope ["value"] ["value"] (defScope sIsLetter) := ⟨rfl, rfl, rfl, by decide +kernel, rfl, by decide +kernel, by decide +kernel⟩
theorem sc_is_word : FnScope ["value", "sign"] ["value"] (defScope sIsWord) := ⟨rfl, rfl, rfl, by decide +kernel, rfl, by decide +kernel, by decide +kernel⟩
theorem sc_key_counts : FnScope ["text", "first", "last", "counts", "weights", "span", "within", "place", "weight", "key", "bound"] ["text", "first", "last"] (defScope sCounts) := ⟨rfl, rfl, rfl, by decide +kernel, rfl, by decide +kernel, by decide +kernel⟩
theorem sc_add_weight : FnScope ["weights", "place", "weight"] ["weights", "place", "weight"] (defScope sAddW) := ⟨rfl, rfl, rfl, by decide +kernel, rfl, by decide +kernel, by decide +kernel⟩
theorem sc_leave_pasted : FnScope ["weights", "span", "place", "weight", "copies", "rest"] ["weights", "span", "place", "weight"] (defScope sLeave) := ⟨rfl, rfl, rfl, by decide +kernel, rfl, by decide +kernel, by decide +kernel⟩
theorem sc_check_range : FnScope ["text", "first", "last"] ["text", "first", "last"] (defScope sCheckRange) := ⟨rfl, rfl, rfl, by decide +kernel, rfl, by decide +kernel, by decide +kernel⟩
theorem sc_is_step : FnScope ["value", "size", "first", "last", "times"] ["value", "size"] (defScope sIsStep) := ⟨rfl, rfl, rfl, by decide +kernel, rfl, by decide +kernel, by decide +kernel⟩
theorem sc_span_of : FnScope ["step", "begin", "key", "width"] ["step", "begin", "key"] (defScope sSpanOf) := ⟨rfl, rfl, rfl, by decide +kernel, rfl, by decide +kernel, by decide +kernel⟩
theorem sc_spans_of : FnScope ["steps", "max_size", "spans", "size", "key", "index", "step", "span"] ["steps", "max_size"] (defScope sSpansOf) := ⟨rfl, rfl, rfl, by decide +kernel, rfl, by decide +kernel, by decide +kernel⟩
theorem sc_key_at : FnScope ["spans", "place", "at", "_", "rest"] ["spans", "place"] (defScope sKeyAt) := ⟨rfl, rfl, rfl, by decide +kernel, rfl, by decide +kernel, by decide +kernel⟩
theorem sc_moved_step : FnScope ["step", "shift"] ["step", "shift"] (defScope sMoved) := ⟨rfl, rfl, rfl, by decide +kernel, rfl, by decide +kernel, by decide +kernel⟩
theorem sc_check_operations : FnScope ["values", "index", "value"] ["values"] (defScope s_check_operations) := ⟨rfl, rfl, rfl, by decide +kernel, rfl, by decide +kernel, by decide +kernel⟩
theorem sc_is_operation : FnScope ["value"] ["value"] (defScope s_is_operation) := ⟨rfl, rfl, rfl, by decide +kernel, rfl, by decide +kernel, by decide +kernel⟩
theorem sc_executed : FnScope ["text", "operation", "longer"] ["text", "operation"] (defScope s_executed) := ⟨rfl, rfl, rfl, by decide +kernel, rfl, by decide +kernel, by decide +kernel⟩
theorem sc_with_place_retyped : FnScope ["text", "place", "letter", "key", "changed"] ["text", "place", "letter"] (defScope s_with_place_retyped) := ⟨rfl, rfl, rfl, by decide +kernel, rfl, by decide +kernel, by decide +kernel⟩
theorem sc_law_dice : FnScope ["_law_script", "_law_mixed", "_law_cell"] ["_law_script"] (defScope s_law_dice) := ⟨rfl, rfl, rfl, by decide +kernel, rfl, by decide +kernel, by decide +kernel⟩
theorem sc_law_next : FnScope ["_law_dice_here", "_law_many", "_law_found", "_law_cell"] ["_law_dice_here", "_law_many"] (defScope s_law_next) := ⟨rfl, rfl, rfl, by decide +kernel, rfl, by decide +kernel, by decide +kernel⟩
theorem sc_law_like : FnScope ["_law_found", "_law_due", "_law_k"] ["_law_found", "_law_due"] (defScope s_law_like) := ⟨rfl, rfl, rfl, by decide +kernel, rfl, by decide +kernel, by decide +kernel⟩
theorem sc_law_pick : FnScope ["_law_d", "_law_some"] ["_law_d", "_law_some"] (defScope s_law_pick) := ⟨rfl, rfl, rfl, by decide +kernel, rfl, by decide +kernel, by decide +kernel⟩
theorem sc_law_told : FnScope ["_law_work", "e", "_law_some", "_law_terms", "_law_k"] ["_law_work"] (defScope s_law_told) := ⟨rfl, rfl, rfl, by decide +kernel, rfl, by decide +kernel, by decide +kernel⟩
theorem sc_law_word : FnScope ["_law_d", "_law_k"] ["_law_d"] (defScope sWord) := ⟨rfl, rfl, rfl, by decide +kernel, rfl, by decide +kernel, by decide +kernel⟩
theorem sc_law_drawn : FnScope ["_law_d", "_law_total", "_law_most", "_law_word_here", "_law_first", "_law_last", "_law_times"] ["_law_d", "_law_total", "_law_most"] (defScope s_law_drawn) := ⟨rfl, rfl, rfl, by decide +kernel, rfl, by decide +kernel, by decide +kernel⟩
theorem sc_law_steps : FnScope ["_law_d", "_law_count", "_law_most", "_law_steps_here", "_law_total", "_law_k", "_law_step"] ["_law_d", "_law_count", "_law_most"] (defScope sSteps) := ⟨rfl, rfl, rfl, by decide +kernel, rfl, by decide +kernel, by decide +kernel⟩
theorem sc_law_keys : FnScope ["_law_steps_here", "_law_typed", "_law_row", "_law_step", "_law_k"] ["_law_steps_here"] (defScope sKeys) := ⟨rfl, rfl, rfl, by decide +kernel, rfl, by decide +kernel, by decide +kernel⟩
theorem sc_law_is_step : FnScope ["_law_step", "_law_total", "_law_word_here", "_law_good", "_law_number", "_law_c"] ["_law_step", "_law_total"] (defScope s_law_is_step) := ⟨rfl, rfl, rfl, by decide +kernel, rfl, by decide +kernel, by decide +kernel⟩
theorem sc_law_after : FnScope ["_law_steps_here", "_law_operation", "_law_typed", "_law_row", "_law_later", "_law_place", "_law_letter", "_law_before", "_law_step", "_law_word_here", "_law_at"] ["_law_steps_here", "_law_operation"] (defScope s_law_after) := ⟨rfl, rfl, rfl, by decide +kernel, rfl, by decide +kernel, by decide +kernel⟩
theorem sc_law_deed : FnScope ["_law_d", "_law_steps_here", "_law_odd", "_law_size", "_law_pick_here", "_law_places", "_law_bad"] ["_law_d", "_law_steps_here", "_law_odd"] (defScope s_law_deed) := ⟨rfl, rfl, rfl, by decide +kernel, rfl, by decide +kernel, by decide +kernel⟩
theorem sc_law_act : FnScope ["_law_editor", "_law_operation"] ["_law_editor", "_law_operation"] (defScope s_law_act) := ⟨rfl, rfl, rfl, by decide +kernel, rfl, by decide +kernel, by decide +kernel⟩
theorem sc_law : FnScope ["_law_script", "_law_d", "_law_start", "_law_rows", "_law_k", "_law_done", "_law_turn", "_law_pick_here", "_law_due", "_law_later", "_law_back", "_law_again", "_law_editor", "_law_operation", "_law_step"] ["_law_script"] (defScope sLaw) := ⟨rfl, rfl, rfl, by decide +kernel, rfl, by decide +kernel, by decide +kernel⟩
theorem sc_Span_init : FnScope ["self", "begin", "end", "key", "source", "width"] ["self", "begin", "end", "key", "source", "width"] (defScope sSpanInit) := ⟨rfl, rfl, rfl, by decide +kernel, rfl, by decide +kernel, by decide +kernel⟩
theorem sc_Text_init : FnScope ["self", "steps", "step"] ["self", "steps"] (defScope sInit) := ⟨rfl, rfl, rfl, by decide +kernel, rfl, by decide +kernel, by decide +kernel⟩
theorem sc_Text_of_steps : FnScope ["cls", "steps"] ["cls", "steps"] (defScope sOf) := ⟨rfl, rfl, rfl, by decide +kernel, rfl, by decide +kernel, by decide +kernel⟩
theorem sc_Text_steps : FnScope ["self"] ["self"] (defScope sStepsP) := ⟨rfl, rfl, rfl, by decide +kernel, rfl, by decide +kernel, by decide +kernel⟩
theorem sc_Text_typed_keys : FnScope ["self"] ["self"] (defScope sTyped) := ⟨rfl, rfl, rfl, by decide +kernel, rfl, by decide +kernel, by decide +kernel⟩
theorem sc_Text_size : FnScope ["self"] ["self"] (defScope sSize) := ⟨rfl, rfl, rfl, by decide +kernel, rfl, by decide +kernel, by decide +kernel⟩
theorem sc_Text_call : FnScope ["self", "place"] ["self", "place"] (defScope sCall) := ⟨rfl, rfl, rfl, by decide +kernel, rfl, by decide +kernel, by decide +kernel⟩
theorem sc_Text_getitem : FnScope ["self", "at"] ["self", "at"] (defScope sGet) := ⟨rfl, rfl, rfl, by decide +kernel, rfl, by decide +kernel, by decide +kernel⟩
theorem sc_Text_check_place : FnScope ["self", "place"] ["self", "place"] (defScope sCheck) := ⟨rfl, rfl, rfl, by decide +kernel, rfl, by decide +kernel, by decide +kernel⟩
theorem sc_Text_iter : FnScope ["self"] ["self"] (defScope s_Text_iter) := ⟨rfl, rfl, rfl, by decide +kernel, rfl, by decide +kernel, by decide +kernel⟩
theorem sc_Text_contains : FnScope ["self", "x"] ["self", "x"] (defScope sHas) := ⟨rfl, rfl, rfl, by decide +kernel, rfl, by decide +kernel, by decide +kernel⟩
theorem sc_Text_eq : FnScope ["self", "other"] ["self", "other"] (defScope sEq) := ⟨rfl, rfl, rfl, by decide +kernel, rfl, by decide +kernel, by decide +kernel⟩
theorem sc_Text_add : FnScope ["self", "other", "moved", "steps", "step"] ["self", "other"] (defScope sAdd) := ⟨rfl, rfl, rfl, by decide +kernel, rfl, by decide +kernel, by decide +kernel⟩
theorem sc_Text_mul : FnScope ["self", "other", "steps"] ["self", "other"] (defScope sMul) := ⟨rfl, rfl, rfl, by decide +kernel, rfl, by decide +kernel, by decide +kernel⟩
theorem sc_Text_retyped : FnScope ["self", "key", "letter"] ["self", "key", "letter"] (defScope sRet) := ⟨rfl, rfl, rfl, by decide +kernel, rfl, by decide +kernel, by decide +kernel⟩
theorem sc_Text_with_letters : FnScope ["self", "letters", "steps", "step", "span"] ["self", "letters"] (defScope sWith) := ⟨rfl, rfl, rfl, by decide +kernel, rfl, by decide +kernel, by decide +kernel⟩
theorem sc_Log_init : FnScope ["self", "texts", "operations", "done"] ["self", "texts", "operations", "done"] (defScope s_Log_init) := ⟨rfl, rfl, rfl, by decide +kernel, rfl, by decide +kernel, by decide +kernel⟩
theorem sc_Log_moved : FnScope ["self", "shift"] ["self", "shift"] (defScope s_Log_moved) := ⟨rfl, rfl, rfl, by decide +kernel, rfl, by decide +kernel, by decide +kernel⟩
theorem sc_Log_after : FnScope ["self", "added", "texts", "results", "operation", "text", "result", "operations"] ["self", "added"] (defScope s_Log_after) := ⟨rfl, rfl, rfl, by decide +kernel, rfl, by decide +kernel, by decide +kernel⟩
theorem sc_Editor_init : FnScope ["self", "steps"] ["self", "steps"] (defScope s_Editor_init) := ⟨rfl, rfl, rfl, by decide +kernel, rfl, by decide +kernel, by decide +kernel⟩
theorem sc_Editor_replay : FnScope ["cls", "steps", "operations", "editor"] ["cls", "steps", "operations"] (defScope s_Editor_replay) := ⟨rfl, rfl, rfl, by decide +kernel, rfl, by decide +kernel, by decide +kernel⟩
theorem sc_Editor_present_text : FnScope ["self"] ["self"] (defScope s_Editor_present_text) := ⟨rfl, rfl, rfl, by decide +kernel, rfl, by decide +kernel, by decide +kernel⟩
theorem sc_Editor_history : FnScope ["self"] ["self"] (defScope s_Editor_history) := ⟨rfl, rfl, rfl, by decide +kernel, rfl, by decide +kernel, by decide +kernel⟩
theorem sc_Editor_len : FnScope ["self"] ["self"] (defScope s_Editor_len) := ⟨rfl, rfl, rfl, by decide +kernel, rfl, by decide +kernel, by decide +kernel⟩
theorem sc_Editor_write : FnScope ["self", "word"] ["self", "word"] (defScope s_Editor_write) := ⟨rfl, rfl, rfl, by decide +kernel, rfl, by decide +kernel, by decide +kernel⟩
theorem sc_Editor_paste : FnScope ["self", "first", "last", "times"] ["self", "first", "last", "times"] (defScope s_Editor_paste) := ⟨rfl, rfl, rfl, by decide +kernel, rfl, by decide +kernel, by decide +kernel⟩
theorem sc_Editor_retype : FnScope ["self", "place", "letter"] ["self", "place", "letter"] (defScope s_Editor_retype) := ⟨rfl, rfl, rfl, by decide +kernel, rfl, by decide +kernel, by decide +kernel⟩
theorem sc_Editor_execute : FnScope ["self", "operation", "results"] ["self", "operation"] (defScope s_Editor_execute) := ⟨rfl, rfl, rfl, by decide +kernel, rfl, by decide +kernel, by decide +kernel⟩
theorem sc_Editor_undo : FnScope ["self"] ["self"] (defScope s_Editor_undo) := ⟨rfl, rfl, rfl, by decide +kernel, rfl, by decide +kernel, by decide +kernel⟩
theorem sc_Editor_redo : FnScope ["self"] ["self"] (defScope s_Editor_redo) := ⟨rfl, rfl, rfl, by decide +kernel, rfl, by decide +kernel, by decide +kernel⟩
theorem sc_Editor_apply : FnScope ["self", "operations", "results"] ["self", "operations"] (defScope s_Editor_apply) := ⟨rfl, rfl, rfl, by decide +kernel, rfl, by decide +kernel, by decide +kernel⟩
theorem sc_Editor_enter : FnScope ["self"] ["self"] (defScope s_Editor_enter) := ⟨rfl, rfl, rfl, by decide +kernel, rfl, by decide +kernel, by decide +kernel⟩
theorem sc_Editor_exit : FnScope ["self", "kind", "value", "trace"] ["self", "kind", "value", "trace"] (defScope s_Editor_exit) := ⟨rfl, rfl, rfl, by decide +kernel, rfl, by decide +kernel, by decide +kernel⟩
end KL
namespace KL
open PySem PySem.W PySem.Calls PyProof.Rows L2 He He5 Pk
def gD (x : PySem.Str) (st : Stmt) : DefA := { at_ := fun K => ga K x, name := x, qual := x, params := defArgs st, body := defBody st, scope := defScope st }
def mD (C m q : PySem.Str) (st : Stmt) : DefA := { at_ := fun K => ma K (ga K C) m, name := m, qual := q, params := defArgs st, body := defBody st, scope := defScope st }
def pD (C m q : PySem.Str) (st : Stmt) : DefA := { at_ := fun K => pgA K (ga K C) m, name := m, qual := q, params := defArgs st, body := defBody st, scope := defScope st }
def cD (C m q : PySem.Str) (st : Stmt) : DefA := { at_ := fun K => wf K (ga K C) "classmethod" m, name := m, qual := q, params := defArgs st, body := defBody st, scope := defScope st }
def fn : List DefA := [gD "is_number" (top 18),
  gD "is_letter" (top 19),
  gD "is_word" (top 20),
  gD "key_counts" (top 22),
  gD "_add_weight" (top 23),
  gD "_leave_pasted" (top 24),
  gD "_check_range" (top 25),
  gD "is_step" (top 30),
  gD "span_of" (top 31),
  gD "spans_of" (top 32),
  gD "key_at" (top 33),
  gD "check_operations" (top 40),
  gD "is_operation" (top 41),
  gD "executed" (top 42),
  gD "_with_place_retyped" (top 43),
  gD "_law_dice" (top 47),
  gD "_law_next" (top 48),
  gD "_law_like" (top 49),
  gD "_law_pick" (top 50),
  gD "_law_told" (top 51),
  gD "_law_word" (top 52),
  gD "_law_drawn" (top 53),
  gD "_law_steps" (top 54),
  gD "_law_keys" (top 55),
  gD "_law_is_step" (top 56),
  gD "_law_after" (top 57),
  gD "_law_deed" (top 58),
  gD "_law_act" (top 59),
  gD "law" (top 60),
  mD "Span" "__init__" "Span.__init__" (inClass (top 29) 0),
  mD "Text" "__init__" "Text.__init__" (inClass (top 36) 1),
  cD "Text" "of_steps" "Text.of_steps" (inClass (top 36) 3),
  pD "Text" "steps" "Text.steps" (inClass (top 36) 4),
  pD "Text" "typed_keys" "Text.typed_keys" (inClass (top 36) 5),
  pD "Text" "size" "Text.size" (inClass (top 36) 6),
  mD "Text" "__call__" "Text.__call__" (inClass (top 36) 7),
  mD "Text" "_check_place" "Text._check_place" (inClass (top 36) 9),
  mD "Text" "__eq__" "Text.__eq__" (inClass (top 36) 12),
  mD "Text" "retyped" "Text.retyped" (inClass (top 36) 15),
  mD "Text" "with_letters" "Text.with_letters" (inClass (top 36) 16),
  mD "Log" "__init__" "Log.__init__" (inClass (top 39) 0),
  mD "Log" "moved" "Log.moved" (inClass (top 39) 1),
  mD "Log" "after" "Log.after" (inClass (top 39) 2),
  mD "Editor" "__init__" "Editor.__init__" (inClass (top 45) 0),
  cD "Editor" "replay" "Editor.replay" (inClass (top 45) 1),
  pD "Editor" "present_text" "Editor.present_text" (inClass (top 45) 2),
  pD "Editor" "history" "Editor.history" (inClass (top 45) 3),
  mD "Editor" "__len__" "Editor.__len__" (inClass (top 45) 4),
  mD "Editor" "write" "Editor.write" (inClass (top 45) 5),
  mD "Editor" "paste" "Editor.paste" (inClass (top 45) 6),
  mD "Editor" "retype" "Editor.retype" (inClass (top 45) 7),
  mD "Editor" "_execute" "Editor._execute" (inClass (top 45) 8),
  mD "Editor" "undo" "Editor.undo" (inClass (top 45) 9),
  mD "Editor" "redo" "Editor.redo" (inClass (top 45) 10),
  mD "Editor" "apply" "Editor.apply" (inClass (top 45) 11)]
def fa : List Fa := [.free "isinstance",
  .free "int",
  .free "bool",
  .free "str",
  .free "tuple",
  .free "list",
  .free "len",
  .free "all",
  .free "range",
  .free "enumerate",
  .free "zip",
  .free "min",
  .free "max",
  .free "divmod",
  .free "ValueError",
  .free "TypeError",
  .free "super",
  .free "NotImplemented",
  .str "LETTERS" "abcdefghijklmnopqrstuvwxyz",
  .int "LONGEST_WORD" 20,
  .int "MOST_STEPS" 30,
  .int "MOST_TIMES" 1000000000,
  .glo "LENGTHS",
  .glo "is_number",
  .glo "is_letter",
  .glo "is_word",
  .glo "key_counts",
  .glo "_add_weight",
  .glo "_leave_pasted",
  .glo "_check_range",
  .glo "is_step",
  .glo "span_of",
  .glo "spans_of",
  .glo "key_at",
  .glo "moved_step",
  .glo "check_operations",
  .glo "is_operation",
  .glo "executed",
  .glo "_with_place_retyped",
  .glo "_law_dice",
  .glo "_law_next",
  .glo "_law_like",
  .glo "_law_pick",
  .glo "_law_told",
  .glo "_law_word",
  .glo "_law_drawn",
  .glo "_law_steps",
  .glo "_law_keys",
  .glo "_law_is_step",
  .glo "_law_after",
  .glo "_law_deed",
  .glo "_law_act",
  .glo "law",
  .glo "TextError",
  .glo "InvalidStep",
  .glo "TooLong",
  .glo "InvalidPlace",
  .glo "InvalidKey",
  .glo "InvalidLetter",
  .glo "InvalidNumber",
  .glo "AlreadyOpen",
  .glo "InvalidOperation",
  .glo "Contradiction",
  .glo "NotationError",
  .glo "InvalidCount",
  .glo "DecodeError",
  .glo "Span",
  .cls "Span",
  .mkr "Span",
  .noat "Span" "begin",
  .noat "Span" "end",
  .noat "Span" "key",
  .noat "Span" "source",
  .noat "Span" "width",
  .glo "Text",
  .cls "Text",
  .mkr "Text",
  .noat "Text" "_steps",
  .noat "Text" "spans",
  .noat "Text" "_size",
  .noat "Text" "_typed",
  .meth "Text" "_check_place",
  .meth "Text" "retyped",
  .meth "Text" "with_letters",
  .glo "Log",
  .cls "Log",
  .mkr "Log",
  .noat "Log" "texts",
  .noat "Log" "operations",
  .noat "Log" "done",
  .meth "Log" "moved",
  .meth "Log" "after",
  .glo "Editor",
  .cls "Editor",
  .mkr "Editor",
  .noat "Editor" "_log",
  .noat "Editor" "_kept",
  .meth "Editor" "write",
  .meth "Editor" "paste",
  .meth "Editor" "retype",
  .meth "Editor" "_execute",
  .meth "Editor" "undo",
  .meth "Editor" "redo",
  .meth "Editor" "apply"]
def exB (K : Frag) : Bool := (nsIntB K (ga K "LENGTHS") "write" 2) && ((nsIntB K (ga K "LENGTHS") "paste" 4) && ((nsIntB K (ga K "LENGTHS") "retype" 3) && ((cmetB K (ga K "Text") "of_steps") && ((propB K (ga K "Text") "steps") && ((propB K (ga K "Text") "typed_keys") && ((propB K (ga K "Text") "size") && ((opB K (ga K "Text") "__call__") && ((opB K (ga K "Text") "__getitem__") && ((opB K (ga K "Text") "__iter__") && ((opB K (ga K "Text") "__contains__") && ((opB K (ga K "Text") "__eq__") && ((opB K (ga K "Text") "__add__") && ((opB K (ga K "Text") "__mul__") && ((cvalB K (ga K "Text") "MAX_SIZE" 1000000000000000000) && ((creadB K (ga K "Text")) && ((cmetB K (ga K "Editor") "replay") && ((propB K (ga K "Editor") "present_text") && ((propB K (ga K "Editor") "history") && ((opB K (ga K "Editor") "__len__") && ((bmB K (ga K "Editor") "apply") && ((opB K (ga K "Editor") "__enter__") && ((opB K (ga K "Editor") "__exit__") && ((creadB K (ga K "Editor")) && ((decide (ga K "Span" ≠ ga K "Text")) && ((decide (ga K "Span" ≠ ga K "Log")) && ((decide (ga K "Span" ≠ ga K "Editor")) && ((decide (ga K "Text" ≠ ga K "Log")) && ((decide (ga K "Text" ≠ ga K "Editor")) && ((decide (ga K "Log" ≠ ga K "Editor")) && ((opTB K (ga K "Text") "mul" "int") && ((selfFirst K (ga K "Text")) && ((insB K (ga K "Text")) && ((decide (ga K "Span" ≠ ga K "Text")) && ((decide (PySem.W.subIn K (.type "tuple") (.ref (ga K "Text")) = some false)) && ((eqO (PySem.W.findIn K (.ref (ga K "Text")) "__ne__") (some (some (.builtin "object.__ne__")))) && ((insTB K (ga K "Text")) && true))))))))))))))))))))))))))))))))))))
abbrev R : OpenRow := OpenLaw.row PySem.Challenge.rw_pastekeys_k43_undo_and_redo
def ls : List (Frag → Addr) := [fun K => ga K "law"]
def qs : List PySem.Str := ["law.<locals>.<lambda>"]
def ts : List TabQ := [(fun K => ga K "LENGTHS", ["write", "paste", "retype"])]
abbrev hk : PySem.W.Hook := hookS 5 fa fn exB ts ls
def ob (s : SharedT) : AlS := obsSG 5 fa fn exB ts ls (HandSHeadRun.getT s)
theorem ob_eq (s : SharedT) : ob s = hk.obs s.abs := obsSG_eq (HandSHeadRun.getT_eq s)
def loose : List PySem.Str := ("_wall" : PySem.Str) :: ("TextError" : PySem.Str) :: ("InvalidStep" : PySem.Str) :: ("TooLong" : PySem.Str) :: ("InvalidPlace" : PySem.Str) :: ("InvalidKey" : PySem.Str) :: ("InvalidLetter" : PySem.Str) :: ("InvalidNumber" : PySem.Str) :: ("AlreadyOpen" : PySem.Str) :: ("InvalidOperation" : PySem.Str) :: ("Contradiction" : PySem.Str) :: ("NotationError" : PySem.Str) :: ("InvalidCount" : PySem.Str) :: ("DecodeError" : PySem.Str) :: ("LETTERS" : PySem.Str) :: ("LONGEST_WORD" : PySem.Str) :: ("is_number" : PySem.Str) :: ("is_letter" : PySem.Str) :: ("is_word" : PySem.Str) :: ("key_counts" : PySem.Str) :: ("_add_weight" : PySem.Str) :: ("_leave_pasted" : PySem.Str) :: ("_check_range" : PySem.Str) :: ("MOST_STEPS" : PySem.Str) :: ("MOST_TIMES" : PySem.Str) :: ("Span" : PySem.Str) :: ("is_step" : PySem.Str) :: ("span_of" : PySem.Str) :: ("spans_of" : PySem.Str) :: ("key_at" : PySem.Str) :: ("moved_step" : PySem.Str) :: ("Text" : PySem.Str) :: ("LENGTHS" : PySem.Str) :: ("Log" : PySem.Str) :: ("check_operations" : PySem.Str) :: ("is_operation" : PySem.Str) :: ("executed" : PySem.Str) :: ("_with_place_retyped" : PySem.Str) :: ("Editor" : PySem.Str) :: ("_law_dice" : PySem.Str) :: ("_law_next" : PySem.Str) :: ("_law_like" : PySem.Str) :: ("_law_pick" : PySem.Str) :: ("_law_told" : PySem.Str) :: ("_law_word" : PySem.Str) :: ("_law_drawn" : PySem.Str) :: ("_law_steps" : PySem.Str) :: ("_law_keys" : PySem.Str) :: ("_law_is_step" : PySem.Str) :: ("_law_after" : PySem.Str) :: ("_law_deed" : PySem.Str) :: ("_law_act" : PySem.Str) :: []
/-- a world with one answer told -/
def patch (w : World) (b : Bool) : World := { w with params := { w.params with followText := fun row => match decide (row = "special-get-raises") with | true => b | false => w.params.followText row } }
theorem patch_eq (w : World) : patch w (w.params.followText "special-get-raises") = w := by
  obtain ⟨d, p⟩ := w
  have h : (fun row => match decide (row = "special-get-raises") with | true => p.followText "special-get-raises" | false => p.followText row) = p.followText := by
    funext row
    by_cases e : row = "special-get-raises"
    · rw [decide_eq_true e, e]
    · rw [decide_eq_false e]
  show World.mk d { p with followText := fun row => match decide (row = "special-get-raises") with | true => p.followText "special-get-raises" | false => p.followText row } = _
  rw [h]
theorem join3 {α β γ δ : Type} {o : Option α} {f : α → β} {g : α → γ} {h : α → δ} {a : β} {b : γ} {c : δ} (h1 : o.map (fun s => (f s, g s)) = some (a, b)) (h2 : o.map (fun s => h s) = some c) : o.map (fun s => (f s, g s, h s)) = some (a, b, c) := by
  cases o with
  | none => cases h1
  | some x =>
    injection h1 with h1
    injection h2 with h2
    injection h1 with h1 h3
    exact congrArg some (Prod.ext h1 (Prod.ext h3 h2))
theorem joinP {α β γ : Type} {o : Option α} {f : α → β} {g : α → γ} {a : β} {b : γ} (h1 : o.map (fun s => f s) = some a) (h2 : o.map (fun s => g s) = some b) : o.map (fun s => (f s, g s)) = some (a, b) := by
  cases o with
  | none => cases h1
  | some x =>
    injection h1 with h1
    injection h2 with h2
    exact congrArg some (Prod.ext h1 h2)
theorem mapP {α β γ : Type} {o : Option α} {f : α → β} (p : β → γ) {b : β} (h : o.map (fun s => f s) = some b) : o.map (fun s => p (f s)) = some (p b) := by
  cases o with
  | none => cases h
  | some x =>
    injection h with h
    exact congrArg (fun z => some (p z)) h
def obK (s : SharedT) : Frag := frG (HandSHeadRun.getT s) (asA (HandSHeadRun.getT s) 5)
def ob1a (s : SharedT) : Bool := fa.all fun f => f.ok (noT ls (obK s))
def ob1b (s : SharedT) : He.AlD := (fn.all fun d => d.ok (noT ls (obK s)), fn.map fun d => fnA (noT ls (obK s)) (d.at_ (noT ls (obK s))))
def ob2 (s : SharedT) : Bool := exB (noT ls (obK s))
def ob4 (s : SharedT) : List (Option (List (Option (PySem.Str × Int)))) := ts.map fun t => dicW (noT ls (obK s)) (t.1 (noT ls (obK s)))
def ob3 (s : SharedT) : Bool := chkR ls (obK s)
theorem runT1 (w : World) (os : OsState) : (HandSHeadRun.endF (HandSHeadRun.stepQ (HandSHeadRun.denQ HandSHeadRun.tabQ) R.prog (patch w true)) 12000 R.prog (patch w true) os).map (fun s => (HandSHeadRun.looksF R.prog (boot_heap (patch w true).params) s.abs, HandSHeadRun.seenQ (PySem.W.view R.prog [60]) loose (importedModules R.prog.main.body) (fun s => xlAt (PySem.W.view R.prog [60]) [] s && recOk R.toRowW.records s) s.abs)) = some (true, openGood (PySem.W.view R.prog [60]) loose) := by
  kernel_rfl
theorem runTA1 (w : World) (os : OsState) : (HandSHeadRun.endF (HandSHeadRun.stepQ (HandSHeadRun.denQ HandSHeadRun.tabQ) R.prog (patch w true)) 12000 R.prog (patch w true) os).map (fun s => ob1a s) = some true := by
  kernel_rfl
theorem runTA2 (w : World) (os : OsState) : (HandSHeadRun.endF (HandSHeadRun.stepQ (HandSHeadRun.denQ HandSHeadRun.tabQ) R.prog (patch w true)) 12000 R.prog (patch w true) os).map (fun s => ob1b s) = some (true, fn.map DefA.val) := by
  kernel_rfl
theorem runTA (w : World) (os : OsState) : (HandSHeadRun.endF (HandSHeadRun.stepQ (HandSHeadRun.denQ HandSHeadRun.tabQ) R.prog (patch w true)) 12000 R.prog (patch w true) os).map (fun s => (ob1a s && (ob1b s).1, (ob1b s).2)) = some (valA fn) := mapP (f := fun s => (ob1a s, ob1b s)) (fun z => (z.1 && z.2.1, z.2.2)) (joinP (runTA1 w os) (runTA2 w os))
theorem runTB (w : World) (os : OsState) : (HandSHeadRun.endF (HandSHeadRun.stepQ (HandSHeadRun.denQ HandSHeadRun.tabQ) R.prog (patch w true)) 12000 R.prog (patch w true) os).map (fun s => ob2 s) = some true := by
  kernel_rfl
theorem runTC (w : World) (os : OsState) : (HandSHeadRun.endF (HandSHeadRun.stepQ (HandSHeadRun.denQ HandSHeadRun.tabQ) R.prog (patch w true)) 12000 R.prog (patch w true) os).map (fun s => (ob3 s, ob4 s)) = some (true, ts.map (fun t => some (keysIn (patch w true).params t.2))) := by
  kernel_rfl
theorem runT2 (w : World) (os : OsState) : (HandSHeadRun.endF (HandSHeadRun.stepQ (HandSHeadRun.denQ HandSHeadRun.tabQ) R.prog (patch w true)) 12000 R.prog (patch w true) os).map (fun s => ob s) = some (hk.val (patch w true)) := joinP (joinP (joinP (runTA w os) (runTB w os)) (show (HandSHeadRun.endF (HandSHeadRun.stepQ (HandSHeadRun.denQ HandSHeadRun.tabQ) R.prog (patch w true)) 12000 R.prog (patch w true) os).map (fun s => ob3 s) = some (true) from mapP (f := fun s => (ob3 s, ob4 s)) (fun z => z.1) (runTC w os))) (show (HandSHeadRun.endF (HandSHeadRun.stepQ (HandSHeadRun.denQ HandSHeadRun.tabQ) R.prog (patch w true)) 12000 R.prog (patch w true) os).map (fun s => ob4 s) = some (ts.map (fun t => some (keysIn (patch w true).params t.2))) from mapP (f := fun s => (ob3 s, ob4 s)) (fun z => z.2) (runTC w os))
theorem runT (w : World) : HandSHeadRun.RunEq R (PySem.W.view R.prog [60]) hk ob 12000 loose (patch w true) := fun os => join3 (runT1 w os) (runT2 w os)
theorem runF1 (w : World) (os : OsState) : (HandSHeadRun.endF (HandSHeadRun.stepQ (HandSHeadRun.denQ HandSHeadRun.tabQ) R.prog (patch w false)) 12000 R.prog (patch w false) os).map (fun s => (HandSHeadRun.looksF R.prog (boot_heap (patch w false).params) s.abs, HandSHeadRun.seenQ (PySem.W.view R.prog [60]) loose (importedModules R.prog.main.body) (fun s => xlAt (PySem.W.view R.prog [60]) [] s && recOk R.toRowW.records s) s.abs)) = some (true, openGood (PySem.W.view R.prog [60]) loose) := by
  kernel_rfl
theorem runFA1 (w : World) (os : OsState) : (HandSHeadRun.endF (HandSHeadRun.stepQ (HandSHeadRun.denQ HandSHeadRun.tabQ) R.prog (patch w false)) 12000 R.prog (patch w false) os).map (fun s => ob1a s) = some true := by
  kernel_rfl
theorem runFA2 (w : World) (os : OsState) : (HandSHeadRun.endF (HandSHeadRun.stepQ (HandSHeadRun.denQ HandSHeadRun.tabQ) R.prog (patch w false)) 12000 R.prog (patch w false) os).map (fun s => ob1b s) = some (true, fn.map DefA.val) := by
  kernel_rfl
theorem runFA (w : World) (os : OsState) : (HandSHeadRun.endF (HandSHeadRun.stepQ (HandSHeadRun.denQ HandSHeadRun.tabQ) R.prog (patch w false)) 12000 R.prog (patch w false) os).map (fun s => (ob1a s && (ob1b s).1, (ob1b s).2)) = some (valA fn) := mapP (f := fun s => (ob1a s, ob1b s)) (fun z => (z.1 && z.2.1, z.2.2)) (joinP (runFA1 w os) (runFA2 w os))
theorem runFB (w : World) (os : OsState) : (HandSHeadRun.endF (HandSHeadRun.stepQ (HandSHeadRun.denQ HandSHeadRun.tabQ) R.prog (patch w false)) 12000 R.prog (patch w false) os).map (fun s => ob2 s) = some true := by
  kernel_rfl
theorem runFC (w : World) (os : OsState) : (HandSHeadRun.endF (HandSHeadRun.stepQ (HandSHeadRun.denQ HandSHeadRun.tabQ) R.prog (patch w false)) 12000 R.prog (patch w false) os).map (fun s => (ob3 s, ob4 s)) = some (true, ts.map (fun t => some (keysIn (patch w false).params t.2))) := by
  kernel_rfl
theorem runF2 (w : World) (os : OsState) : (HandSHeadRun.endF (HandSHeadRun.stepQ (HandSHeadRun.denQ HandSHeadRun.tabQ) R.prog (patch w false)) 12000 R.prog (patch w false) os).map (fun s => ob s) = some (hk.val (patch w false)) := joinP (joinP (joinP (runFA w os) (runFB w os)) (show (HandSHeadRun.endF (HandSHeadRun.stepQ (HandSHeadRun.denQ HandSHeadRun.tabQ) R.prog (patch w false)) 12000 R.prog (patch w false) os).map (fun s => ob3 s) = some (true) from mapP (f := fun s => (ob3 s, ob4 s)) (fun z => z.1) (runFC w os))) (show (HandSHeadRun.endF (HandSHeadRun.stepQ (HandSHeadRun.denQ HandSHeadRun.tabQ) R.prog (patch w false)) 12000 R.prog (patch w false) os).map (fun s => ob4 s) = some (ts.map (fun t => some (keysIn (patch w false).params t.2))) from mapP (f := fun s => (ob3 s, ob4 s)) (fun z => z.2) (runFC w os))
theorem runF (w : World) : HandSHeadRun.RunEq R (PySem.W.view R.prog [60]) hk ob 12000 loose (patch w false) := fun os => join3 (runF1 w os) (runF2 w os)
theorem run (w : World) : HandSHeadRun.RunEq R (PySem.W.view R.prog [60]) hk ob 12000 loose w := by
  have h : ∀ b : Bool, HandSHeadRun.RunEq R (PySem.W.view R.prog [60]) hk ob 12000 loose (patch w b) := fun b => match b with | true => runT w | false => runF w
  have h2 := h (w.params.followText "special-get-raises")
  rw [patch_eq] at h2
  exact h2
end KL
namespace KL
open PySem PySem.Spec PyProof.Rows L2 Pk He
/-! ### what the top has written, as far as the core of the program asks -/
/-! ### checks -/
/-- flat values, their types -/
def tyF : V → String
  | .non => "NoneType"
  | .bl _ => "bool"
  | .int _ => "int"
  | .str _ => "str"
  | _ => ""
theorem tyF_ok {K : Fr} {H : Hp} {v : V} (h : flatV v = true) : TyX K H v (.type (tyF v)) := by
  cases v with
  | non => exact .base .non
  | bl b => exact .base (.bl b)
  | int i => exact .base (.int i)
  | str x => exact .base (.str x)
  | _ => cases h
def isNum : V → Int → Int → Bool
  | .int i, lo, hi => decide (lo ≤ i) && decide (i ≤ hi)
  | _, _, _ => false
def isLetV : V → Bool
  | .str z => (match z.cps.toList with
    | [c] => isLet c
    | _ => false)
  | _ => false
def isWordV : V → Bool
  | .str z => decide (1 ≤ z.length) && decide (z.length ≤ 20) && z.cps.toList.all isLet
  | _ => false
theorem letters_are : (PySem.Str.ofString "abcdefghijklmnopqrstuvwxyz").cps.toList = List.range' 97 26 := by decide +kernel
theorem mem_letters (c : Nat) : decide (c ∈ (PySem.Str.ofString "abcdefghijklmnopqrstuvwxyz").cps.toList) = isLet c := by
  rw [letters_are]
  unfold isLet
  rw [Bool.eq_iff_iff]
  simp only [decide_eq_true_eq, List.mem_range'_1, Bool.and_eq_true]
  omega
def spIsNumber : Sp := fun vs H Q _ => ∃ v lo hi, vs = [v, .int lo, .int hi] ∧ flatV v = true ∧ Q (.bl (isNum v lo hi)) H
/-- texts are not too long -/
def fitV : V → Prop
  | .str z => z.length ≤ sizeLine
  | _ => True
def spIsLetter : Sp := fun vs H Q _ => ∃ v, vs = [v] ∧ flatV v = true ∧ fitV v ∧ Q (.bl (isLetV v)) H
def spIsWord : Sp := fun vs H Q _ => ∃ v, vs = [v] ∧ flatV v = true ∧ fitV v ∧ ∀ H2, Same H H2 → Q (.bl (isWordV v)) H2
section
variable {P : Program} {w : World} {K : Fr} {mg : Str → Option Value} {base : Heap} {f : Addr}
theorem scIsNumber : FnScope ["value", "low", "high"] ["value", "low", "high"] (defScope sIsNumber) := ⟨rfl, rfl, rfl, by decide +kernel, rfl, by decide +kernel, by decide +kernel⟩
theorem ok_is_number (D : Df K "is_number" "is_number" sIsNumber f) (T : Tc w K mg) : Kp P w K mg base 1 f spIsNumber := by
  refine kp_of D scIsNumber (fun _ _ _ _ _ _ us hl => match us, hl with | [_, _, _], _ => rfl) ?_ (fun cdv A outer s H vs Q E hr h => ?_)
  · rintro vs H Q E ⟨v, lo, hi, rfl, _⟩
    rfl
  · obtain ⟨v, lo, hi, rfl, fl, q⟩ := h
    refine ⟨_, pss_one (ps_ret (pe_and (pe_isi (pv 0) T.isi T.int b_int) (pe_and (pe_not (pe_isi (pv 0) T.isi T.bool b_bool)) (pe_one (pe_chain op_le op_le (pv 1) (pv 0) (pv 2)))))), ?_⟩
    refine ⟨_, rfl, _, _, _, decide (tyF v = "int" ∨ tyF v = "bool"), rfl, tyF_ok fl, ?_, _, rfl, ?_⟩
    · cases v <;> first | rfl | cases fl
    cases v with
    | non => exact q
    | str x => exact q
    | bl b => exact ⟨_, rfl, _, _, _, true, rfl, tyF_ok (v := .bl b) rfl, rfl, _, rfl, _, rfl, q⟩
    | int i =>
      refine ⟨_, rfl, _, _, _, false, rfl, tyF_ok (v := .int i) rfl, rfl, _, rfl, _, rfl, ?_⟩
      refine ⟨_, rfl, _, rfl, _, _, rfl, rfl, _, rfl, ?_⟩
      have q1 : Q (.bl (decide (lo ≤ i) && decide (i ≤ hi))) H := q
      refine ite2 (fun h1 => ?_) fun h1 => ?_
      · rw [h1] at q1
        exact ⟨_, rfl, _, _, rfl, rfl, q1⟩
      · rw [Bool.eq_false_iff.mpr h1] at q1
        exact q1
    | _ => cases fl
theorem scIsLetter : FnScope ["value"] ["value"] (defScope sIsLetter) := ⟨rfl, rfl, rfl, by decide +kernel, rfl, by decide +kernel, by decide +kernel⟩
theorem one_sign {z : Str} (h : (z.length : Int) = 1) : ∃ c, z = ⟨#[c]⟩ ∧ z.cps.toList = [c] := by
  obtain ⟨⟨l⟩⟩ := z
  have h1 : l.length = 1 := by
    have : ((l.length : Nat) : Int) = 1 := h
    omega
  match l, h1 with
  | [c], _ => exact ⟨c, rfl, rfl⟩
theorem ok_is_letter (D : Df K "is_letter" "is_letter" sIsLetter f) (T : Tc w K mg) : Kp P w K mg base 1 f spIsLetter := by
  refine kp_of D scIsLetter (fun _ _ _ _ _ _ us hl => match us, hl with | [_], _ => rfl) ?_ (fun cdv A outer s H vs Q E hr h => ?_)
  · rintro vs H Q E ⟨v, rfl, _⟩
    rfl
  · obtain ⟨v, rfl, fl, ft, q⟩ := h
    obtain ⟨tl, hL⟩ := T.letters
    refine ⟨_, pss_one (ps_ret (pe_and (pe_isi (pv 0) T.isi T.str b_str) (pe_and (pe_cmpR op_eq (pk_b1 call_len_str T.len b_len (pv 0)) pe_int (nomark _)) (pe_one (pe_cmpR op_in_sign (pv 0) (pe_gS hL) rfl))))), ?_⟩
    refine ⟨_, rfl, _, _, _, decide (tyF v = "str"), rfl, tyF_ok fl, ?_, _, rfl, ?_⟩
    · cases v <;> first | rfl | cases fl
    cases v with
    | non => exact q
    | bl b => exact q
    | int i => exact q
    | str z =>
      refine ⟨_, rfl, _, rfl, ft, rfl, _, rfl, ?_⟩
      refine ite2 (fun h1 => ?_) fun h1 => ?_
      · obtain ⟨c, e1, e2⟩ := one_sign (z := z) (by simpa using h1)
        refine ⟨_, rfl, c, _, by rw [e1], rfl, ?_⟩
        rw [mem_letters]
        have e3 : isLetV (.str z) = isLet c := by
          show (match z.cps.toList with
            | [c] => isLet c
            | _ => false) = isLet c
          rw [e2]
        rw [← e3]
        exact q
      · have e3 : isLetV (.str z) = false := by
          show (match z.cps.toList with
            | [c] => isLet c
            | _ => false) = false
          split
          · rename_i c e
            exact absurd (by
              have : z.cps.size = 1 := by rw [← Array.length_toList, e]; rfl
              simp [Str.length, this]) h1
          · rfl
        rw [e3] at q
        have e4 : decide (V.int (z.length : Int) = V.int 1) = false := Bool.eq_false_iff.mpr h1
        show Q (.bl false) H
        exact q
    | _ => cases fl
theorem scIsWord : FnScope ["value", "sign"] ["value"] (defScope sIsWord) := ⟨rfl, rfl, rfl, by decide +kernel, rfl, by decide +kernel, by decide +kernel⟩
theorem ok_is_word (D : Df K "is_word" "is_word" sIsWord f) (T : Tc w K mg) : Kp P w K mg base 1 f spIsWord := by
  refine kp_of D scIsWord (fun _ _ _ _ _ _ us hl => match us, hl with | [_], _ => rfl) ?_ (fun cdv A outer s H vs Q E hr h => ?_)
  · rintro vs H Q E ⟨v, rfl, _⟩
    rfl
  · obtain ⟨v, rfl, fl, ft, q⟩ := h
    obtain ⟨tl, hL⟩ := T.letters
    obtain ⟨tw, hW⟩ := T.longest
    refine ⟨_, pss_cons (ps_if (pw_or (pt_not (pt_val (pe_isi (pv 0) T.isi T.str b_str))) (pw_or1 (pt_not (pt_chain op_le op_le pe_int (pk_b1 call_len_str T.len b_len (pv 0)) (pe_gI hW))))).pt (pss_one (ps_ret pe_bl)) pss_nil)
      (pss_one (ps_ret (pk_b1 (cr_all rfl) T.all b_all (pe_lc (own := [("sign", 1)]) (g := gName 1) (tt := tYes) rfl scIsWord.nd (pi_str (pv 0)) (blkOk_by (N := ["value", "sign"]) (sc := defScope sIsWord) (by decide +kernel)) (fun _ _ _ _ _ => pg_name (i := 1) scIsWord.nd rfl (Or.inl rfl)) (fun _ _ _ _ _ => pts_nil)
        (fun _ _ _ _ _ => pe_cmpR op_in_sign (pv 1) (pe_gS hL) rfl))))), ?_⟩
    have two : ∀ b : Bool, b = isWordV v → ∀ H2, Same H H2 → Q (.bl b) H2 := fun b e => by rw [e]; exact q
    refine ⟨_, rfl, _, _, _, decide (tyF v = "str"), rfl, tyF_ok fl, ?_, _, rfl, ?_⟩
    · cases v <;> first | rfl | cases fl
    cases v with
    | non => exact q H (Same.refl H)
    | bl b => exact q H (Same.refl H)
    | int i => exact q H (Same.refl H)
    | str z =>
      refine iteF ?_
      refine ⟨_, rfl, _, rfl, ft, _, _, rfl, rfl, _, rfl, ?_⟩
      refine ite2 (fun h1 => ?_) fun h1 => ?_
      · refine ⟨_, _, rfl, rfl, _, rfl, ?_⟩
        refine ite2 (fun h2 => ?_) fun h2 => ?_
        · refine two false ?_ H (Same.refl H)
          have h3 : ¬ (z.length ≤ 20) := by
            intro h4
            have h5 : decide ((z.length : Int) ≤ 20) = true := decide_eq_true (by omega)
            rw [h5] at h2
            cases h2
          show false = (decide (1 ≤ z.length) && decide (z.length ≤ 20) && z.cps.toList.all isLet)
          rw [decide_eq_false h3]
          simp
        · have h3 : z.length ≤ 20 := by
            rcases Nat.lt_or_ge 20 z.length with h4 | h4
            · have h5 : decide ((z.length : Int) ≤ 20) = false := decide_eq_false (by omega)
              rw [h5] at h2
              exact absurd rfl h2
            · exact h4
          have h0 : 1 ≤ z.length := by
            have := of_decide_eq_true h1
            omega
          refine ⟨_, rfl, _, rfl, fun D hD => ?_⟩
          refine lc_map walk_str hD (fun i => .bl (isLet (z.cps.getD i 0))) (Nat.le_trans (show z.cps.size ≤ 20 from h3) (by decide)) (fun _ _ => trivial) ?_ ?_
          · rintro i x H3 H4 N hi s3 ⟨e4, c, ec, ex⟩ hN
            subst e4 ex
            refine ⟨rfl, _, rfl, c, _, rfl, rfl, ?_⟩
            rw [mem_letters]
            have e5 : z.cps.getD i 0 = c := by
              rw [Array.getD_eq_getD_getElem?, ec]
              rfl
            rw [← e5]
            exact hN _ (Same.refl _)
          · intro H3 s3 h3D
            refine ⟨D, (List.range z.cps.size).map fun i => isLet (z.cps.getD i 0), rfl, SqL.of (by rw [List.map_map]; exact h3D), ?_⟩
            refine two _ ?_ _ s3
            show _ = (decide (1 ≤ z.length) && decide (z.length ≤ 20) && z.cps.toList.all isLet)
            rw [decide_eq_true h0, decide_eq_true h3]
            have e6 : (List.range z.cps.size).map (fun i => isLet (z.cps.getD i 0)) = z.cps.toList.map isLet := by
              apply List.ext_getElem
              · simp
              · intro i h7 h8
                simp at h7
                simp [h7]
            rw [e6, List.all_map]
            rfl
      · refine ⟨_, rfl, ?_⟩
        refine two false ?_ H (Same.refl H)
        have h3 : ¬ (1 ≤ z.length) := fun h4 => h1 (decide_eq_true (by omega))
        show false = (decide (1 ≤ z.length) && decide (z.length ≤ 20) && z.cps.toList.all isLet)
        rw [decide_eq_false h3]
        rfl
    | _ => cases fl
end
end KL
namespace KL
open PySem PySem.Spec PyProof.Rows L2 Pk He
theorem sqT_ty {K : Fr} {H : Hp} {a : Addr} {xs : List V} (h : SqT K H a xs) : TyX K H (.ref a) (.type "tuple") := by
  rcases h with (h | ⟨o, h⟩) | ⟨o, its, n, h1, h2, _⟩
  · exact .base (.tup h)
  · exact .fTuple h
  · exact .kTuple h1 h2
def numAfter (b c : V) (s : Int) : Bool := match b with
  | .int i => isNum c i s
  | _ => false
def isStepT (xs : List V) (s : Int) : Bool := match xs with
  | [a, b] => decide (a = .str "write") && isWordV b
  | [a, b, c, d] => decide (a = .str "paste") && (isNum b 0 (s - 1) && numAfter b c (s - 1) && isNum d 1 1000000000)
  | _ => false
/-- what may be asked whether it is a step -/
def StepArg (K : Fr) (H : Hp) (v : V) (s : Int) (r : Bool) : Prop :=
  (flatV v = true ∧ r = false) ∨ (TyX K H v (.type "list") ∧ r = false) ∨
  ∃ a xs, v = .ref a ∧ SqT K H a xs ∧ xs.all flatV = true ∧ (∀ x ∈ xs, fitV x) ∧ (∀ x, xs[0]? = some x → ∃ z, x = .str z) ∧ r = isStepT xs s
def spIsStep (K : Fr) : Sp := fun vs H Q _ => ∃ v s r, vs = [v, .int s] ∧ StepArg K H v s r ∧ ∀ H2, Same H H2 → Q (.bl r) H2
section
variable {P : Program} {w : World} {K : Fr} {mg : Str → Option Value} {base : Heap} {f : Addr}
theorem scIsStep : FnScope ["value", "size", "first", "last", "times"] ["value", "size"] (defScope sIsStep) := ⟨rfl, rfl, rfl, by decide +kernel, rfl, by decide +kernel, by decide +kernel⟩
theorem ok_is_step (D : Df K "is_step" "is_step" sIsStep f) (T : Tc w K mg) (GW : Kp P w K mg base 1 (ga K "is_word") spIsWord) (GN : Kp P w K mg base 1 (ga K "is_number") spIsNumber) : Kp P w K mg base 2 f (spIsStep K) := by
  refine kp_of D scIsStep (fun _ _ _ _ _ _ us hl => match us, hl with | [_, _], _ => rfl) ?_ (fun cdv A outer s H vs Q E hr h => ?_)
  · rintro vs H Q E ⟨v, s, r, rfl, _⟩
    rfl
  · obtain ⟨v, sz, r, rfl, arg, q⟩ := h
    obtain ⟨tm, hM⟩ := T.mostTimes
    refine ⟨_, pss_cons (ps_if (pt_not (pt_val (pe_isi (pv 0) T.isi T.tup b_tuple))) (pss_one (ps_ret pe_bl)) pss_nil)
      (pss_cons (ps_if (pt_cmpR op_eq (pk_b1 call_len_seq T.len b_len (pv 0)) pe_int (nomark _)) (pss_one (ps_ret (pe_and (pe_cmpR op_eq (pe_ix ix_tup (pv 0) pe_int (fun _ _ => rfl)) pe_str (nomark _)) (pe_one (pk_call GW hr T.gIsWord (pa_cons (pe_ix ix_tup (pv 0) pe_int (fun _ _ => rfl)) pa_nil)))))) pss_nil)
      (pss_cons (ps_if (pw_or (pt_cmpR op_ne (pk_b1 call_len_seq T.len b_len (pv 0)) pe_int (nomark _)) (pw_or1 (pt_cmpR op_ne (pe_ix ix_tup (pv 0) pe_int (fun _ _ => rfl)) pe_str (nomark _)))).pt (pss_one (ps_ret pe_bl)) pss_nil)
      (pss_cons (ps_asg (pe_slice sl_tup (pv 0) (po_some pe_int) po_none) (pg_tup rfl (pgs_cons (pg_name (i := 2) scIsStep.nd rfl (Or.inl rfl)) (pgs_cons (pg_name (i := 3) scIsStep.nd rfl (Or.inl rfl)) (pgs_cons (pg_name (i := 4) scIsStep.nd rfl (Or.inl rfl)) pgs_nil)))))
      (pss_one (ps_ret (pe_and (pk_call GN hr T.gIsNumber (pa_cons (pv 2) (pa_cons pe_int (pa_cons (pe_op op_sub (pv 1) pe_int) pa_nil)))) (pe_and (pk_call GN hr T.gIsNumber (pa_cons (pv 3) (pa_cons (pv 2) (pa_cons (pe_op op_sub (pv 1) pe_int) pa_nil))))
        (pe_one (pk_call GN hr T.gIsNumber (pa_cons (pv 4) (pa_cons pe_int (pa_cons (pe_gI hM) pa_nil)))))))))))), ?_⟩
    rcases arg with ⟨fl, e⟩ | ⟨ty, e⟩ | ⟨a, xs, rfl, hx, flx, ftx, hd, e⟩
    · subst e
      exact ⟨_, rfl, v, "tuple", tyF v, false, rfl, tyF_ok fl, (by cases v <;> first | rfl | cases fl), false, rfl, q H (Same.refl H)⟩
    · subst e
      exact ⟨_, rfl, v, "tuple", "list", false, rfl, ty, rfl, false, rfl, q H (Same.refl H)⟩
    · subst e
      have ty := sqT_ty hx
      have one : ∀ (i : Nat) (x : V), xs[i]? = some x → atI xs (i : Int) = some x := fun i x e => atI_nat e
      have flat : ∀ x ∈ xs, flatV x = true := fun x hx => List.all_eq_true.mp flx x hx
      refine ⟨_, rfl, _, _, _, true, rfl, ty, rfl, _, rfl, ?_⟩
      refine iteF ?_
      refine ⟨_, rfl, a, xs, rfl, .inr hx, rfl, _, rfl, ?_⟩
      match xs, hx, ftx, hd, q, one, flat with
      | [], hx, ftx, hd, q, one, flat =>
        refine iteF ?_
        refine ⟨_, rfl, a, [], rfl, .inr hx, rfl, _, rfl, ?_⟩
        exact q H (Same.refl H)
      | [x0], hx, ftx, hd, q, one, flat =>
        refine iteF ?_
        refine ⟨_, rfl, a, [x0], rfl, .inr hx, rfl, _, rfl, ?_⟩
        exact q H (Same.refl H)
      | [x0, x1], hx, ftx, hd, q, one, flat =>
        obtain ⟨z, ez⟩ := hd x0 rfl
        subst ez
        refine iteT ?_
        refine ⟨_, rfl, a, _, _, _, rfl, rfl, hx, one 0 _ rfl, rfl, _, rfl, ?_⟩
        refine ite2 (fun h1 => ?_) fun h1 => ?_
        · refine ⟨_, rfl, a, _, _, _, rfl, rfl, hx, one 1 _ rfl, x1, rfl, flat x1 (by simp), ftx x1 (by simp), fun H2 s2 => ?_⟩
          have e : isStepT [.str z, x1] sz = isWordV x1 := by
            show (decide (V.str z = V.str "write") && isWordV x1) = _
            rw [h1, Bool.true_and]
          rw [← e]
          exact q H2 s2
        · have e : isStepT [.str z, x1] sz = false := by
            show (decide (V.str z = V.str "write") && isWordV x1) = _
            rw [Bool.eq_false_iff.mpr h1, Bool.false_and]
          rw [e] at q
          exact q H (Same.refl H)
      | [x0, x1, x2], hx, ftx, hd, q, one, flat =>
        refine iteF ?_
        refine ⟨_, rfl, a, [x0, x1, x2], rfl, .inr hx, rfl, _, rfl, ?_⟩
        exact q H (Same.refl H)
      | [x0, x1, x2, x3], hx, ftx, hd, q, one, flat =>
        obtain ⟨z, ez⟩ := hd x0 rfl
        subst ez
        refine iteF ?_
        refine ⟨_, rfl, a, _, rfl, .inr hx, rfl, _, rfl, ?_⟩
        refine iteF ?_
        refine ⟨_, rfl, a, _, _, _, rfl, rfl, hx, one 0 _ rfl, rfl, _, rfl, ?_⟩
        have e : isStepT [.str z, x1, x2, x3] sz = (decide (V.str z = V.str "paste") && (isNum x1 0 (sz - 1) && numAfter x1 x2 (sz - 1) && isNum x3 1 1000000000)) := rfl
        rw [e] at q
        by_cases h1 : V.str z = V.str "paste"
        · rw [decide_eq_true h1, Bool.true_and] at q
          have h2 : (!decide (V.str z = V.str "paste")) = false := by rw [decide_eq_true h1]; rfl
          rw [h2]
          refine iteF ?_
          refine ⟨_, rfl, 1, rfl, a, _, rfl, hx, fun z => absurd z.1 (show ¬ ((1 : Nat) = 0) by decide), fun p hp => ?_⟩
          have hp2 : upd H p (.tup [x1, x2, x3]) p = some (.tup [x1, x2, x3]) := upd_same
          refine ⟨p, _, rfl, .inl (.inl hp2), rfl, _, _, rfl, _, _, rfl, _, _, rfl, rfl, ?_⟩
          refine ⟨_, rfl, _, rfl, _, _, rfl, rfl, x1, 0, _, rfl, flat x1 (by simp), _, rfl, ?_⟩
          cases hb : isNum x1 0 (sz - 1) with
          | false =>
            rw [hb] at q
            exact q _ (same_upd hp)
          | true =>
            rw [hb] at q
            cases x1 with
            | int i1 =>
              refine ⟨_, rfl, _, rfl, _, rfl, _, _, rfl, rfl, x2, _, _, rfl, flat x2 (by simp), _, rfl, ?_⟩
              have q1 : ∀ H2, Same H H2 → Q (.bl (isNum x2 i1 (sz - 1) && isNum x3 1 1000000000)) H2 := q
              cases hc : isNum x2 i1 (sz - 1) with
              | false =>
                rw [hc] at q1
                exact q1 _ (same_upd hp)
              | true =>
                rw [hc] at q1
                have q := q1
                exact ⟨_, rfl, x3, 1, _, rfl, flat x3 (by simp), q _ (same_upd hp)⟩
            | _ => cases hb
        · rw [decide_eq_false h1, Bool.false_and] at q
          have h2 : (!decide (V.str z = V.str "paste")) = true := by rw [decide_eq_false h1]; rfl
          rw [h2]
          exact q H (Same.refl H)
      | x0 :: x1 :: x2 :: x3 :: x4 :: r, hx, ftx, hd, q, one, flat =>
        have h2 : decide (V.int ((x0 :: x1 :: x2 :: x3 :: x4 :: r).length : Int) = V.int 2) = false := decide_eq_false (fun z => by injection z with z; simp at z; omega)
        rw [h2]
        refine iteF ?_
        refine ⟨_, rfl, a, _, rfl, .inr hx, rfl, _, rfl, ?_⟩
        have h4 : (!decide (V.int ((x0 :: x1 :: x2 :: x3 :: x4 :: r).length : Int) = V.int 4)) = true := by
          rw [decide_eq_false (fun z => by injection z with z; simp at z; omega)]
          rfl
        rw [h4]
        exact q H (Same.refl H)
end
end KL
namespace KL
open PySem PySem.Spec PyProof.Rows L2 Pk He
theorem putF_new {f : Str} {v : V} : ∀ {fs : List (Str × V)} {ns : List Str}, fs.map (·.1) = ns → (ns.all fun g => decide (g ≠ f)) = true → putF f v fs = fs ++ [(f, v)]
  | [], _, _, _ => rfl
  | (g, x) :: r, _, e, h => by
    subst e
    have h1 := Bool.and_eq_true_iff.mp (show (decide (g ≠ f) && (r.map (·.1)).all fun g => decide (g ≠ f)) = true from h)
    show (if g = f then (g, v) :: r else (g, x) :: putF f v r) = _
    rw [if_neg (of_decide_eq_true h1.1), putF_new rfl h1.2]
    rfl
def fresh5 (b e k s w : V) : List (Str × V) := [("begin", b), ("end", e), ("key", k), ("source", s), ("width", w)]
def spSpanInit (C : Addr) : Sp := fun vs H Q _ => ∃ p dx b e k s w, vs = [.ref p, b, e, k, s, w] ∧ H p = some (.ins C dx []) ∧ Q .non (upd H p (.ins C dx (fresh5 b e k s w)))
def spSpanOf (K : Fr) : Sp := fun vs H Q _ => ∃ (a : Addr) (x : Stp) (s n : Nat), vs = [.ref a, .int s, .int n] ∧ SqT K H a (stV x) ∧ x.ok s = true ∧ ∀ p dx H2, H p = none → Same H H2 → H2 p = some (.ins (CS K) dx (spF x s n)) → Q (.ref p) H2
section
variable {P : Program} {w : World} {K : Fr} {mg : Str → Option Value} {base : Heap} {f : Addr}
theorem scSpanInit : FnScope ["self", "begin", "end", "key", "source", "width"] ["self", "begin", "end", "key", "source", "width"] (defScope sSpanInit) := ⟨rfl, rfl, rfl, by decide +kernel, rfl, by decide +kernel, by decide +kernel⟩
theorem ok_span_init (D : Df K "__init__" "Span.__init__" sSpanInit f) (T : Tc w K mg) : Kp P w K mg base 1 f (spSpanInit (CS K)) := by
  refine kp_of D scSpanInit (fun _ _ _ _ _ _ us hl => match us, hl with | [_, _, _, _, _, _], _ => rfl) ?_ (fun cdv A outer s H vs Q E hr h => ?_)
  · rintro vs H Q E ⟨p, dx, b, e, k, s, w, rfl, _⟩
    rfl
  · obtain ⟨p, dx, b, e, k, sr, wd, rfl, hp, q⟩ := h
    refine ⟨_, pss_cons (ps_fld (pv 0) (pv 1) rfl) (pss_cons (ps_fld (pv 0) (pv 2) rfl) (pss_cons (ps_fld (pv 0) (pv 3) rfl) (pss_cons (ps_fld (pv 0) (pv 4) rfl) (pss_one (ps_fld (pv 0) (pv 5) rfl))))), ?_⟩
    refine ⟨_, rfl, _, rfl, p, _, dx, _, rfl, hp, T.clS, T.nS1, (by decide), ?_⟩
    have e1 : putF "begin" b ([] : List (Str × V)) = [(("begin" : Str), b)] := rfl
    rw [e1]
    refine ⟨_, rfl, _, rfl, p, _, dx, _, rfl, upd_same, T.clS, T.nS2, (by show 1 < 1000; decide), ?_⟩
    rw [putF_new (f := "end") (ns := ["begin"]) rfl (by decide +kernel), upd_upd]
    refine ⟨_, rfl, _, rfl, p, _, dx, _, rfl, upd_same, T.clS, T.nS3, (by show 2 < 1000; decide), ?_⟩
    rw [putF_new (f := "key") (ns := ["begin", "end"]) rfl (by decide +kernel), upd_upd]
    refine ⟨_, rfl, _, rfl, p, _, dx, _, rfl, upd_same, T.clS, T.nS4, (by show 3 < 1000; decide), ?_⟩
    rw [putF_new (f := "source") (ns := ["begin", "end", "key"]) rfl (by decide +kernel), upd_upd]
    refine ⟨_, rfl, _, rfl, p, _, dx, _, rfl, upd_same, T.clS, T.nS5, (by show 4 < 1000; decide), ?_⟩
    rw [putF_new (f := "width") (ns := ["begin", "end", "key", "source"]) rfl (by decide +kernel), upd_upd]
    exact q
theorem scSpanOf : FnScope ["step", "begin", "key", "width"] ["step", "begin", "key"] (defScope sSpanOf) := ⟨rfl, rfl, rfl, by decide +kernel, rfl, by decide +kernel, by decide +kernel⟩
theorem wr_ne_pa : (V.str "write") ≠ V.str "paste" := by decide +kernel
theorem ok_span_of (D : Df K "span_of" "span_of" sSpanOf f) (T : Tc w K mg) (GI : Kp P w K mg base 1 (ma K (CS K) "__init__") (spSpanInit (CS K))) : Kp P w K mg base 3 f (spSpanOf K) := by
  refine kp_of D scSpanOf (fun _ _ _ _ _ _ us hl => match us, hl with | [_, _, _], _ => rfl) ?_ (fun cdv A outer s H vs Q E hr h => ?_)
  · rintro vs H Q E ⟨a, x, s, n, rfl, _⟩
    rfl
  · obtain ⟨a, x, s0, n, rfl, hx, ok, q⟩ := h
    refine ⟨_, pss_cons (ps_if (pt_cmpR op_eq (pe_ix ix_tup (pv 0) pe_int (fun _ _ => rfl)) pe_str (nomark _))
        (pss_one (ps_ret (StX.pe_makeR T.mkS GI.fnR hr rfl T.gSpan pass0 (pa_cons (pv 1) (pa_cons (pe_op op_add (pv 1) (pk_b1 call_len_str T.len b_len (pe_ix ix_tup (pv 0) pe_int (fun _ _ => rfl)))) (pa_cons (pv 2) (pa_cons pe_int (pa_cons pe_int pa_nil)))))))) pss_nil)
      (pss_cons (ps_set (i := 3) scSpanOf.nd rfl (Or.inl rfl) (pe_op op_add (pe_op op_sub (pe_ix ix_tup (pv 0) pe_int (fun _ _ => rfl)) (pe_ix ix_tup (pv 0) pe_int (fun _ _ => rfl))) pe_int))
      (pss_one (ps_ret (StX.pe_makeR T.mkS GI.fnR hr rfl T.gSpan pass0 (pa_cons (pv 1) (pa_cons (pe_op op_add (pv 1) (pe_op op_mul (pv 3) (pe_ix ix_tup (pv 0) pe_int (fun _ _ => rfl)))) (pa_cons pe_non (pa_cons (pe_ix ix_tup (pv 0) pe_int (fun _ _ => rfl)) (pa_cons (pv 3) pa_nil))))))))), ?_⟩
    have fin : ∀ (H1 : Hp) (p dx : Addr) (e k sr wd : V), Same H H1 → H1 p = none → H1 dx = none → dx ≠ p → fresh5 (.int s0) e k sr wd = spF x s0 n →
        Q (.ref p) (upd (upd (upd H1 dx (.own p)) p (.ins (CS K) dx [])) p (.ins (CS K) dx (fresh5 (.int s0) e k sr wd))) := by
      intro H1 p dx e k sr wd s1 hp hdx hne ee
      rw [upd_upd]
      refine q p dx _ (s1.free hp) (s1.trans ((same_upd hdx).trans (same_upd ?_))) (by rw [upd_same, ee])
      rw [upd_ne hne.symm]
      exact hp
    cases x with
    | wr w =>
      have hl : (sL w).length ≤ sizeLine := by
        rw [sL_len]
        simp [Stp.ok] at ok
        exact Nat.le_trans ok.1.2 (by decide)
      refine ⟨_, rfl, a, _, _, _, rfl, rfl, hx, atI_nat (j := 0) rfl, rfl, _, rfl, ?_⟩
      refine iteT ?_
      refine ⟨_, rfl, _, rfl, _, rfl, a, _, _, _, rfl, rfl, hx, atI_nat (j := 1) rfl, _, rfl, hl, _, _, rfl, rfl, _, rfl, fun p dx hp hdx hne => ?_⟩
      refine ⟨p, dx, _, _, _, _, _, rfl, upd_same, rfl, ?_⟩
      refine fin H p dx _ _ _ _ (Same.refl H) hp hdx hne ?_
      rw [sL_len]
      rfl
    | pa f0 l t =>
      simp [Stp.ok] at ok
      have hb : decide (V.str "paste" = V.str "write") = false := decide_eq_false wr_ne_pa.symm
      refine ⟨_, rfl, a, _, _, _, rfl, rfl, hx, atI_nat (j := 0) rfl, rfl, _, rfl, ?_⟩
      rw [hb]
      refine iteF ?_
      refine ⟨_, rfl, a, _, _, _, rfl, rfl, hx, atI_nat (j := 2) rfl, _, rfl, a, _, _, _, rfl, rfl, hx, atI_nat (j := 1) rfl, _, _, rfl, rfl, _, _, rfl, rfl, ?_⟩
      have ew : ((l : Int) - (f0 : Int) + 1) = ((l + 1 - f0 : Nat) : Int) := by omega
      rw [show ((fun i j : Int => V.int (i + j)) ((l : Int) - (f0 : Int)) 1) = V.int ((l + 1 - f0 : Nat) : Int) from congrArg V.int ew]
      refine ⟨_, rfl, _, rfl, _, rfl, _, rfl, a, _, _, _, rfl, rfl, hx, atI_nat (j := 3) rfl, _, _, rfl, rfl, .inr ⟨by omega, by omega⟩, _, _, rfl, rfl, _, rfl, a, _, _, _, rfl, rfl, hx, atI_nat (j := 1) rfl, _, rfl, fun p dx hp hdx hne => ?_⟩
      refine ⟨p, dx, _, _, _, _, _, rfl, upd_same, rfl, ?_⟩
      refine fin H p dx _ _ _ _ (Same.refl H) hp hdx hne ?_
      show fresh5 _ _ _ _ _ = [_, _, _, _, _]
      rw [← Int.natCast_mul]
      rfl
end
end KL
namespace KL
open PySem PySem.Spec PyProof.Rows L2 Pk He
theorem map_at {as : List Addr} {i : Nat} {a : Addr} {y : V} (ha : as[i]? = some a) (e : (as.map V.ref)[i]? = some y) : y = .ref a := by
  rw [List.getElem?_map, ha] at e
  exact (Option.some.inj e).symm
def spSpansOf (K : Fr) : Sp := fun vs H Q _ => ∃ (ts : Addr) (as : List Addr) (st : List Stp), vs = [.ref ts, .int most] ∧ SqT K H ts (as.map V.ref) ∧ StepsAt K H as st ∧ Goes most 0 st ∧ st.length ≤ 30 ∧
  ∀ p ss H2, Same H H2 → SqT K H2 p (ss.map V.ref) → SpansAt (CS K) H2 ss st → Q (.ref p) H2
theorem stepArg_of {K : Fr} {H : Hp} {a : Addr} {x : Stp} {s : Nat} (hx : SqT K H a (stV x)) (ok : x.ok s = true) : StepArg K H (.ref a) (s : Int) true := by
  refine .inr (.inr ⟨a, stV x, rfl, hx, by cases x <;> rfl, ?_, ?_, ?_⟩)
  · cases x with
    | wr w =>
      simp [Stp.ok] at ok
      intro v hv
      have hv2 : v = .str "write" ∨ v = .str (sL w) := by simpa [stV] using hv
      rcases hv2 with rfl | rfl
      · show (Str.ofString "write").length ≤ sizeLine
        decide +kernel
      · show (sL w).length ≤ sizeLine
        rw [sL_len]
        exact Nat.le_trans ok.1.2 (by decide)
    | pa f l t =>
      intro v hv
      have hv2 : v = .str "paste" ∨ v = .int f ∨ v = .int l ∨ v = .int t := by simpa [stV] using hv
      rcases hv2 with rfl | rfl | rfl | rfl
      · show (Str.ofString "paste").length ≤ sizeLine
        decide +kernel
      all_goals trivial
  · cases x <;> (intro v hv; exact ⟨_, (Option.some.inj hv).symm⟩)
  · cases x with
    | wr w =>
      simp [Stp.ok] at ok
      show true = (decide (V.str "write" = V.str "write") && (decide (1 ≤ (sL w).length) && decide ((sL w).length ≤ 20) && (sL w).cps.toList.all isLet))
      rw [sL_len, decide_eq_true rfl, decide_eq_true ok.1.1, decide_eq_true ok.1.2]
      symm
      simpa [sL] using ok.2
    | pa f l t =>
      simp [Stp.ok] at ok
      show true = (decide (V.str "paste" = V.str "paste") && ((decide ((0 : Int) ≤ f) && decide ((f : Int) ≤ s - 1)) && (decide ((f : Int) ≤ l) && decide ((l : Int) ≤ s - 1)) && (decide ((1 : Int) ≤ t) && decide ((t : Int) ≤ 1000000000))))
      rw [decide_eq_true rfl, decide_eq_true (show (0 : Int) ≤ f by omega), decide_eq_true (show (f : Int) ≤ s - 1 by omega), decide_eq_true (show (f : Int) ≤ l by omega), decide_eq_true (show (l : Int) ≤ s - 1 by omega), decide_eq_true (show (1 : Int) ≤ t by omega), decide_eq_true (show (t : Int) ≤ 1000000000 by omega)]
      rfl
theorem spF_end (x : Stp) (s n : Nat) : (spF x s n).lookup ("end" : Str) = some (.int (s + x.gr : Nat)) := by
  cases x <;> rfl
theorem spF_begin (x : Stp) (s n : Nat) : (spF x s n).lookup ("begin" : Str) = some (.int s) := by
  cases x <;> rfl
def keyV (x : Stp) (n : Nat) : V := match x with
  | .wr _ => .int n
  | .pa _ _ _ => .non
theorem spF_key (x : Stp) (s n : Nat) : (spF x s n).lookup ("key" : Str) = some (keyV x n) := by
  cases x <;> rfl
section
variable {P : Program} {w : World} {K : Fr} {mg : Str → Option Value} {base : Heap} {f : Addr}
abbrev nSpansOf : List Str := ["steps", "max_size", "spans", "size", "key", "index", "step", "span"]
theorem scSpansOf : FnScope nSpansOf ["steps", "max_size"] (defScope sSpansOf) := ⟨rfl, rfl, rfl, by decide +kernel, rfl, by decide +kernel, by decide +kernel⟩
theorem ok_spans_of (D : Df K "spans_of" "spans_of" sSpansOf f) (T : Tc w K mg) (GS : Kp P w K mg base 2 (ga K "is_step") (spIsStep K)) (GO : Kp P w K mg base 3 (ga K "span_of") (spSpanOf K)) : Kp P w K mg base 4 f (spSpansOf K) := by
  refine kp_of D scSpansOf (fun _ _ _ _ _ _ us hl => match us, hl with | [_, _], _ => rfl) ?_ (fun cdv A outer s H vs Q E hr h => ?_)
  · rintro vs H Q E ⟨ts, as, st, rfl, _⟩
    rfl
  · obtain ⟨ts, as, st, rfl, hts, hst, good, few, q⟩ := h
    obtain ⟨tk, hMS⟩ := T.mostSteps
    refine ⟨_, (pss_cons (ps_set (i := 2) scSpansOf.nd rfl (Or.inl rfl) (pe_lst pa_nil)) (pss_cons (ps_set (i := 3) scSpansOf.nd rfl (Or.inl rfl) pe_int) (pss_cons (ps_set (i := 4) scSpansOf.nd rfl (Or.inl rfl) pe_int) (pss_cons (ps_for PassesOwn.never rfl (pi_enumT (by rfl) T.enu (pa_cons (pv 0) pa_nil)) (pg_tup rfl (pgs_cons (pg_name (i := 5) scSpansOf.nd rfl (Or.inl rfl)) (pgs_cons (pg_name (i := 6) scSpansOf.nd rfl (Or.inl rfl)) pgs_nil))) (pss_cons (ps_if (pw_or (pt_cmpR op_ge (pv 5) (pe_gI hMS) (nomark _)) (pw_or1 (pt_not (pt_val (pk_call GS (hr.mono (by decide)) T.gIsStep (pa_cons (pv 6) (pa_cons (pv 3) pa_nil))))))).pt pss_never pss_nil) (pss_cons (ps_set (i := 7) scSpansOf.nd rfl (Or.inl rfl) (pk_call GO hr T.gSpanOf (pa_cons (pv 6) (pa_cons (pv 3) (pa_cons (pv 4) pa_nil))))) (pss_cons (ps_if (pt_cmpR op_gt (pe_fld (pv 7) rfl) (pv 1) (nomark _)) pss_never pss_nil) (pss_cons (ps_if (pt_cmp (pc_notN (pe_fld (pv 7) rfl))) (pss_one (ps_set (i := 4) scSpansOf.nd rfl (Or.inl rfl) (pe_op op_sub (pe_op op_add (pv 4) (pe_fld (pv 7) rfl)) (pe_fld (pv 7) rfl)))) pss_nil) (pss_cons (ps_set (i := 3) scSpansOf.nd rfl (Or.inl rfl) (pe_fld (pv 7) rfl)) (pss_one (ps_expr (pe_bm PySem.F.plainAttrs_list PySem.F.slot_list_append PySem.F.type_list_append mt_append (pv 2) (pa_cons (pv 7) pa_nil)))))))))) (pss_one (ps_ret (pk_t1 call_tuple_of T.tup b_tuple (pv 2)))))))), ?_⟩
    refine ⟨Nat.zero_le _, fun L hL => ?_⟩
    have s1 : Same H (upd H L (.lst [])) := same_upd hL
    refine ⟨_, rfl, ts, as.map V.ref, rfl, same_sqT s1 hts, ?_⟩
    have hn : (as.map V.ref).length = st.length := by rw [List.length_map, hst.len]
    refine for_it (walk_enumT (xs := as.map V.ref)) (fun i σ H2 => ∃ (ss : List Addr) (v5 v6 v7 : Option V), σ = [some (.ref ts), some (.int most), some (.ref L), some (.int (sz (st.take i))), some (.int (nk (st.take i))), v5, v6, v7] ∧
      Same H H2 ∧ H2 L = some (.lst (ss.map V.ref)) ∧ SpansAt (CS K) H2 ss (st.take i)) ⟨[], none, none, none, rfl, s1, upd_same, SpansAt.nil⟩ ?_ ?_ ?_
    · rintro i σ H2 _ ⟨ss, v5, v6, v7, _, s2, _⟩
      exact same_sqT s2 hts
    · rintro i v σ H2 H3 hi ⟨ss, v5, v6, v7, rfl, s2, hL2, sp⟩ ⟨TT, x0, y0, rfl, hT, rfl, e0, e1⟩
      rw [hn] at hi
      obtain ⟨x, hx⟩ : ∃ x, st[i]? = some x := ⟨st[i], List.getElem?_eq_getElem hi⟩
      obtain ⟨a, ha, hst2⟩ := hst.at_ i x hx
      obtain ⟨ok, lim⟩ := goes_at good hx
      have ex0 : x0 = .int (i : Nat) := (Option.some.inj e0).symm
      have ey0 : y0 = .ref a := map_at ha e1
      subst ex0 ey0
      have s3 := s2.trans (same_upd (o := .tup [.int (i : Nat), .ref a]) hT)
      refine ⟨TT, [.int (i : Nat), .ref a], rfl, .inl (.inl upd_same), rfl, _, _, rfl, _, _, rfl, rfl, ?_⟩
      have hi30 : i < 30 := by omega
      refine ⟨_, rfl, _, _, rfl, rfl, _, rfl, ?_⟩
      refine ite2 (fun h => absurd (of_decide_eq_true h) (by omega)) fun _ => ?_
      refine ⟨_, rfl, _, rfl, _, _, true, rfl, stepArg_of (same_sqT s3 hst2) ok, fun H4 s4 => ⟨true, rfl, ?_⟩⟩
      refine iteF ?_
      have s34 := s3.trans s4
      refine ⟨_, rfl, _, rfl, _, rfl, a, x, _, _, rfl, same_sqT s34 hst2, ok, fun p dx H5 hp s5 e5 => ?_⟩
      have s25 : Same H2 H5 := (same_upd (o := .tup [.int (i : Nat), .ref a]) hT).trans (s4.trans s5)
      refine ⟨_, rfl, p, _, dx, _, _, rfl, e5, T.clS, T.nS2, spF_end _ _ _, _, rfl, _, _, rfl, rfl, _, rfl, ?_⟩
      refine ite2 (fun h => absurd (of_decide_eq_true h) (by omega)) fun _ => ?_
      refine ⟨_, rfl, p, _, dx, _, _, rfl, e5, T.clS, T.nS3, spF_key _ _ _, _, rfl, ?_⟩
      have ez : sz (st.take (i + 1)) = sz (st.take i) + x.gr := by rw [take_succ hx, sz_app, sz_cons]; rfl
      have en : nk (st.take (i + 1)) = nk (st.take i) + x.ks := by rw [take_succ hx, nk_app]; simp [nk]
      have hL5 : H5 L = some (.lst (ss.map V.ref)) := s25 _ _ hL2
      have hz : (ss.map V.ref).length < sizeLine := by
        rw [List.length_map, sp.len, List.length_take]
        exact Nat.lt_of_le_of_lt (Nat.le_trans (Nat.min_le_left _ _) (Nat.le_of_lt hi30)) (by decide)
      have fin : ∃ (ss2 : List Addr) (v5 v6 v7 : Option V), ([some (.ref ts), some (.int most), some (.ref L), some (.int (sz (st.take (i + 1)))), some (.int (nk (st.take (i + 1)))), some (.int (i : Nat)), some (.ref a), some (.ref p)] : L2.St) =
          [some (.ref ts), some (.int most), some (.ref L), some (.int (sz (st.take (i + 1)))), some (.int (nk (st.take (i + 1)))), v5, v6, v7] ∧
          Same H (upd H5 L (.lst (ss.map V.ref ++ [.ref p]))) ∧ (upd H5 L (.lst (ss.map V.ref ++ [.ref p]))) L = some (.lst (ss2.map V.ref)) ∧ SpansAt (CS K) (upd H5 L (.lst (ss.map V.ref ++ [.ref p]))) ss2 (st.take (i + 1)) := by
        refine ⟨ss ++ [p], _, _, _, rfl, fun b o e => ?_, by rw [upd_same, List.map_append]; rfl, ?_⟩
        · rw [upd_ne (ne_of_none e hL)]
          exact s25 _ _ (s2 _ _ e)
        · have keep : ∀ b C d fs, H5 b = some (.ins C d fs) → (upd H5 L (.lst (ss.map V.ref ++ [.ref p]))) b = some (.ins C d fs) := fun b C d fs e => by
            rw [upd_ne (ne_of e hL5 (by intro z; cases z))]
            exact e
          have sp5 := sp.same s25
          have sp6 : SpansAt (CS K) (upd H5 L (.lst (ss.map V.ref ++ [.ref p]))) ss (st.take i) := ⟨sp5.len, fun j y hy => let ⟨b, d, h1, h2⟩ := sp5.at_ j y hy; ⟨b, d, h1, keep _ _ _ _ h2⟩⟩
          rw [take_succ hx]
          exact sp6.snoc (keep _ _ _ _ e5)
      obtain ⟨ss2, _, _, _, _, b1, b2, b3⟩ := fin
      have st2 : ∀ (s k : Int), s = (sz (st.take (i + 1)) : Nat) → k = (nk (st.take (i + 1)) : Nat) → ([some (.ref ts), some (.int most), some (.ref L), some (.int s), some (.int k), some (.int (i : Nat)), some (.ref a), some (.ref p)] : L2.St) =
          [some (.ref ts), some (.int most), some (.ref L), some (.int (sz (st.take (i + 1)))), some (.int (nk (st.take (i + 1)))), some (.int (i : Nat)), some (.ref a), some (.ref p)] := fun s k e1 e2 => by rw [e1, e2]
      cases x with
      | wr w =>
        refine ⟨_, rfl, _, rfl, p, _, dx, _, _, rfl, e5, T.clS, T.nS2, spF_end _ _ _, _, _, rfl, rfl, _, rfl, p, _, dx, _, _, rfl, e5, T.clS, T.nS1, spF_begin _ _ _, _, _, rfl, rfl, ?_⟩
        refine ⟨_, rfl, p, _, dx, _, _, rfl, e5, T.clS, T.nS2, spF_end _ _ _, ?_⟩
        refine ⟨_, rfl, .inl ⟨rfl, _, SqL.of hL5⟩, _, rfl, L, _, _, rfl, rfl, hL5, hz, ?_⟩
        refine ⟨ss2, _, _, _, st2 _ _ (by rw [ez]) ?_, b1, b2, b3⟩
        rw [en]
        simp only [Stp.ks, Stp.gr]
        omega
      | pa f0 l t =>
        refine ⟨_, rfl, p, _, dx, _, _, rfl, e5, T.clS, T.nS2, spF_end _ _ _, ?_⟩
        refine ⟨_, rfl, .inl ⟨rfl, _, SqL.of hL5⟩, _, rfl, L, _, _, rfl, rfl, hL5, hz, ?_⟩
        exact ⟨ss2, _, _, _, st2 _ _ (by rw [ez]) (by rw [en]; rfl), b1, b2, b3⟩
    · rintro σ H2 ⟨ss, v5, v6, v7, rfl, s2, hL2, sp⟩
      rw [hn, List.take_length] at sp
      refine ⟨_, rfl, L, _, rfl, .inl ⟨SqL.of hL2, fun p hp => ?_⟩⟩
      exact q p ss _ (s2.trans (same_upd hp)) (.inl (.inl upd_same)) (sp.same (same_upd hp))
end
end KL
namespace KL
open PySem PySem.Spec PyProof.Rows L2 Pk He
def spKeyAt (K : Fr) : Sp := fun vs H Q _ => ∃ (sp : Addr) (p : Nat) (ss : List Addr) (st : List Stp), vs = [.ref sp, .int p] ∧ SqT K H sp (ss.map V.ref) ∧ SpansAt (CS K) H ss st ∧ Goes most 0 st ∧ p < sz st ∧ ∀ (k : Nat) H2, Same H H2 → (ex st)[p]? = some k → Q (.int k) H2
def srcOf : Stp → Nat
  | .wr _ => 0
  | .pa f _ _ => f
def widOf : Stp → Nat
  | .wr _ => 0
  | .pa f l _ => l + 1 - f
theorem spF_source (x : Stp) (s n : Nat) : (spF x s n).lookup ("source" : Str) = some (.int (srcOf x : Nat)) := by
  cases x <;> rfl
theorem spF_width (x : Stp) (s n : Nat) : (spF x s n).lookup ("width" : Str) = some (.int (widOf x : Nat)) := by
  cases x <;> rfl
theorem map_get {ss : List Addr} {i : Nat} {a : Addr} (h : ss[i]? = some a) : (ss.map V.ref)[i]? = some (.ref a) := by
  rw [List.getElem?_map, h]
  rfl
section
variable {P : Program} {w : World} {K : Fr} {mg : Str → Option Value} {base : Heap} {f : Addr}
theorem scKeyAt : FnScope ["spans", "place", "at", "_", "rest"] ["spans", "place"] (defScope sKeyAt) := ⟨rfl, rfl, rfl, by decide +kernel, rfl, by decide +kernel, by decide +kernel⟩
theorem ok_key_at (D : Df K "key_at" "key_at" sKeyAt f) (T : Tc w K mg) : Kp P w K mg base 1 f (spKeyAt K) := by
  refine kp_of D scKeyAt (fun _ _ _ _ _ _ us hl => match us, hl with | [_, _], _ => rfl) ?_ (fun cdv A outer s H vs Q E hr h => ?_)
  · rintro vs H Q E ⟨sp, p, ss, st, rfl, _⟩
    rfl
  · obtain ⟨sp, p, ss, st, rfl, hsp, hss, good, hp, q⟩ := h
    have hlen : 0 < st.length := by
      rcases st with _ | ⟨x, r⟩
      · exact absurd hp (Nat.not_lt_zero _)
      · exact Nat.succ_pos _
    refine ⟨_, (pss_cons (ps_set (i := 2) scKeyAt.nd rfl (Or.inl rfl) (pe_op op_sub (pk_b1 call_len_seq T.len b_len (pv 0)) pe_int)) (pss_cons (ps_while PassesOwn.never (pw_or (pt_cmpR op_lt (pv 1) (pe_fld (pe_ix ix_tup (pv 0) (pv 2) (fun _ _ => rfl)) rfl) (nomark _)) (pw_or1 (pt_cmp (pc_isN (pe_fld (pe_ix ix_tup (pv 0) (pv 2) (fun _ _ => rfl)) rfl))))).pt (pss_cons (ps_if (pt_cmpR op_ge (pv 1) (pe_fld (pe_ix ix_tup (pv 0) (pv 2) (fun _ _ => rfl)) rfl) (nomark _)) (pss_cons (ps_asg (pe_callB call_divmodW (by rfl) T.dm b_divmod (pa_cons (pe_op op_sub (pv 1) (pe_fld (pe_ix ix_tup (pv 0) (pv 2) (fun _ _ => rfl)) rfl)) (pa_cons (pe_fld (pe_ix ix_tup (pv 0) (pv 2) (fun _ _ => rfl)) rfl) pa_nil))) (pg_tup rfl (pgs_cons (pg_name (i := 3) scKeyAt.nd rfl (Or.inl rfl)) (pgs_cons (pg_name (i := 4) scKeyAt.nd rfl (Or.inl rfl)) pgs_nil)))) (pss_one (ps_set (i := 1) scKeyAt.nd rfl (Or.inl rfl) (pe_op op_add (pe_fld (pe_ix ix_tup (pv 0) (pv 2) (fun _ _ => rfl)) rfl) (pv 4))))) pss_nil) (pss_one (ps_set (i := 2) scKeyAt.nd rfl (Or.inl rfl) (pe_op op_sub (pv 2) pe_int))))) (pss_one (ps_ret (pe_op op_sub (pe_op op_add (pe_fld (pe_ix ix_tup (pv 0) (pv 2) (fun _ _ => rfl)) rfl) (pv 1)) (pe_fld (pe_ix ix_tup (pv 0) (pv 2) (fun _ _ => rfl)) rfl)))))), ?_⟩
    refine ⟨_, rfl, _, _, rfl, (.inr (same_sqT (Same.refl _) hsp)), _, _, rfl, rfl, ?_⟩
    refine ⟨fun m σ H2 => ∃ (pl : Nat) (v3 v4 : Option V), Same H H2 ∧ σ = [some (.ref sp), some (.int pl), some (.int m), v3, v4] ∧ m < st.length ∧ pl < sz (st.take (m + 1)) ∧ (ex st)[pl]? = (ex st)[p]?, ⟨st.length - 1, p, none, none, Same.refl _, ?_, by omega, ?_, rfl⟩, ?_⟩
    · show ([some (.ref sp), some (.int p), some (.int (((ss.map V.ref).length : Int) - 1)), none, none] : L2.St) = _
      rw [List.length_map, hss.len, show ((st.length : Int) - 1) = ((st.length - 1 : Nat) : Int) by omega]
    · rw [show st.length - 1 + 1 = st.length by omega, List.take_length]
      exact hp
    · rintro m σ H2 ⟨pl, v3, v4, s2, rfl, ha, hpl, he⟩
      obtain ⟨x, hx⟩ : ∃ x, st[m]? = some x := ⟨st[m], List.getElem?_eq_getElem ha⟩
      obtain ⟨ok, lim⟩ := goes_at good hx
      obtain ⟨b, dx, hb, e5⟩ := hss.at_ m x hx
      have hix : atI (ss.map V.ref) (m : Int) = some (.ref b) := atI_nat (map_get hb)
      have down : 0 < m → ∀ (σ' : L2.St) (H' : Hp), (∃ (pl : Nat) (v3 v4 : Option V), Same H H' ∧ σ' = [some (.ref sp), some (.int pl), some (.int (m - 1 : Nat)), v3, v4] ∧ pl < sz (st.take m) ∧ (ex st)[pl]? = (ex st)[p]?) →
          ∃ m', m' < m ∧ ∃ (pl : Nat) (v3 v4 : Option V), Same H H' ∧ σ' = [some (.ref sp), some (.int pl), some (.int m'), v3, v4] ∧ m' < st.length ∧ pl < sz (st.take (m' + 1)) ∧ (ex st)[pl]? = (ex st)[p]? := by
        rintro h0 σ' H' ⟨pl2, v3, v4, s3, rfl, h2, h3⟩
        refine ⟨m - 1, by omega, pl2, v3, v4, s3, rfl, by omega, ?_, h3⟩
        rw [show m - 1 + 1 = m by omega]
        exact h2
      have st3 : 0 < m → ∀ (z : Nat) (v3 v4 : Option V), ([some (.ref sp), some (.int z), some (.int ((m : Int) - 1)), v3, v4] : L2.St) = [some (.ref sp), some (.int z), some (.int (m - 1 : Nat)), v3, v4] := fun h0 z _ _ => by rw [show ((m : Int) - 1) = ((m - 1 : Nat) : Int) by omega]
      refine ⟨_, rfl, _, rfl, _, rfl, _, _, _, _, rfl, rfl, (same_sqT s2 hsp), hix, _, _, _, _, _, rfl, (s2 _ _ e5), T.clS, T.nS1, (spF_begin _ _ _), _, _, rfl, rfl, _, rfl, ?_⟩
      refine iB (fun h1 => ?_) fun h1 => ?_
      · have h0 : 0 < m := by
          rcases Nat.eq_zero_or_pos m with e | e
          · rw [e] at h1
            exact absurd h1 (by show ¬ ((pl : Int) < ((0 : Nat) : Int)); omega)
          · exact e
        refine iteT ?_
        refine ⟨_, down h0, ?_⟩
        refine ⟨_, rfl, _, rfl, _, rfl, _, _, _, _, rfl, rfl, (same_sqT s2 hsp), hix, _, _, _, _, _, rfl, (s2 _ _ e5), T.clS, T.nS1, (spF_begin _ _ _), _, _, rfl, rfl, _, rfl, ?_⟩
        refine iF (dF (by omega)) ?_
        refine ⟨_, rfl, _, _, rfl, rfl, ?_⟩
        exact ⟨pl, _, _, s2, st3 h0 pl _ _, by omega, he⟩
      · have h1 : sz (st.take m) ≤ pl := by omega
        cases x with
        | wr w =>
          refine ⟨_, rfl, _, rfl, _, _, _, _, rfl, rfl, (same_sqT s2 hsp), hix, _, _, _, _, _, rfl, (s2 _ _ e5), T.clS, T.nS3, rfl, _, rfl, ?_⟩
          refine iF (dF (by intro z; cases z)) ?_
          refine ⟨_, rfl, _, rfl, _, _, _, _, rfl, rfl, (same_sqT s2 hsp), hix, _, _, _, _, _, rfl, (s2 _ _ e5), T.clS, T.nS3, rfl, _, rfl, _, _, rfl, rfl, _, rfl, _, rfl, _, _, _, _, rfl, rfl, (same_sqT s2 hsp), hix, _, _, _, _, _, rfl, (s2 _ _ e5), T.clS, T.nS1, rfl, _, _, rfl, rfl, ?_⟩
          have e8 := ex_wr good hx h1 hpl
          rw [he] at e8
          have q2 := q _ _ s2 e8
          rw [show ((nk (st.take m) + (pl - sz (st.take m)) : Nat) : Int) = ((nk (st.take m) : Int) + (pl : Int)) - (sz (st.take m) : Int) by omega] at q2
          exact q2
        | pa f0 l t =>
          have okn := ok
          simp [Stp.ok] at okn
          have hz := sz_most good
          have hmost : most = 1000000000000000000 := rfl
          have hzi : sz (st.take (m + 1)) ≤ sz st := by have z := sz_app (st.take (m + 1)) (st.drop (m + 1)); rw [List.take_append_drop] at z; omega
          have h0 : 0 < m := by
            rcases Nat.eq_zero_or_pos m with e | e
            · rw [e] at okn
              exact absurd okn.1.1.2 (Nat.not_lt_zero _)
            · exact e
          obtain ⟨e8, e9⟩ := ex_pa good hx h1 hpl
          have hl18 : l < 1000000000000000000 := by omega
          refine ⟨_, rfl, _, rfl, _, _, _, _, rfl, rfl, (same_sqT s2 hsp), hix, _, _, _, _, _, rfl, (s2 _ _ e5), T.clS, T.nS3, rfl, _, rfl, ?_⟩
          refine iT (dT rfl) ?_
          refine ⟨_, down h0, ?_⟩
          refine ⟨_, rfl, _, rfl, _, rfl, _, _, _, _, rfl, rfl, (same_sqT s2 hsp), hix, _, _, _, _, _, rfl, (s2 _ _ e5), T.clS, T.nS1, rfl, _, _, rfl, rfl, _, rfl, ?_⟩
          refine iT (dT (by omega)) ?_
          refine ⟨_, rfl, _, rfl, _, rfl, _, _, _, _, rfl, rfl, (same_sqT s2 hsp), hix, _, _, _, _, _, rfl, (s2 _ _ e5), T.clS, T.nS1, rfl, _, _, rfl, rfl, _, rfl, _, rfl, _, _, _, _, rfl, rfl, (same_sqT s2 hsp), hix, _, _, _, _, _, rfl, (s2 _ _ e5), T.clS, T.nS5, rfl, _, _, rfl, (by exact divp (by omega) (by omega)), fun tp n => ?_⟩
          refine ⟨_, _, rfl, (SqT.of upd_same), rfl, _, _, rfl, _, _, rfl, rfl, _, rfl, _, rfl, _, _, _, _, rfl, rfl, (same_sqT (same_own s2 (s2.free n)) hsp), hix, _, _, _, _, _, rfl, (same_upd n _ _ (s2 _ _ e5)), T.clS, T.nS4, rfl, _, rfl, _, _, rfl, rfl, _, rfl, _, _, rfl, rfl, ?_⟩
          have e10 : ((f0 : Int) + ((pl : Int) - (sz (st.take m) : Int)) % ((l + 1 - f0 : Nat) : Int)) = ((f0 + (pl - sz (st.take m)) % (l + 1 - f0) : Nat) : Int) := by
            rw [show ((pl : Int) - (sz (st.take m) : Int)) = ((pl - sz (st.take m) : Nat) : Int) by omega]
            rfl
          have e11 : ∀ a c : Option V, ([some (.ref sp), some (.int ((f0 : Int) + ((pl : Int) - (sz (st.take m) : Int)) % ((l + 1 - f0 : Nat) : Int))), some (.int ((m : Int) - 1)), a, c] : L2.St) = [some (.ref sp), some (.int (f0 + (pl - sz (st.take m)) % (l + 1 - f0) : Nat)), some (.int (m - 1 : Nat)), a, c] := fun a c => by
            rw [e10]
            exact st3 h0 _ _ _
          exact ⟨_, _, _, s2.trans (same_upd n), e11 _ _, e9, e8.symm.trans he⟩
end
end KL
namespace KL
open PySem PySem.Spec PyProof.Rows L2 Pk He
def mv (s : Nat) : Stp → Stp
  | .wr w => .wr w
  | .pa f l t => .pa (f + s) (l + s) t
def spMoved (K : Fr) : Sp := fun vs H Q _ => ∃ (a : Addr) (x : Stp) (s : Nat), vs = [.ref a, .int s] ∧ SqT K H a (stV x) ∧ ∀ b H2, Same H H2 → SqT K H2 b (stV (mv s x)) → Q (.ref b) H2
/-- the words of the steps that write -/
def wrs (st : List Stp) : List (List Nat) := st.filterMap fun x => match x with
  | .wr w => some w
  | .pa _ _ _ => none
theorem wrs_flat (st : List Stp) : (wrs st).flatten = typed st := by
  induction st with
  | nil => rfl
  | cons x r ih =>
    cases x with
    | wr w =>
      show (w :: wrs r).flatten = w ++ typed r
      rw [List.flatten_cons, ih]
    | pa f l t => exact ih
def isWr (st : List Stp) (i : Nat) : Bool := match st[i]? with
  | some (.wr _) => true
  | _ => false
def wrV (st : List Stp) (i : Nat) : V := match st[i]? with
  | some (.wr w) => .str (sL w)
  | _ => .non
theorem keeps_wrs (st : List Stp) : ∀ n, n ≤ st.length → keeps n (isWr st) (wrV st) = ((wrs (st.take n)).map sL).map V.str
  | 0, _ => rfl
  | n + 1, h => by
    have ih := keeps_wrs st n (by omega)
    have e : st[n]? = some (st[n]'(by omega)) := List.getElem?_eq_getElem (by omega)
    rw [keeps_succ, ih, take_succ e]
    generalize st[n]'(by omega) = x at e
    unfold isWr wrV wrs
    rw [e, List.filterMap_append]
    cases x with
    | wr w => simp
    | pa f l t => simp
theorem join_is (y : Str) (p : List Str) : Txt.join y p = Str.join y p := StrLaws.glued_eq_join y p
theorem join0 : ∀ ws : List (List Nat), Txt.join (Str.ofString "") (ws.map sL) = sL ws.flatten
  | [] => rfl
  | [w] => by
    rw [join_is]
    show sL w = sL ([w].flatten)
    simp
  | w :: x :: r => by
    have ih := join0 (x :: r)
    rw [join_is] at ih ⊢
    show sL w ++ Str.ofString "" ++ Str.join (Str.ofString "") ((x :: r).map sL) = _
    rw [ih, show (Str.ofString "") = sL [] from rfl, sL_app, sL_app, List.append_nil, List.flatten_cons (l := w)]
def spTextInit (K : Fr) : Sp := fun vs H Q _ => ∃ (x dx ts : Addr) (as : List Addr) (st : List Stp), vs = [.ref x, .ref ts] ∧ H x = some (.ins (CT K) dx []) ∧ SqT K H ts (as.map V.ref) ∧ StepsAt K H as st ∧ Goes most 0 st ∧ st.length ≤ 30 ∧
  ∀ H2 sp ss, (∀ b o, b ≠ x → H b = some o → H2 b = some o) → H2 x = some (.ins (CT K) dx (txF ts sp st)) → SqT K H2 sp (ss.map V.ref) → SpansAt (CS K) H2 ss st → Q .non H2
theorem sqT_but {K : Fr} {H H2 : Hp} {r a C d : Addr} {fs : List (Str × V)} {xs : List V} (hr : H r = some (.ins C d fs)) (b : But r H H2) (h : SqT K H a xs) : SqT K H2 a xs := by
  rcases h with (h | ⟨o, h⟩) | h
  · exact .inl (.inl (b _ _ (ne_of h hr (by intro z; cases z)) h))
  · exact .inl (.inr ⟨o, b _ _ (ne_of h hr (by intro z; cases z)) h⟩)
  · exact .inr h
theorem steps_but {K : Fr} {H H2 : Hp} {r C d : Addr} {fs : List (Str × V)} {as : List Addr} {st : List Stp} (hr : H r = some (.ins C d fs)) (b : But r H H2) (h : StepsAt K H as st) : StepsAt K H2 as st :=
  ⟨h.len, fun i x hx => let ⟨a, h1, h2⟩ := h.at_ i x hx; ⟨a, h1, sqT_but hr b h2⟩⟩
theorem spans_but {CS : Addr} {H H2 : Hp} {r C d : Addr} {fs : List (Str × V)} {ss : List Addr} {st : List Stp} (hne : CS ≠ C) (hr : H r = some (.ins C d fs)) (b : But r H H2) (h : SpansAt CS H ss st) : SpansAt CS H2 ss st :=
  ⟨h.len, fun i x hx => let ⟨a, dx, h1, h2⟩ := h.at_ i x hx; ⟨a, dx, h1, b _ _ (ne_of h2 hr (by intro z; injection z with z; exact hne z)) h2⟩⟩
theorem but_upd {H : Hp} {r : Addr} {o : HO} : But r H (upd H r o) := fun b u hn e => by
  rw [upd_ne hn]
  exact e
theorem ite_same {k : Bool} {ta tb : TE} {σ : L2.St} {H : Hp} {Q : VK} (v : V) (h : Q v H) (h1 : k = true → Q v H → ta σ H Q) (h2 : k = false → Q v H → tb σ H Q) : if k = true then ta σ H Q else tb σ H Q := by
  cases k with
  | true => exact iteT (h1 rfl h)
  | false => exact iteF (h2 rfl h)
theorem put2 (a v : V) : putF "spans" v ([("_steps", a)] : List (Str × V)) = ([("_steps", a), ("spans", v)] : List (Str × V)) := (putF_new (f := "spans") (ns := ["_steps"]) rfl (by decide +kernel)).trans rfl
theorem put3 (a b v : V) : putF "_size" v ([("_steps", a), ("spans", b)] : List (Str × V)) = ([("_steps", a), ("spans", b), ("_size", v)] : List (Str × V)) := (putF_new (f := "_size") (ns := ["_steps", "spans"]) rfl (by decide +kernel)).trans rfl
theorem put4 (a b c v : V) : putF "_typed" v ([("_steps", a), ("spans", b), ("_size", c)] : List (Str × V)) = ([("_steps", a), ("spans", b), ("_size", c), ("_typed", v)] : List (Str × V)) := (putF_new (f := "_typed") (ns := ["_steps", "spans", "_size"]) rfl (by decide +kernel)).trans rfl
theorem snoc_of {α : Type} {l : List α} (h : l ≠ []) : ∃ r y, l = r ++ [y] := ⟨l.dropLast, l.getLast h, (List.dropLast_concat_getLast h).symm⟩
theorem atI_last {α : Type} {xs : List α} {y : α} : atI (xs ++ [y]) (-1) = some y := by
  unfold atI ixN
  rw [if_neg (by omega), if_pos (by simp; omega)]
  show (xs ++ [y])[((-1 : Int) + ((xs ++ [y]).length : Int)).toNat]? = some y
  have e : ((-1 : Int) + ((xs ++ [y]).length : Int)).toNat = xs.length := by
    rw [List.length_append]
    simp
    omega
  rw [e, List.getElem?_append_right (Nat.le_refl _), Nat.sub_self]
  rfl
section
variable {P : Program} {w : World} {K : Fr} {mg : Str → Option Value} {base : Heap} {f : Addr}
theorem scMoved : FnScope ["step", "shift"] ["step", "shift"] (defScope sMoved) := ⟨rfl, rfl, rfl, by decide +kernel, rfl, by decide +kernel, by decide +kernel⟩
theorem ok_moved (D : Df K "moved_step" "moved_step" sMoved f) (T : Tc w K mg) : Kp P w K mg base 1 f (spMoved K) := by
  refine kp_of D scMoved (fun _ _ _ _ _ _ us hl => match us, hl with | [_, _], _ => rfl) ?_ (fun cdv A outer s H vs Q E hr h => ?_)
  · rintro vs H Q E ⟨a, x, s, rfl, _⟩
    rfl
  · obtain ⟨a, x, s, rfl, hx, q⟩ := h
    refine ⟨_, (pss_cons (ps_if (pt_cmpR op_eq (pe_ix ix_tup (pv 0) pe_int (fun _ _ => rfl)) pe_str (nomark _)) (pss_one (ps_ret (pv 0))) pss_nil) (pss_one (ps_ret (pe_tup (pa_cons pe_str (pa_cons (pe_op op_add (pe_ix ix_tup (pv 0) pe_int (fun _ _ => rfl)) (pv 1)) (pa_cons (pe_op op_add (pe_ix ix_tup (pv 0) pe_int (fun _ _ => rfl)) (pv 1)) (pa_cons (pe_ix ix_tup (pv 0) pe_int (fun _ _ => rfl)) pa_nil)))))))), ?_⟩
    cases x with
    | wr w =>
      refine ⟨_, rfl, a, _, _, _, rfl, rfl, hx, atI_nat (j := 0) rfl, rfl, _, rfl, ?_⟩
      refine iteT ?_
      exact ⟨_, rfl, q a H (Same.refl H) hx⟩
    | pa f0 l t =>
      have hb : decide (V.str "paste" = V.str "write") = false := decide_eq_false wr_ne_pa.symm
      refine ⟨_, rfl, a, _, _, _, rfl, rfl, hx, atI_nat (j := 0) rfl, rfl, _, rfl, ?_⟩
      rw [hb]
      refine iteF ?_
      refine ⟨_, rfl, a, _, _, _, rfl, rfl, hx, atI_nat (j := 1) rfl, _, rfl, _, _, rfl, rfl, _, rfl, a, _, _, _, rfl, rfl, hx, atI_nat (j := 2) rfl, _, rfl, _, _, rfl, rfl, _, rfl, a, _, _, _, rfl, rfl, hx, atI_nat (j := 3) rfl, (by show 4 ≤ sizeLine; decide), fun p hp => ?_⟩
      exact q p _ (same_upd hp) (.inl (.inl upd_same))
abbrev nInit : List Str := ["self", "steps", "step"]
theorem scInit : FnScope nInit ["self", "steps"] (defScope sInit) := ⟨rfl, rfl, rfl, by decide +kernel, rfl, by decide +kernel, by decide +kernel⟩
theorem ok_init (D : Df K "__init__" "Text.__init__" sInit f) (T : Tc w K mg) (GS : Kp P w K mg base 4 (ga K "spans_of") (spSpansOf K)) :
    FnR P w K mg base CX0 5 f (fun vs H Q E => ∃ ws rest, vs = ws ++ rest ∧ ws.length = (["self"] : List Str).length ∧ rest.length ≤ sizeLine ∧ ∀ p, H p = none → spTextInit K (ws ++ [V.ref p]) (upd H p (.tup rest)) Q E) := by
  obtain ⟨fd, F⟩ := D
  obtain ⟨oc, od, kV, doc, pm, an, cdv, ct, osl, rfl, lk, hcd⟩ := (He5.fun_of F).ex
  refine StX.fn_star (ps := ["self"]) (pv := "steps") (sp := spTextInit K) lk hcd scInit StX.cxUp_none (StX.bind_star1 (B := fun l => bindArgs (PySem.W.fnOf "__init__" "Text.__init__" (defArgs sInit) (defBody sInit) (defScope sInit) .none kV doc pm an cdv ct) ⟨l, []⟩) (p1 := "self") (pv := "steps") (fun _ => rfl) (fun _ _ _ => rfl)) fun A outer s H vs Q E hr h => ?_
  obtain ⟨x, dx, ts, as, st, rfl, hx, hts, hst, good, few, q⟩ := h
  obtain ⟨tk, hMax⟩ := T.maxSize
  refine ⟨_, PSs.nox (pss_cons (ps_fld (pv 0) (pv 1) rfl) (pss_cons (ps_fld (pv 0) (pk_call GS (hr.mono (by decide)) T.gSpansOf (pa_cons (pv 1) (pa_cons (ClX.pe_cval (pe_gR T.gText)) pa_nil))) rfl) (pss_cons (ps_fld (pv 0) (pe_ifExp (pt_truth (pe_fld (pv 0) rfl) (fun _ => rfl)) (pe_fld (pe_ix ix_tup (pe_fld (pv 0) rfl) (pe_un un_neg pe_int) (fun _ _ => rfl)) rfl) pe_int) rfl) (pss_one (ps_fld (pv 0) (pe_join pe_str (pe_lc (own := [("step", 2)]) (g := gName 2) rfl scInit.nd (pi_tup (pv 1)) (blkOk_by (N := ["self", "steps", "step"]) (sc := defScope sInit) (by decide +kernel)) (fun _ _ _ _ _ => (pg_name (i := 2) scInit.nd rfl (Or.inl rfl))) (fun _ _ _ _ _ => (pts_one (pt_cmpR op_eq (pe_ix (ixT K) (pv 2) pe_int (fun _ _ => rfl)) pe_str (nomark _)))) (fun _ _ _ _ _ => (pe_ix (ixT K) (pv 2) pe_int (fun _ _ => rfl))))) rfl))))), ?_⟩
  refine ⟨_, rfl, _, rfl, x, _, dx, _, rfl, hx, T.clT, T.nT1, by decide, ?_⟩
  have e1 : putF "_steps" (.ref ts) ([] : List (Str × V)) = [(("_steps" : Str), .ref ts)] := rfl
  rw [e1]
  have b1 : But x H (upd H x (.ins (CT K) dx [(("_steps" : Str), .ref ts)])) := but_upd
  refine ⟨_, rfl, _, _, _, _, rfl, T.rd, hMax, ts, as, st, rfl, sqT_but hx b1 hts, steps_but hx b1 hst, good, few, fun sp ss H2 s2 hsp hss => ?_⟩
  have x2 : H2 x = some (.ins (CT K) dx [(("_steps" : Str), .ref ts)]) := s2 _ _ upd_same
  refine ⟨_, rfl, x, _, dx, _, rfl, x2, T.clT, T.nT2, (by show 1 < 1000; decide), ?_⟩
  rw [put2]
  have b3 : But x H2 (upd H2 x (.ins (CT K) dx [("_steps", .ref ts), ("spans", .ref sp)])) := but_upd
  generalize hH3 : upd H2 x (.ins (CT K) dx [("_steps", .ref ts), ("spans", .ref sp)]) = H3 at b3
  have x3 : H3 x = some (.ins (CT K) dx [("_steps", .ref ts), ("spans", .ref sp)]) := by
    rw [← hH3, upd_same]
  have hsp3 := sqT_but x2 b3 hsp
  have hss3 := spans_but T.csct x2 b3 hss
  have hts3 : SqT K H3 ts (as.map V.ref) := sqT_but x2 b3 (same_sqT s2 (sqT_but hx b1 hts))
  have hst3 : StepsAt K H3 as st := steps_but x2 b3 ((steps_but hx b1 hst).same s2)
  have bH : But x H H3 := b1.trans ((Same.but s2).trans b3)
  refine ⟨_, rfl, x, _, dx, _, _, rfl, x3, T.clT, T.nT2, rfl, _, .inr (.inl ⟨_, hsp3, rfl⟩), ?_⟩
  refine ite_same (.int (sz st : Nat)) ?_ (fun hk h => ?_) fun hk h => ?_
  · refine ⟨_, rfl, x, _, dx, _, rfl, x3, T.clT, T.nT3, (by show 2 < 1000; decide), ?_⟩
    rw [put3]
    have b4 : But x H3 (upd H3 x (.ins (CT K) dx [("_steps", .ref ts), ("spans", .ref sp), ("_size", .int (sz st : Nat))])) := but_upd
    generalize hH4 : upd H3 x (.ins (CT K) dx [("_steps", .ref ts), ("spans", .ref sp), ("_size", .int (sz st : Nat))]) = H4 at b4
    have x4 : H4 x = some (.ins (CT K) dx [("_steps", .ref ts), ("spans", .ref sp), ("_size", .int (sz st : Nat))]) := by
      rw [← hH4, upd_same]
    have hsp4 := sqT_but x3 b4 hsp3
    have hss4 := spans_but T.csct x3 b4 hss3
    have hts4 := sqT_but x3 b4 hts3
    have hst4 := steps_but x3 b4 hst3
    refine ⟨⟨_, rfl⟩, ⟨_, rfl, ts, rfl, ⟨_, hts4⟩, fun D hD => ?_⟩⟩
    have hn : (as.map V.ref).length = st.length := by rw [List.length_map, hst.len]
    refine lc_keep walk_tup hD (isWr st) (wrV st) (by rw [hn]; exact Nat.le_trans few (by decide)) (fun H5 s5 => same_sqT s5 hts4) ?_ ?_
    · rintro i v H5 H6 N N0 hi s5 ⟨rfl, hv⟩ h1 h2
      rw [hn] at hi
      obtain ⟨y, hy⟩ : ∃ y, st[i]? = some y := ⟨st[i], List.getElem?_eq_getElem hi⟩
      obtain ⟨a, ha, hay⟩ := hst4.at_ i y hy
      have ev : v = .ref a := map_at ha hv
      subst ev
      have hay5 := same_sqT s5 hay
      cases y with
      | wr w =>
        refine ⟨rfl, _, rfl, a, _, _, _, rfl, rfl, hay5, atI_nat (j := 0) rfl, rfl, _, rfl, ?_⟩
        refine iteT ?_
        refine ⟨_, rfl, a, _, _, _, rfl, rfl, hay5, atI_nat (j := 1) rfl, ?_⟩
        have e1 : isWr st i = true := by unfold isWr; rw [hy]
        have e2 : wrV st i = .str (sL w) := by unfold wrV; rw [hy]
        have q1 := h1 e1 _ (Same.refl _)
        rw [e2] at q1
        exact q1
      | pa f0 l t =>
        refine ⟨rfl, _, rfl, a, _, _, _, rfl, rfl, hay5, atI_nat (j := 0) rfl, rfl, _, rfl, ?_⟩
        rw [show decide (V.str "paste" = V.str "write") = false from decide_eq_false wr_ne_pa.symm]
        refine iteF ?_
        have e1 : isWr st i = false := by unfold isWr; rw [hy]
        exact h2 e1 _ (Same.refl _)
    · intro H5 s5 hD5
      rw [hn, keeps_wrs st st.length (Nat.le_refl _), List.take_length] at hD5
      have x5 := s5 _ _ x4
      refine ⟨_, D, (wrs st).map sL, rfl, rfl, .inl (SqL.of hD5), ?_, ?_⟩
      · rw [List.map_map, show ((fun z : Str => z.length) ∘ sL) = List.length from funext fun l => sL_len l, ← List.length_flatten, wrs_flat, typed_len]
        have h1 := nk_le good
        have h2 : (Str.ofString "").length = 0 := rfl
        rw [h2]
        omega
      · rw [join0, wrs_flat]
        refine ⟨_, rfl, x, _, dx, _, rfl, x5, T.clT, T.nT4, (by show 3 < 1000; decide), ?_⟩
        rw [put4]
        have b6 : But x H5 (upd H5 x (.ins (CT K) dx (txF ts sp st))) := but_upd
        refine q _ sp ss (fun b o hb e => b6 _ _ hb (s5 _ _ (b4 _ _ hb (bH _ _ hb e)))) upd_same (sqT_but x5 b6 (same_sqT s5 hsp4)) (spans_but T.csct x5 b6 (hss4.same s5))
  · have hne : st ≠ [] := by
      intro e
      subst e
      have h0 : ss = [] := List.eq_nil_of_length_eq_zero hss.len
      rw [h0] at hk
      cases hk
    obtain ⟨r, y, e⟩ := snoc_of hne
    have hl : st.length = r.length + 1 := by rw [e]; simp
    have hy : st[r.length]? = some y := by rw [e]; simp
    obtain ⟨a, da, ha, e5⟩ := hss3.at_ _ _ hy
    have hsr : (ss.map V.ref) = (ss.map V.ref).dropLast ++ [.ref a] := by
      have h1 : ss.map V.ref ≠ [] := by
        intro z
        have := hss.len
        rw [List.map_eq_nil_iff.mp z] at this
        simp at this
        omega
      have h2 : (ss.map V.ref).getLast h1 = .ref a := by
        have h3 : (ss.map V.ref)[(ss.map V.ref).length - 1]? = some (.ref a) := by
          rw [List.length_map, hss.len, hl, Nat.add_sub_cancel]
          exact map_get ha
        rw [List.getLast_eq_getElem]
        exact (List.getElem?_eq_some_iff.mp h3).2
      rw [← h2]
      exact (List.dropLast_concat_getLast h1).symm
    have hix : atI (ss.map V.ref) (-1) = some (.ref a) := by
      rw [hsr]
      exact atI_last
    have ez : sz st = sz (st.take r.length) + y.gr := by
      have e9 : st = st.take r.length ++ [y] := by
        rw [← take_succ hy, ← hl, List.take_length]
      have e10 := congrArg sz e9
      rw [sz_app, sz_cons] at e10
      exact e10
    rw [ez] at h
    refine ⟨_, rfl, x, _, dx, _, _, rfl, x3, T.clT, T.nT2, rfl, _, rfl, sp, _, _, _, rfl, rfl, hsp3, hix, a, _, da, _, _, rfl, e5, T.clS, T.nS2, spF_end _ _ _, ?_⟩
    exact h
  · have e : st = [] := by
      have h0 : ss = [] := by
        cases hq : ss with
        | nil => rfl
        | cons a r =>
          rw [hq] at hk
          cases hk
      have := hss.len
      rw [h0] at this
      exact List.eq_nil_of_length_eq_zero this.symm
    subst e
    exact h
end
end KL
namespace KL
open PySem PySem.Spec PyProof.Rows L2 Pk He
abbrev TA_ (K : Fr) (H : Hp) (x : Addr) (st : List Stp) : Prop := TextAt K (CT K) (CS K) H x st
def spInit5 (K : Fr) : Sp := fun vs H Q E => ∃ ws rest, vs = ws ++ rest ∧ ws.length = ([("self" : Str)] : List Str).length ∧ rest.length ≤ sizeLine ∧ ∀ p, H p = none → spTextInit K (ws ++ [V.ref p]) (upd H p (.tup rest)) Q E
/-- a new text of given steps: what its making asks -/
theorem make_text {K : Fr} (csct : CS K ≠ CT K) {H1 : Hp} {as : List Addr} {st : List Stp} {Q : VK} (hst : StepsAt K H1 as st) (good : Goes most 0 st) (few : st.length ≤ 30) (q : ∀ x H2, H1 x = none → Same H1 H2 → TA_ K H2 x st → Q (.ref x) H2) :
    ∀ x dx, H1 x = none → H1 dx = none → dx ≠ x → spInit5 K (V.ref x :: as.map V.ref) (upd (upd H1 dx (.own x)) x (.ins (CT K) dx [])) (fun v H2 => v = .non ∧ Q (.ref x) H2) E0 := by
  intro x dx hx hdx hne
  refine ⟨[.ref x], as.map V.ref, rfl, rfl, by rw [List.length_map, hst.len]; exact Nat.le_trans few (by decide), fun p hp => ?_⟩
  have npx : p ≠ x := fun e => by
    rw [e, upd_same] at hp
    cases hp
  have npd : p ≠ dx := fun e => by
    rw [e, upd_ne hne, upd_same] at hp
    cases hp
  have hp1 : H1 p = none := by
    rw [upd_ne npx, upd_ne npd] at hp
    exact hp
  have s1 : Same H1 (upd (upd (upd H1 dx (.own x)) x (.ins (CT K) dx [])) p (.tup (as.map V.ref))) := fun b o e => by
    rw [upd_ne (ne_of_none e hp1), upd_ne (ne_of_none e hx), upd_ne (ne_of_none e hdx)]
    exact e
  refine ⟨x, dx, p, as, st, rfl, by rw [upd_ne npx.symm, upd_same], .inl (.inl upd_same), hst.same s1, good, few, fun H2 sp ss b hx2 hsp hss => ⟨rfl, ?_⟩⟩
  have s2 : Same H1 H2 := fun b' o e => b b' o (ne_of_none e hx) (s1 _ _ e)
  refine q x H2 hx s2 ⟨good, few, dx, p, sp, as, ss, hx2, ?_, hst.same s2, hsp, hss⟩
  exact .inl (.inl (b _ _ npx upd_same))
def spOf (K : Fr) : Sp := fun vs H Q _ => ∃ (l : Addr) (as : List Addr) (st : List Stp), vs = [.ref (CT K), .ref l] ∧ H l = some (.lst (as.map V.ref)) ∧ StepsAt K H as st ∧ Goes most 0 st ∧ st.length ≤ 30 ∧ ∀ x H2, H x = none → Same H H2 → TA_ K H2 x st → Q (.ref x) H2
def spSize (K : Fr) : Sp := fun vs H Q _ => ∃ x st, vs = [.ref x] ∧ TA_ K H x st ∧ Q (.int (sz st)) H
def spTyped (K : Fr) : Sp := fun vs H Q _ => ∃ x st, vs = [.ref x] ∧ TA_ K H x st ∧ Q (.str (sL (typed st))) H
def spCheck (K : Fr) : Sp := fun vs H Q _ => ∃ (x : Addr) (p : Nat) (st : List Stp), vs = [.ref x, .int p] ∧ TA_ K H x st ∧ p < sz st ∧ Q .non H
def spCall (K : Fr) : Sp := fun vs H Q _ => ∃ (x : Addr) (p : Nat) (st : List Stp), vs = [.ref x, .int p] ∧ TA_ K H x st ∧ p < sz st ∧ ∀ (k : Nat) H2, Same H H2 → (ex st)[p]? = some k → Q (.int k) H2
section
variable {P : Program} {w : World} {K : Fr} {mg : Str → Option Value} {base : Heap} {f : Addr}
theorem scOf : FnScope ["cls", "steps"] ["cls", "steps"] (defScope sOf) := ⟨rfl, rfl, rfl, by decide +kernel, rfl, by decide +kernel, by decide +kernel⟩
theorem ok_of (D : Df K "of_steps" "Text.of_steps" sOf f) (T : Tc w K mg) (GI : FnR P w K mg base CX0 5 (ma K (CT K) "__init__") (spInit5 K)) : Kp P w K mg base 7 f (spOf K) := by
  refine kp_of D scOf (fun _ _ _ _ _ _ us hl => match us, hl with | [_, _], _ => rfl) ?_ (fun cdv A outer s H vs Q E hr h => ?_)
  · rintro vs H Q E ⟨l, as, st, rfl, _⟩
    rfl
  · obtain ⟨l, as, st, rfl, hl, hst, good, few, q⟩ := h
    refine ⟨_, (pss_cons (ps_if (pt_not (pt_val (pe_callB call_isiT (by rfl) T.isi boot_isinstance (pa_cons (pv 1) (pa_cons (pe_tup (pa_cons (pe_ty T.lst b_list) (pa_cons (pe_ty T.tup b_tuple) pa_nil))) pa_nil))))) pss_never pss_nil) (pss_one (ps_ret (pe_makeSL T.mkT GI hr (i := 0) rfl (Or.inl rfl) pass0 (pv 1))))), ?_⟩
    refine ⟨_, rfl, (by show 2 ≤ sizeLine; decide), fun p hp => ?_⟩
    have s1 : Same H (upd H p (.tup [.ty "list", .ty "tuple"])) := same_upd hp
    refine ⟨.ref l, p, [.ty "list", .ty "tuple"], .type "list", [.type "list", .type "tuple"], true, rfl, upd_same, .cons (.ty _) (.cons (.ty _) .nil), .base (.lst (s1 _ _ hl)), ?_, true, rfl, ?_⟩
    · exact kitAny_cons (b := true) (kit_ty rfl) (fun z => by cases z) (fun _ => rfl)
    refine iteF ?_
    refine ⟨rfl, _, rfl, l, _, rfl, .inr (SqL.of (s1 _ _ hl)), ?_⟩
    exact make_text T.csct (hst.same s1) good few fun x H2 hx s2 t => q x H2 (s1.free hx) (s1.trans s2) t
theorem scSize : FnScope ["self"] ["self"] (defScope sSize) := ⟨rfl, rfl, rfl, by decide +kernel, rfl, by decide +kernel, by decide +kernel⟩
theorem ok_size (D : Df K "size" "Text.size" sSize f) (T : Tc w K mg) : Kp P w K mg base 1 f (spSize K) := by
  refine kp_of D scSize (fun _ _ _ _ _ _ us hl => match us, hl with | [_], _ => rfl) ?_ (fun cdv A outer s H vs Q E hr h => ?_)
  · rintro vs H Q E ⟨x, st, rfl, _⟩
    rfl
  · obtain ⟨x, st, rfl, t, q⟩ := h
    obtain ⟨dx, ts, sp, as, ss, hx, _⟩ := t.obj
    exact ⟨_, (pss_one (ps_ret (pe_fld (pv 0) rfl))), _, rfl, x, _, dx, _, _, rfl, hx, T.clT, T.nT3, rfl, q⟩
theorem scTyped : FnScope ["self"] ["self"] (defScope sTyped) := ⟨rfl, rfl, rfl, by decide +kernel, rfl, by decide +kernel, by decide +kernel⟩
theorem ok_typed (D : Df K "typed_keys" "Text.typed_keys" sTyped f) (T : Tc w K mg) : Kp P w K mg base 1 f (spTyped K) := by
  refine kp_of D scTyped (fun _ _ _ _ _ _ us hl => match us, hl with | [_], _ => rfl) ?_ (fun cdv A outer s H vs Q E hr h => ?_)
  · rintro vs H Q E ⟨x, st, rfl, _⟩
    rfl
  · obtain ⟨x, st, rfl, t, q⟩ := h
    obtain ⟨dx, ts, sp, as, ss, hx, _⟩ := t.obj
    exact ⟨_, (pss_one (ps_ret (pe_fld (pv 0) rfl))), _, rfl, x, _, dx, _, _, rfl, hx, T.clT, T.nT4, rfl, q⟩
theorem scCheck : FnScope ["self", "place"] ["self", "place"] (defScope sCheck) := ⟨rfl, rfl, rfl, by decide +kernel, rfl, by decide +kernel, by decide +kernel⟩
theorem ok_check (D : Df K "_check_place" "Text._check_place" sCheck f) (T : Tc w K mg) (GN : Kp P w K mg base 1 (ga K "is_number") spIsNumber) : Kp P w K mg base 2 f (spCheck K) := by
  refine kp_of D scCheck (fun _ _ _ _ _ _ us hl => match us, hl with | [_, _], _ => rfl) ?_ (fun cdv A outer s H vs Q E hr h => ?_)
  · rintro vs H Q E ⟨x, p, st, rfl, _⟩
    rfl
  · obtain ⟨x, p, st, rfl, t, hp, q⟩ := h
    obtain ⟨dx, ts, sp, as, ss, hx, _⟩ := t.obj
    refine ⟨_, (pss_one (ps_if (pt_not (pt_val (pk_call GN hr T.gIsNumber (pa_cons (pv 1) (pa_cons pe_int (pa_cons (pe_op op_sub (pe_fld (pv 0) rfl) pe_int) pa_nil)))))) pss_never pss_nil)), ?_⟩
    refine ⟨_, rfl, _, rfl, x, _, dx, _, _, rfl, hx, T.clT, T.nT3, rfl, _, _, rfl, rfl, .int p, 0, _, rfl, rfl, ?_⟩
    have e : isNum (.int (p : Int)) 0 ((sz st : Int) - 1) = true := by
      show (decide ((0 : Int) ≤ p) && decide ((p : Int) ≤ (sz st : Int) - 1)) = true
      rw [decide_eq_true (by omega), decide_eq_true (by omega)]
      rfl
    refine ⟨true, congrArg V.bl e, ?_⟩
    exact q
theorem scCall : FnScope ["self", "place"] ["self", "place"] (defScope sCall) := ⟨rfl, rfl, rfl, by decide +kernel, rfl, by decide +kernel, by decide +kernel⟩
theorem lk_check (ts sp : Addr) (st : List Stp) : (txF ts sp st).lookup ("_check_place" : Str) = none := by rfl
theorem ok_call (D : Df K "__call__" "Text.__call__" sCall f) (T : Tc w K mg) (GC : Kp P w K mg base 2 (ma K (CT K) "_check_place") (spCheck K)) (GK : Kp P w K mg base 1 (ga K "key_at") (spKeyAt K)) : Kp P w K mg base 3 f (spCall K) := by
  obtain ⟨fdC, psC, FC, bC, kpC⟩ := GC
  refine kp_of D scCall (fun _ _ _ _ _ _ us hl => match us, hl with | [_, _], _ => rfl) ?_ (fun cdv A outer s H vs Q E hr h => ?_)
  · rintro vs H Q E ⟨x, p, st, rfl, _⟩
    rfl
  · obtain ⟨x, p, st, rfl, t, hp, q⟩ := h
    obtain ⟨dx, ts, sp, as, ss, hx, _, _, hsp, hss⟩ := t.obj
    refine ⟨_, (pss_cons (ps_expr (pe_meth (pv 0) T.clT T.mCheck FC hr bC .nil pass0 (pa_cons (pv 1) pa_nil))) (pss_one (ps_ret (pk_call GK (hr.mono (by decide)) T.gKeyAt (pa_cons (pe_fld (pv 0) rfl) (pa_cons (pv 1) pa_nil)))))), ?_⟩
    refine ⟨_, rfl, x, dx, _, rfl, hx, lk_check _ _ _, _, rfl, x, p, st, rfl, t, hp, ?_⟩
    exact ⟨_, rfl, x, _, dx, _, _, rfl, hx, T.clT, T.nT2, rfl, _, rfl, sp, p, ss, st, rfl, hsp, hss, t.good, hp, q⟩
end
end KL
namespace KL
open PySem PySem.Spec PyProof.Rows L2 Pk He
/-! ### sums and multiples in plain Lean -/
def plus (a b : List Stp) : List Stp := a ++ b.map (mv (sz a))
theorem mv_gr (s : Nat) (x : Stp) : (mv s x).gr = x.gr := by
  cases x with
  | wr w => rfl
  | pa f l t =>
    show (l + s + 1 - (f + s)) * t = (l + 1 - f) * t
    rw [show l + s + 1 - (f + s) = l + 1 - f by omega]
theorem mv_ks (s : Nat) (x : Stp) : (mv s x).ks = x.ks := by cases x <;> rfl
theorem mv_ty (s : Nat) (x : Stp) : (mv s x).ty = x.ty := by cases x <;> rfl
theorem mv_ok {s n : Nat} {x : Stp} (h : x.ok n = true) : (mv s x).ok (s + n) = true := by
  cases x with
  | wr w => exact h
  | pa f l t =>
    simp [Stp.ok] at h
    simp [mv, Stp.ok]
    omega
theorem sz_mv (s : Nat) (b : List Stp) : sz (b.map (mv s)) = sz b := by
  unfold sz
  rw [List.map_map]
  congr 1
  exact List.map_congr_left fun x _ => mv_gr s x
theorem nk_mv (s : Nat) (b : List Stp) : nk (b.map (mv s)) = nk b := by
  unfold nk
  rw [List.map_map]
  congr 1
  exact List.map_congr_left fun x _ => mv_ks s x
theorem goes_mv {m s : Nat} : ∀ {n : Nat} {b : List Stp}, Goes m n b → s + n + sz b ≤ m → Goes m (s + n) (b.map (mv s))
  | _, [], _, _ => trivial
  | n, x :: r, h, hl => by
    rw [sz_cons] at hl
    refine ⟨mv_ok h.1, by rw [mv_gr]; omega, ?_⟩
    have ih := goes_mv (s := s) h.2.2 (by omega)
    rw [mv_gr, Nat.add_assoc]
    exact ih
theorem goes_plus {a b : List Stp} (ha : Goes most 0 a) (hb : Goes most 0 b) (hl : sz a + sz b ≤ most) : Goes most 0 (plus a b) := by
  refine goes_app.mpr ⟨ha, ?_⟩
  rw [Nat.zero_add]
  exact goes_mv (s := sz a) (n := 0) hb (by omega)
theorem sz_plus (a b : List Stp) : sz (plus a b) = sz a + sz b := by
  unfold plus
  rw [sz_app, sz_mv]
/-- times n, at least twice -/
def timesL (a : List Stp) (n : Nat) : List Stp := a ++ [.pa 0 (sz a - 1) (n - 1)]
theorem gr_pos {s : Nat} {x : Stp} (h : x.ok s = true) : 0 < x.gr := by
  cases x with
  | wr w =>
    simp [Stp.ok] at h
    exact h.1.1
  | pa f l t =>
    simp [Stp.ok] at h
    exact Nat.mul_pos (by omega) (by omega)
theorem sz_pos {a : List Stp} (ha : Goes most 0 a) (h : a ≠ []) : 0 < sz a := by
  cases a with
  | nil => exact absurd rfl h
  | cons x r =>
    rw [sz_cons]
    have := gr_pos ha.1
    omega
theorem sz_times {a : List Stp} {n : Nat} (ha : Goes most 0 a) (h : a ≠ []) (hn : 2 ≤ n) : sz (timesL a n) = n * sz a := by
  have h0 := sz_pos ha h
  unfold timesL
  rw [sz_app, sz_cons]
  show sz a + ((sz a - 1 + 1 - 0) * (n - 1) + 0) = n * sz a
  rw [show sz a - 1 + 1 - 0 = sz a by omega]
  obtain ⟨m, rfl⟩ : ∃ m, n = m + 1 := ⟨n - 1, by omega⟩
  rw [Nat.add_sub_cancel, Nat.add_mul, Nat.one_mul, Nat.add_zero, Nat.mul_comm (sz a) m, Nat.add_comm]
theorem goes_times {a : List Stp} {n : Nat} (ha : Goes most 0 a) (h : a ≠ []) (hn : 2 ≤ n) (hm : n ≤ 1000000000) (hl : n * sz a ≤ most) : Goes most 0 (timesL a n) := by
  have h0 := sz_pos ha h
  have hs := sz_times ha h hn
  refine goes_app.mpr ⟨ha, ?_, ?_, trivial⟩
  · simp [Stp.ok]
    omega
  · unfold timesL at hs
    rw [sz_app, sz_cons] at hs
    have hz : sz ([] : List Stp) = 0 := rfl
    rw [hz] at hs
    omega
/-! ### other letters -/
def relet (ls : List Nat) : Nat → List Stp → List Stp
  | _, [] => []
  | n, .wr w :: r => .wr ((ls.drop n).take w.length) :: relet ls (n + w.length) r
  | n, .pa f l t :: r => .pa f l t :: relet ls n r
theorem relet_len (ls : List Nat) : ∀ (n : Nat) (st : List Stp), (relet ls n st).length = st.length
  | _, [] => rfl
  | n, .wr w :: r => congrArg (· + 1) (relet_len ls (n + w.length) r)
  | n, .pa f l t :: r => congrArg (· + 1) (relet_len ls n r)
theorem relet_app (ls : List Nat) : ∀ (n : Nat) (a b : List Stp), relet ls n (a ++ b) = relet ls n a ++ relet ls (n + nk a) b
  | n, [], b => by simp [relet, nk]
  | n, .wr w :: a, b => by
    show _ :: relet ls (n + w.length) (a ++ b) = _ :: (relet ls (n + w.length) a ++ _)
    rw [relet_app ls (n + w.length) a b]
    simp [nk, Stp.ks, Nat.add_assoc]
  | n, .pa f l t :: a, b => by
    show _ :: relet ls n (a ++ b) = _ :: (relet ls n a ++ _)
    rw [relet_app ls n a b]
    simp [nk, Stp.ks]
/-- one step with other letters -/
def rel1 (ls : List Nat) (n : Nat) : Stp → Stp
  | .wr w => .wr ((ls.drop n).take w.length)
  | .pa f l t => .pa f l t
theorem relet_take (ls : List Nat) {st : List Stp} {i : Nat} {x : Stp} (h : st[i]? = some x) : relet ls 0 (st.take (i + 1)) = relet ls 0 (st.take i) ++ [rel1 ls (nk (st.take i)) x] := by
  rw [take_succ h, relet_app, Nat.zero_add]
  cases x <;> rfl
theorem rel1_gr {ls : List Nat} {n : Nat} {x : Stp} (h : n + x.ks ≤ ls.length) : (rel1 ls n x).gr = x.gr := by
  cases x with
  | wr w =>
    show ((ls.drop n).take w.length).length = w.length
    have h2 : n + w.length ≤ ls.length := h
    rw [List.length_take, List.length_drop]
    omega
  | pa f l t => rfl
theorem rel1_ok {ls : List Nat} {n s : Nat} {x : Stp} (h : n + x.ks ≤ ls.length) (hl : ls.all isLet = true) (ok : x.ok s = true) : (rel1 ls n x).ok s = true := by
  cases x with
  | wr w =>
    have hg : ((ls.drop n).take w.length).length = w.length := rel1_gr (x := .wr w) h
    simp only [Stp.ok, Bool.and_eq_true, decide_eq_true_eq] at ok
    show (decide (1 ≤ ((ls.drop n).take w.length).length) && decide (((ls.drop n).take w.length).length ≤ 20) && ((ls.drop n).take w.length).all isLet) = true
    rw [hg, decide_eq_true ok.1.1, decide_eq_true ok.1.2]
    rw [List.all_eq_true] at hl
    simp only [Bool.and_self, Bool.true_and, List.all_eq_true]
    intro c hc
    exact hl c (List.mem_of_mem_drop (List.mem_of_mem_take hc))
  | pa f l t => exact ok
theorem goes_relet {m : Nat} {ls : List Nat} (hl : ls.all isLet = true) : ∀ {s n : Nat} {st : List Stp}, Goes m s st → n + nk st ≤ ls.length → Goes m s (relet ls n st)
  | _, _, [], _, _ => trivial
  | s, n, x :: r, h, hn => by
    have e : nk (x :: r) = x.ks + nk r := by simp [nk]
    rw [e] at hn
    have h1 : n + x.ks ≤ ls.length := by omega
    have e2 : relet ls n (x :: r) = rel1 ls n x :: relet ls (n + x.ks) r := by cases x <;> rfl
    rw [e2]
    refine ⟨rel1_ok h1 hl h.1, by rw [rel1_gr h1]; exact h.2.1, ?_⟩
    rw [rel1_gr h1]
    exact goes_relet hl h.2.2 (by omega)
def spAdd (K : Fr) : Sp := fun vs H Q _ => ∃ (x y : Addr) (a b : List Stp), vs = [.ref x, .ref y] ∧ TA_ K H x a ∧ TA_ K H y b ∧ sz a + sz b ≤ most ∧ a.length + b.length ≤ 30 ∧ ∀ z H2, H z = none → Same H H2 → TA_ K H2 z (plus a b) → Q (.ref z) H2
def spMul (K : Fr) : Sp := fun vs H Q _ => ∃ (x : Addr) (n : Nat) (a : List Stp), vs = [.ref x, .int n] ∧ 1 ≤ n ∧ n ≤ 1000000000 ∧ TA_ K H x a ∧ (n = 1 ∨ a = [] → Q (.ref x) H) ∧
  (2 ≤ n → a ≠ [] → n * sz a ≤ most ∧ a.length < 30 ∧ ∀ z H2, H z = none → Same H H2 → TA_ K H2 z (timesL a n) → Q (.ref z) H2)
def spWith (K : Fr) : Sp := fun vs H Q _ => ∃ (x : Addr) (ls : List Nat) (st : List Stp), vs = [.ref x, .str (sL ls)] ∧ TA_ K H x st ∧ ls.length = nk st ∧ ls.all isLet = true ∧ ∀ z H2, H z = none → Same H H2 → TA_ K H2 z (relet ls 0 st) → Q (.ref z) H2
theorem yes_go {te : TE} {σ : L2.St} {H : Hp} {N : VK} {N0 : Hp → Prop} (h : te σ H N) : tYes σ H fun b H3 => if b = true then te σ H3 N else N0 H3 := by
  show (if true = true then te σ H N else N0 H)
  rw [if_pos rfl]
  exact h
/-! ### a list changes, texts stand -/
theorem sqT_butL {K : Fr} {H H2 : Hp} {r a : Addr} {ys xs : List V} (hr : H r = some (.lst ys)) (b : But r H H2) (h : SqT K H a xs) : SqT K H2 a xs := by
  rcases h with (h | ⟨o, h⟩) | h
  · exact .inl (.inl (b _ _ (ne_of h hr (by intro z; cases z)) h))
  · exact .inl (.inr ⟨o, b _ _ (ne_of h hr (by intro z; cases z)) h⟩)
  · exact .inr h
theorem steps_butL {K : Fr} {H H2 : Hp} {r : Addr} {ys : List V} {as : List Addr} {st : List Stp} (hr : H r = some (.lst ys)) (b : But r H H2) (h : StepsAt K H as st) : StepsAt K H2 as st :=
  ⟨h.len, fun i x hx => let ⟨a, h1, h2⟩ := h.at_ i x hx; ⟨a, h1, sqT_butL hr b h2⟩⟩
theorem spans_butL {CS : Addr} {H H2 : Hp} {r : Addr} {ys : List V} {ss : List Addr} {st : List Stp} (hr : H r = some (.lst ys)) (b : But r H H2) (h : SpansAt CS H ss st) : SpansAt CS H2 ss st :=
  ⟨h.len, fun i x hx => let ⟨a, dx, h1, h2⟩ := h.at_ i x hx; ⟨a, dx, h1, b _ _ (ne_of h2 hr (by intro z; cases z)) h2⟩⟩
theorem text_butL {K : Fr} {H H2 : Hp} {r x : Addr} {ys : List V} {st : List Stp} (hr : H r = some (.lst ys)) (b : But r H H2) (h : TA_ K H x st) : TA_ K H2 x st := by
  obtain ⟨dx, ts, sp, as, ss, h1, h2, h3, h4, h5⟩ := h.obj
  exact ⟨h.good, h.few, dx, ts, sp, as, ss, b _ _ (ne_of h1 hr (by intro z; cases z)) h1, sqT_butL hr b h2, steps_butL hr b h3, sqT_butL hr b h4, spans_butL hr b h5⟩
theorem steps_app {K : Fr} {H : Hp} {as bs : List Addr} {a b : List Stp} (h1 : StepsAt K H as a) (h2 : StepsAt K H bs b) : StepsAt K H (as ++ bs) (a ++ b) := by
  refine ⟨by rw [List.length_append, List.length_append, h1.len, h2.len], fun i x hx => ?_⟩
  by_cases hi : i < a.length
  · rw [List.getElem?_append_left hi] at hx
    rw [List.getElem?_append_left (by rw [h1.len]; exact hi)]
    exact h1.at_ i x hx
  · rw [List.getElem?_append_right (by omega)] at hx
    rw [List.getElem?_append_right (by rw [h1.len]; omega), h1.len]
    exact h2.at_ _ x hx
section
variable {P : Program} {w : World} {K : Fr} {mg : Str → Option Value} {base : Heap} {f : Addr}
theorem scAdd : FnScope ["self", "other", "moved", "steps", "step"] ["self", "other"] (defScope sAdd) := ⟨rfl, rfl, rfl, by decide +kernel, rfl, by decide +kernel, by decide +kernel⟩
theorem ok_add (D : Df K "__add__" "Text.__add__" sAdd f) (T : Tc w K mg) (GI : FnR P w K mg base CX0 5 (ma K (CT K) "__init__") (spInit5 K)) (GM : Kp P w K mg base 1 (ga K "moved_step") (spMoved K)) : Kp P w K mg base 7 f (spAdd K) := by
  refine kp_of D scAdd (fun _ _ _ _ _ _ us hl => match us, hl with | [_, _], _ => rfl) ?_ (fun cdv A outer s H vs Q E hr h => ?_)
  · rintro vs H Q E ⟨x, y, a, b, rfl, _⟩
    rfl
  · obtain ⟨x, y, a, b, rfl, ta, tb, hl, few, q⟩ := h
    obtain ⟨dx, ts, sp, as, ss, hx, hts, hst, _⟩ := ta.obj
    obtain ⟨dy, ts2, sp2, as2, ss2, hy, hts2, hst2, _⟩ := tb.obj
    refine ⟨_, (pss_cons (ps_if (pt_not (pt_val (pe_callB (C8.call_isC T.insT) (by rfl) T.isi boot_isinstance (pa_cons (pv 1) (pa_cons (pe_gR T.gText) pa_nil))))) pss_never pss_nil) (pss_cons (ps_setLc (i := 2) (own := [("step", 4)]) (g := gName 4) (tt := tYes) rfl scAdd.nd rfl rfl (sw_true rfl rfl rfl (by decide +kernel)) (pi_tup (pe_fld (pv 1) rfl)) (blkOk_by (N := ["self", "other", "moved", "steps", "step"]) (sc := defScope sAdd) (by decide +kernel)) (fun _ _ _ _ _ => (pg_name (i := 4) scAdd.nd rfl (Or.inl rfl))) (fun _ _ _ _ _ => pts_nil) (fun _ _ _ _ _ => (pk_call GM (hr.mono (by decide)) T.gMoved (pa_cons (pv 4) (pa_cons (fldK K (pv 0)) pa_nil))))) (pss_cons (ps_set (i := 3) scAdd.nd rfl (Or.inl rfl) (pe_lst (StX.pa_star (pe_fld (pv 0) rfl) (StX.pa_star (pv 2) pa_nil)))) (pss_one (ps_ret (pe_makeS T.mkT GI hr rfl T.gText pass0 (pv 3))))))), ?_⟩
    refine ⟨_, rfl, y, dy, _, rfl, hy, true, rfl, ?_⟩
    refine iteF ?_
    refine ⟨_, rfl, y, _, dy, _, _, rfl, hy, T.clT, T.nT1, rfl, ts2, rfl, ⟨_, hts2⟩, fun D hD => ?_⟩
    have hn : (as2.map V.ref).length = b.length := by rw [List.length_map, hst2.len]
    refine lc_it (walk_tup (xs := as2.map V.ref)) (fun i H2 => Same H H2 ∧ ∃ bs, H2 D = some (.lst (bs.map V.ref)) ∧ StepsAt K H2 bs ((b.take i).map (mv (sz a)))) ⟨same_upd hD, [], upd_same, StepsAt.nil⟩ (fun i H2 _ p => same_sqT p.1 hts2) ?_ ?_
    · rintro i v H2 H3 hi ⟨s2, bs, hD2, hbs⟩ ⟨rfl, hv⟩
      rw [hn] at hi
      obtain ⟨z, hz⟩ : ∃ z, b[i]? = some z := ⟨b[i], List.getElem?_eq_getElem hi⟩
      obtain ⟨c, hc, hcz⟩ := hst2.at_ i z hz
      have ev : v = .ref c := map_at hc hv
      subst ev
      refine ⟨rfl, yes_go ?_⟩
      refine ⟨_, rfl, _, rfl, x, _, dx, _, _, rfl, s2 _ _ hx, T.clT, T.nT3, rfl, c, z, sz a, rfl, same_sqT s2 hcz, fun m H4 s4 hm => ?_⟩
      have hD4 := s4 _ _ hD2
      refine ⟨_, hD4, ?_, ?_, bs ++ [m], by rw [upd_same, List.map_append]; rfl, ?_⟩
      · rw [List.length_map, hbs.len, List.length_map, List.length_take]
        exact Nat.lt_of_le_of_lt (Nat.le_trans (Nat.min_le_right _ _) tb.few) (by decide)
      · intro q o e
        rw [upd_ne (ne_of_none e hD)]
        exact s4 _ _ (s2 _ _ e)
      · rw [take_succ hz, List.map_append]
        exact (steps_butL hD4 but_upd (hbs.same s4)).snoc (sqT_butL hD4 but_upd hm)
    · rintro H2 ⟨s2, bs, hD2, hbs⟩
      rw [hn, List.take_length] at hbs
      refine ⟨_, rfl, x, _, dx, _, _, rfl, s2 _ _ hx, T.clT, T.nT1, rfl, ts, _, rfl, .inl (same_sqT s2 hts), _, rfl, D, _, rfl, .inr (SqL.of hD2), ?_, fun p hp => ?_⟩
      · rw [List.append_nil, List.length_append, List.length_map, List.length_map, hst.len, hbs.len, List.length_map]
        exact Nat.le_trans few (by decide)
      · have e : as.map V.ref ++ (bs.map V.ref ++ []) = (as ++ bs).map V.ref := by simp
        rw [e]
        have s3 : Same H2 (upd H2 p (.lst ((as ++ bs).map V.ref))) := same_upd hp
        refine ⟨_, rfl, p, _, rfl, .inr (SqL.of upd_same), ?_⟩
        refine make_text T.csct (st := plus a b) (steps_app (hst.same (s2.trans s3)) (hbs.same s3)) (goes_plus ta.good tb.good hl) (by unfold plus; rw [List.length_append, List.length_map]; exact few) fun z H4 hz s4 t => ?_
        exact q z H4 ((s2.trans s3).free hz) (s2.trans (s3.trans s4)) t
end
end KL
namespace KL
open PySem PySem.Spec PyProof.Rows L2 Pk He
theorem dec_int_t {i j : Int} (h : i = j) : decide (V.int i = V.int j) = true := decide_eq_true (by rw [h])
theorem dec_int_f {i j : Int} (h : i ≠ j) : decide (V.int i = V.int j) = false := decide_eq_false (fun z => h (by injection z))
section
variable {P : Program} {w : World} {K : Fr} {mg : Str → Option Value} {base : Heap} {f : Addr}
theorem scMul : FnScope ["self", "other", "steps"] ["self", "other"] (defScope sMul) := ⟨rfl, rfl, rfl, by decide +kernel, rfl, by decide +kernel, by decide +kernel⟩
theorem ok_mul (D : Df K "__mul__" "Text.__mul__" sMul f) (T : Tc w K mg) (GI : FnR P w K mg base CX0 5 (ma K (CT K) "__init__") (spInit5 K)) (GN : Kp P w K mg base 1 (ga K "is_number") spIsNumber) : Kp P w K mg base 7 f (spMul K) := by
  refine kp_of D scMul (fun _ _ _ _ _ _ us hl => match us, hl with | [_, _], _ => rfl) ?_ (fun cdv A outer s H vs Q E hr h => ?_)
  · rintro vs H Q E ⟨x, n, a, rfl, _⟩
    rfl
  · obtain ⟨x, n, a, rfl, h1, h2, ta, q1, q2⟩ := h
    obtain ⟨dx, ts, sp, as, ss, hx, hts, hst, _⟩ := ta.obj
    obtain ⟨tm, hMT⟩ := T.mostTimes
    have e : isNum (.int (n : Int)) 1 1000000000 = true := by
      show (decide ((1 : Int) ≤ n) && decide ((n : Int) ≤ 1000000000)) = true
      rw [decide_eq_true (by omega), decide_eq_true (by omega)]
      rfl
    refine ⟨_, (pss_cons (ps_if (pt_not (pt_val (pk_call GN (hr.mono (by decide)) T.gIsNumber (pa_cons (pv 1) (pa_cons pe_int (pa_cons (pe_gI hMT) pa_nil)))))) pss_never pss_nil) (pss_cons (ps_if (pw_or (pt_cmpR op_eq (pv 1) pe_int (nomark _)) (pw_or1 (pt_cmpR op_eq (pe_fld (pv 0) rfl) pe_int (nomark _)))).pt (pss_one (ps_ret (pv 0))) pss_nil) (pss_cons (ps_set (i := 2) scMul.nd rfl (Or.inl rfl) (pe_lst (StX.pa_star (pe_fld (pv 0) rfl) (pa_cons (pe_tup (pa_cons pe_str (pa_cons pe_int (pa_cons (pe_op op_sub (pe_fld (pv 0) rfl) pe_int) (pa_cons (pe_op op_sub (pv 1) pe_int) pa_nil))))) pa_nil)))) (pss_one (ps_ret (pe_makeS T.mkT GI hr rfl T.gText pass0 (pv 2))))))), ?_⟩
    refine ⟨_, rfl, .int n, 1, _, rfl, rfl, true, congrArg V.bl e, ?_⟩
    refine iteF ?_
    refine ⟨_, rfl, rfl, _, rfl, ?_⟩
    by_cases hn : n = 1
    · rw [dec_int_t (by omega)]
      refine iteT ?_
      exact ⟨_, rfl, q1 (.inl hn)⟩
    · rw [dec_int_f (by omega)]
      refine iteF ?_
      refine ⟨_, rfl, x, _, dx, _, _, rfl, hx, T.clT, T.nT3, rfl, rfl, _, rfl, ?_⟩
      by_cases ha : a = []
      · subst ha
        refine iteT ?_
        exact ⟨_, rfl, q1 (.inr rfl)⟩
      · have hz := sz_pos ta.good ha
        obtain ⟨hl, few, q⟩ := q2 (by omega) ha
        rw [dec_int_f (show ((sz a : Nat) : Int) ≠ 0 by omega)]
        refine iteF ?_
        refine ⟨_, rfl, x, _, dx, _, _, rfl, hx, T.clT, T.nT1, rfl, ts, _, rfl, .inl hts, _, rfl, x, _, dx, _, _, rfl, hx, T.clT, T.nT3, rfl, _, _, rfl, rfl, _, rfl, _, _, rfl, rfl, (by show 4 ≤ sizeLine; decide), fun p hp => ?_⟩
        have s1 : Same H (upd H p (.tup [.str "paste", .int 0, .int ((sz a : Int) - 1), .int ((n : Int) - 1)])) := same_upd hp
        generalize hH1 : upd H p (.tup [.str "paste", .int 0, .int ((sz a : Int) - 1), .int ((n : Int) - 1)]) = H1 at s1
        have hp1 : SqT K H1 p (stV (.pa 0 (sz a - 1) (n - 1))) := by
          rw [← hH1]
          refine .inl (.inl ?_)
          rw [upd_same]
          show some (HO.tup [.str "paste", .int 0, .int ((sz a : Int) - 1), .int ((n : Int) - 1)]) = some (HO.tup [.str "paste", .int ((0 : Nat) : Int), .int ((sz a - 1 : Nat) : Int), .int ((n - 1 : Nat) : Int)])
          rw [show ((sz a : Int) - 1) = ((sz a - 1 : Nat) : Int) by omega, show ((n : Int) - 1) = ((n - 1 : Nat) : Int) by omega]
          rfl
        refine ⟨?_, fun l hl1 => ?_⟩
        · rw [List.length_append, List.length_map, hst.len]
          exact Nat.le_trans (show a.length + 1 ≤ 30 by omega) (by decide)
        · have e2 : as.map V.ref ++ [V.ref p] = (as ++ [p]).map V.ref := by simp
          rw [e2]
          have s2 : Same H1 (upd H1 l (.lst ((as ++ [p]).map V.ref))) := same_upd hl1
          refine ⟨_, rfl, l, _, rfl, .inr (SqL.of upd_same), ?_⟩
          refine make_text T.csct (st := timesL a n) ((hst.same (s1.trans s2)).snoc (same_sqT s2 hp1)) (goes_times ta.good ha (by omega) h2 hl) (by unfold timesL; rw [List.length_append]; exact few) fun z H4 hz s4 t => ?_
          exact q z H4 ((s1.trans s2).free hz) (s1.trans (s2.trans s4)) t
end
end KL
namespace KL
open PySem PySem.Spec PyProof.Rows L2 Pk He
/-- the law's row of draws at r: the script, how far it is read, the seed, what is held -/
def RowAt (K : Fr) (S : Addr × List Int) (H : Hp) (r : Addr) : Prop := ∃ (i seed held : Int), H r = some (.lst [.ref S.1, .int i, .int seed, .int held]) ∧ SqL K H S.1 (S.2.map V.int) ∧ 0 ≤ i ∧ 0 ≤ seed ∧ seed < 2147483647 ∧ 0 ≤ held ∧ ∀ (H1 : Hp) (o : HO), SqL K H1 S.1 (S.2.map V.int) → SqL K (upd H1 r o) S.1 (S.2.map V.int)
theorem RowAt.same {K : Fr} {S : Addr × List Int} {H H2 : Hp} {r : Addr} (h : RowAt K S H r) (s : Same H H2) : RowAt K S H2 r := by
  obtain ⟨i, sd, hd, h1, h2, h3⟩ := h
  exact ⟨i, sd, hd, s _ _ h1, s.seq h2, h3⟩
theorem RowAt.extN {K : Fr} {S : Addr × List Int} {H H2 : Hp} {r : Addr} (h : RowAt K S H r) (s : LamX.ExtN H H2) : RowAt K S H2 r := by
  obtain ⟨i, sd, hd, h1, h2, h3⟩ := h
  exact ⟨i, sd, hd, Pk.ExtN.at_ s h1, sqL_extN s h2, h3⟩
theorem RowAt.lst {K : Fr} {S : Addr × List Int} {H : Hp} {r : Addr} (h : RowAt K S H r) : ∃ xs, H r = some (.lst xs) := by
  obtain ⟨i, sd, hd, h1, h2, h3⟩ := h
  exact ⟨_, h1⟩
theorem sqL_upd {K : Fr} {H : Hp} {r a : Addr} {o : HO} {xs : List V} (hne : a ≠ r) (h : SqL K H a xs) : SqL K (upd H r o) a xs := by
  rcases h with (h | ⟨u, h⟩) | h
  · exact .inl (.inl (by rw [upd_ne hne]; exact h))
  · exact .inl (.inr ⟨u, by rw [upd_ne hne]; exact h⟩)
  · exact .inr h
/-- what a draw is worth: any number below the bound; all but the row stands -/
def Draws (K : Fr) (S : Addr × List Int) (r : Addr) (H : Hp) (m : Int) (Q : VK) : Prop := ∀ (v : Int) (H2 : Hp), RowAt K S H2 r → But r H H2 → 0 ≤ v → v < m → Q (.int v) H2
def spTaken (K : Fr) : Sp := fun vs H Q _ => ∃ (r : Addr) (m : Int), vs = [.ref r, .int m] ∧ ∃ S : Addr × List Int, RowAt K S H r ∧ 0 < m ∧ m < 1073741824 ∧ Draws K S r H m Q
/-- the letters that are drawn -/
def isAz (c : Nat) : Bool := decide (c = 97) || decide (c = 98) || decide (c = 99) || decide (c = 122)
section
variable {K : Fr} {S : Addr × List Int}
theorem sqT_row {H H2 : Hp} {r a : Addr} {xs : List V} (h : RowAt K S H r) (b : But r H H2) (t : SqT K H a xs) : SqT K H2 a xs := let ⟨_, hx⟩ := h.lst; sqT_butL hx b t
theorem steps_row {H H2 : Hp} {r : Addr} {as : List Addr} {st : List Stp} (h : RowAt K S H r) (b : But r H H2) (t : StepsAt K H as st) : StepsAt K H2 as st := let ⟨_, hx⟩ := h.lst; steps_butL hx b t
theorem text_row {H H2 : Hp} {r x : Addr} {st : List Stp} (h : RowAt K S H r) (b : But r H H2) (t : TA_ K H x st) : TA_ K H2 x st := let ⟨_, hx⟩ := h.lst; text_butL hx b t
theorem sqT_rowG {H H2 : Hp} {r a : Addr} {xs : List V} (h : RowAt K S H r) (b : Gr r H H2) (t : SqT K H a xs) : SqT K H2 a xs := let ⟨_, hx⟩ := h.lst; sqT_gr hx b t
theorem steps_rowG {H H2 : Hp} {r : Addr} {as : List Addr} {st : List Stp} (h : RowAt K S H r) (b : Gr r H H2) (t : StepsAt K H as st) : StepsAt K H2 as st := let ⟨_, hx⟩ := h.lst; steps_gr hx b t
theorem text_rowG {H H2 : Hp} {r x : Addr} {st : List Stp} (h : RowAt K S H r) (b : Gr r H H2) (t : TA_ K H x st) : TA_ K H2 x st := let ⟨_, hx⟩ := h.lst; text_gr hx b t
theorem _root_.Pk.TbAt.row {T : List (Addr × Str)} {H H2 : Hp} {r : Addr} (t : TbAt T H) (h : RowAt K S H r) (b : But r H H2) : TbAt T H2 := let ⟨_, hx⟩ := h.lst; t.butL hx b
theorem row_ne {H : Hp} {r p : Addr} (h : RowAt K S H r) (hp : H p = none) : p ≠ r := fun e => by
  obtain ⟨xs, hx⟩ := h.lst
  rw [e, hx] at hp
  cases hp
theorem RowAt.upd {H : Hp} {r p : Addr} {o : HO} (h : RowAt K S H r) (hp : H p = none) : RowAt K S (L2.upd H p o) r := h.same (same_upd hp)
theorem sqL_far {H0 H : Hp} {a D : Addr} {o : HO} {xs : List V} (h0 : SqL K H0 a xs) (hD : H0 D = none) (h : SqL K H a xs) : SqL K (upd H D o) a xs := by
  rcases h0 with (h0 | ⟨u, h0⟩) | h0
  · exact sqL_upd (ne_of_none h0 hD) h
  · exact sqL_upd (ne_of_none h0 hD) h
  · exact .inr h0
/-- what was made after the row stood may change -/
theorem RowAt.far {H0 H : Hp} {r D : Addr} {o : HO} (h0 : RowAt K S H0 r) (hD : H0 D = none) (h : RowAt K S H r) : RowAt K S (L2.upd H D o) r := by
  have n := row_ne h0 hD
  obtain ⟨_, _, _, _, g0, _⟩ := h0
  obtain ⟨i, sd, hd, h1, h2, h3⟩ := h
  exact ⟨i, sd, hd, by rw [upd_ne n.symm]; exact h1, sqL_far g0 hD h2, h3⟩
end
end KL
namespace KL
open PySem PySem.Spec PyProof.Rows L2 Pk He
section
variable {P : Program} {w : World} {K : Fr} {mg : Str → Option Value} {base : Heap} {f : Addr}
theorem fn_of {P : Program} {w : World} {K : PySem.W.Frag} {mg : Str → Option Value} {base : Heap} {k : Nat} {f : Addr} {sp : Sp} {x qual : Str} {st : Stmt} {kws : List (Str × V)} {N ps : List Str} {fd : FuncData} (F : FunD K x qual (defArgs st) (defBody st) (defScope st) [] kws f fd) (S : FnScope N ps (defScope st))
    (len : ∀ vs H Q E, sp vs H Q E → vs.length = ps.length)
    (hbody : ∀ (cdv : Value) (A : Around) (outer : List Env) (s : Shared) (H : Hp) (vs : List V) (Q : VK) (E : XK), Room k (A.deeper (envOfC qual (defScope st) s.heap.objs.size f cdv)) → sp vs H Q E →
      ∃ t, PSs (cxOf CX0 P w K mg base N qual (defScope st) f cdv A outer s H E).nox (defBody st) t ∧ t { nx := fun _ H' => Q .non H', rt := Q } (start N vs) H) : FnOk P w K mg base CX0 (k + 1) f fd ps sp := F.ok S len fun cdv A outer s H vs Q E hr h => by
  obtain ⟨t, h1, h2⟩ := hbody cdv A outer s H vs Q E hr h
  exact ⟨t, h1.nox, h2⟩
/-- numbers as values -/
def nV (l : List Nat) : List V := l.map fun k => V.int (k : Nat)
theorem nV_len (l : List Nat) : (nV l).length = l.length := List.length_map ..
theorem map_getD (l : List Nat) : (List.range l.length).map (fun i => V.int ((l.getD i 0 : Nat))) = nV l := by
  unfold nV
  refine List.ext_getElem (by simp) fun i h1 h2 => ?_
  simp only [List.length_map, List.length_range] at h1
  simp [List.getD_eq_getElem?_getD, List.getElem?_eq_getElem h1]
theorem typed_small {H : Hp} {x : Addr} {st : List Stp} (t : TA_ K H x st) : (sL (typed st)).length ≤ 600 := by
  rw [sL_len, typed_len]
  have h1 := nk_le t.good
  have h2 := t.few
  omega
theorem lk_with (ts sp : Addr) (st : List Stp) : (txF ts sp st).lookup ("with_letters" : Str) = none := by rfl
theorem sum_one (ls : List Nat) : ((ls.map (fun c => sL [c])).map (·.length)).sum = ls.length := by
  induction ls with
  | nil => rfl
  | cons c r ih =>
    simp only [List.map_cons, List.sum_cons, ih, List.length_cons, sL_len, List.length_nil]
    omega
theorem join_one (ls : List Nat) : Txt.join (Str.ofString "") (ls.map (fun c => sL [c])) = sL ls := by
  have h : ∀ l : List Nat, TL.joinL [] (l.map fun c => [c]) = l := by
    intro l
    induction l with
    | nil => rfl
    | cons c r ih =>
      cases r with
      | nil => rfl
      | cons d r => exact congrArg (c :: ·) ih
  have h1 : (Txt.join (Str.ofString "") (ls.map (fun c => sL [c]))).cps.toList = ls := by
    rw [TL.join_eq]
    refine (TL.tl_join _ _).trans ?_
    rw [List.map_map]
    exact h ls
  rw [sL_of (Txt.join (Str.ofString "") (ls.map (fun c => sL [c]))), h1]
theorem nV_at {l : List Nat} {i : Nat} {x : V} (h : (nV l)[i]? = some x) : ∃ k, l[i]? = some k ∧ x = .int (k : Nat) := by
  unfold nV at h
  rw [List.getElem?_map] at h
  cases e : l[i]? with
  | none => rw [e] at h; cases h
  | some k => rw [e] at h; cases h; exact ⟨k, rfl, rfl⟩
theorem ins_row {K : Fr} {S : Addr × List Int} {H H2 : Hp} {r x C dx : Addr} {fs : List (Str × V)} (h : RowAt K S H r) (b : But r H H2) (hx : H x = some (.ins C dx fs)) : H2 x = some (.ins C dx fs) := by
  obtain ⟨_, hr⟩ := h.lst
  exact b _ _ (ne_of hx hr (by intro z; cases z)) hx
theorem keys_pos {st : List Stp} (h0 : 0 < sz st) (hl : (ex st).length = sz st) : 0 < nk st := by
  cases e : ex st with
  | nil =>
    rw [e] at hl
    simp at hl
    omega
  | cons k r =>
    have := ex_lt st k (by rw [e]; exact List.mem_cons_self)
    omega
theorem typed_let {m : Nat} : ∀ {s : Nat} {st : List Stp}, Goes m s st → (typed st).all isLet = true
  | _, [], _ => rfl
  | s, .wr w :: r, h => by
    have h1 := h.1
    simp only [Stp.ok, Bool.and_eq_true] at h1
    have h2 := typed_let h.2.2
    show (w ++ typed r).all isLet = true
    rw [List.all_append, h1.2, h2]
    rfl
  | s, .pa f l t :: r, h => typed_let (st := r) h.2.2
def iD (l : List Nat) : List PyData := l.map fun k => .int (k : Nat)
def nD (l : List Nat) : PyData := .list (iD l)
theorem iD_dp {K : Fr} {H : Hp} : ∀ l : List Nat, DpAll K H (nV l) (iD l)
  | [] => .nil
  | k :: r => .cons (.int _) (iD_dp r)
theorem nD_dp {K : Fr} {H : Hp} {a : Addr} {l : List Nat} (h : H a = some (.lst (nV l))) : Dp K H (.ref a) (nD l) := .lst (SqL.of h) (iD_dp l)
theorem iD_lay : ∀ l : List Nat, PyData.canLayAll0 (iD l) = true
  | [] => by simp [iD, PyData.canLayAll0]
  | k :: r => by
    have := iD_lay r
    show PyData.canLayAll0 (PyData.int (k : Nat) :: iD r) = true
    simp [PyData.canLayAll0, PyData.canLay0, this]
theorem iD_depth : ∀ l : List Nat, PyData.depthAll (iD l) ≤ 1
  | [] => by simp [iD, PyData.depthAll]
  | k :: r => by
    have := iD_depth r
    show PyData.depthAll (PyData.int (k : Nat) :: iD r) ≤ 1
    simp only [PyData.depthAll, PyData.depth]
    omega
theorem nD_shaped (l : List Nat) : SeqAt.shaped (nD l) = true := by
  have h1 := iD_depth l
  have h2 : PyData.depth (nD l) ≤ 64 := by
    simp only [nD, PyData.depth]
    omega
  show (PyData.canLay0 (nD l) && decide (PyData.depth (nD l) ≤ 64)) = true
  rw [decide_eq_true h2, Bool.and_true]
  simp only [nD, PyData.canLay0]
  exact iD_lay l
theorem iD_eqv : ∀ a b : List Nat, PyData.eqvAll (iD a) (iD b) = decide (a = b)
  | [], [] => by simp [iD, PyData.eqvAll]
  | [], _ :: _ => by simp [iD, PyData.eqvAll]
  | _ :: _, [] => by simp [iD, PyData.eqvAll]
  | a :: r, b :: s => by
    have := iD_eqv r s
    show (PyData.eqv (.int (a : Nat)) (.int (b : Nat)) && PyData.eqvAll (iD r) (iD s)) = _
    rw [this]
    simp only [PyData.eqv]
    rw [Bool.eq_iff_iff]
    simp
    omega
theorem nD_eqv (a b : List Nat) : PyData.eqv (nD a) (nD b) = decide (a = b) := by
  simp only [nD, PyData.eqv]
  exact iD_eqv a b
theorem exF_relet (ls : List Nat) : ∀ (st : List Stp) (n : Nat) (E : List Nat) (k : Nat), n + nk st ≤ ls.length → exF E k (relet ls n st) = exF E k st
  | [], _, _, _, _ => rfl
  | .wr w :: r, n, E, k, h => by
    have e1 : nk (.wr w :: r) = w.length + nk r := by simp [nk, Stp.ks]
    have e2 : ((ls.drop n).take w.length).length = w.length := by
      rw [List.length_take, List.length_drop]
      omega
    show exF (E ++ List.range' k ((ls.drop n).take w.length).length) (k + ((ls.drop n).take w.length).length) (relet ls (n + w.length) r) = exF (E ++ List.range' k w.length) (k + w.length) r
    rw [e2]
    exact exF_relet ls r _ _ _ (by omega)
  | .pa f l t :: r, n, E, k, h => by
    have e1 : nk (.pa f l t :: r) = nk r := by simp [nk, Stp.ks]
    exact exF_relet ls r n _ _ (by omega)
theorem ex_relet {ls : List Nat} {st : List Stp} (h : ls.length = nk st) : ex (relet ls 0 st) = ex st := exF_relet ls st 0 [] 0 (by omega)
theorem ex_take {most : Nat} {st : List Stp} (h : Goes most 0 st) (j : Nat) : ex (st.take j) = (ex st).take (sz (st.take j)) := by
  obtain ⟨F, e⟩ := ex_pre (st.take j) (st.drop j)
  rw [List.take_append_drop] at e
  rw [e, ← ex_len _ (goes_take h j), List.take_left]
theorem sz_take_lt {st : List Stp} (h : Goes most 0 st) {j : Nat} (hj : j < st.length) : sz (st.take j) < sz st := by
  have e : st = st.take j ++ st.drop j := (List.take_append_drop _ _).symm
  have hx : st.drop j = st[j] :: st.drop (j + 1) := List.drop_eq_getElem_cons hj
  have e2 := congrArg sz e
  rw [sz_app, hx, sz_cons] at e2
  have := gr_pos (goes_at h (List.getElem?_eq_getElem hj)).1
  omega
theorem cut_refs (as : List Addr) (k : Nat) : cutV (as.map V.ref) none (some (k : Int)) = (as.take k).map V.ref := by
  unfold cutV
  rw [HT.sIx_nat, HT.sIx_none, List.drop_zero, Nat.sub_zero, List.length_map, List.map_take, List.take_eq_take_iff, List.length_map]
  omega
theorem steps_take {K : Fr} {H : Hp} {as : List Addr} {st : List Stp} (h : StepsAt K H as st) (k : Nat) : StepsAt K H (as.take k) (st.take k) := by
  refine ⟨by rw [List.length_take, List.length_take, h.len], fun i x hx => ?_⟩
  have hi : i < k := by
    have := (List.getElem?_eq_some_iff.mp hx).1
    rw [List.length_take] at this
    omega
  rw [List.getElem?_take_of_lt hi] at hx ⊢
  exact h.at_ i x hx
end
end KL
namespace KL
open PySem PySem.Spec PyProof.Rows L2 Pk He
/-! ### steps as data -/
def stD : Stp → PyData
  | .wr w => .tuple [.str "write", .str (sL w)]
  | .pa f l t => .tuple [.str "paste", .int (f : Nat), .int (l : Nat), .int (t : Nat)]
def spStepsP (K : Fr) : Sp := fun vs H Q _ => ∃ (x : Addr) (st : List Stp), vs = [.ref x] ∧ TA_ K H x st ∧ ∀ (ts : Addr) (as : List Addr), SqT K H ts (as.map V.ref) → StepsAt K H as st → Q (.ref ts) H
def spGet (K : Fr) : Sp := fun vs H Q _ => ∃ (x : Addr) (p : Nat) (st : List Stp), vs = [.ref x, .int p] ∧ TA_ K H x st ∧ p < sz st ∧ ∀ (k c : Nat) H2, Same H H2 → (ex st)[p]? = some k → (typed st)[k]? = some c → Q (.str (sL [c])) H2
def hasV (st : List Stp) : V → Bool
  | .str z => (match z.cps.toList with
    | [c] => isLet c && decide (c ∈ typed st)
    | _ => false)
  | _ => false
def spHas (K : Fr) : Sp := fun vs H Q _ => ∃ (x : Addr) (v : V) (st : List Stp), vs = [.ref x, v] ∧ TA_ K H x st ∧ flatV v = true ∧ fitV v ∧ Q (.bl (hasV st v)) H
section
variable {P : Program} {w : World} {K : Fr} {mg : Str → Option Value} {base : Heap} {f : Addr}
theorem scStepsP : FnScope ["self"] ["self"] (defScope sStepsP) := ⟨rfl, rfl, rfl, by decide +kernel, rfl, by decide +kernel, by decide +kernel⟩
theorem ok_stepsp (D : Df K "steps" "Text.steps" sStepsP f) (T : Tc w K mg) : Kp P w K mg base 1 f (spStepsP K) := by
  refine kp_of D scStepsP (fun _ _ _ _ _ _ us hl => match us, hl with | [_], _ => rfl) ?_ (fun cdv A outer s H vs Q E hr h => ?_)
  · rintro vs H Q E ⟨x, st, rfl, _⟩
    rfl
  · obtain ⟨x, st, rfl, t, q⟩ := h
    obtain ⟨dx, ts, sp, as, ss, hx, hts, hst, _⟩ := t.obj
    exact ⟨_, (pss_one (ps_ret (pe_fld (pv 0) rfl))), _, rfl, x, _, dx, _, _, rfl, hx, T.clT, T.nT1, rfl, q ts as hts hst⟩
theorem scGet : FnScope ["self", "at"] ["self", "at"] (defScope sGet) := ⟨rfl, rfl, rfl, by decide +kernel, rfl, by decide +kernel, by decide +kernel⟩
theorem ok_get (D : Df K "__getitem__" "Text.__getitem__" sGet f) (T : Tc w K mg) (GC : Kp P w K mg base 2 (ma K (CT K) "_check_place") (spCheck K)) (GK : Kp P w K mg base 1 (ga K "key_at") (spKeyAt K)) : Kp P w K mg base 3 f (spGet K) := by
  obtain ⟨fdC, psC, FC, bC, kpC⟩ := GC
  refine kp_of D scGet (fun _ _ _ _ _ _ us hl => match us, hl with | [_, _], _ => rfl) ?_ (fun cdv A outer s H vs Q E hr h => ?_)
  · rintro vs H Q E ⟨x, p, st, rfl, _⟩
    rfl
  · obtain ⟨x, p, st, rfl, t, hp, q⟩ := h
    obtain ⟨dx, ts, sp, as, ss, hx, _, _, hsp, hss⟩ := t.obj
    have hz := typed_small t
    refine ⟨_, (pss_cons (ps_expr (pe_meth (pv 0) T.clT T.mCheck FC (hr.mono (by decide)) bC .nil pass0 (pa_cons (pv 1) pa_nil))) (pss_one (ps_ret (pe_item_str (pe_fld (pv 0) rfl) (pk_call GK (hr.mono (by decide)) T.gKeyAt (pa_cons (pe_fld (pv 0) rfl) (pa_cons (pv 1) pa_nil))) (fun _ _ => rfl))))), ?_⟩
    refine ⟨_, rfl, x, dx, _, rfl, hx, lk_check _ _ _, _, rfl, x, p, st, rfl, t, hp, ?_⟩
    refine ⟨_, rfl, x, _, dx, _, _, rfl, hx, T.clT, T.nT4, rfl, _, rfl, x, _, dx, _, _, rfl, hx, T.clT, T.nT2, rfl, _, rfl, sp, p, ss, st, rfl, hsp, hss, t.good, hp, fun k H2 s2 hk => ?_⟩
    have hkn := ex_lt st k (List.mem_of_getElem? hk)
    obtain ⟨c, hc⟩ : ∃ c, (typed st)[k]? = some c := ⟨(typed st)[k]'(by rw [typed_len]; exact hkn), List.getElem?_eq_getElem _⟩
    rw [sL_len, typed_len] at hz
    refine ⟨_, _, c, rfl, rfl, by omega, by omega, by rw [sL_len, typed_len]; omega, ?_, q k c H2 s2 hk hc⟩
    rw [Int.toNat_natCast, ← Array.getElem?_toList]
    exact hc
theorem scHas : FnScope ["self", "x"] ["self", "x"] (defScope sHas) := ⟨rfl, rfl, rfl, by decide +kernel, rfl, by decide +kernel, by decide +kernel⟩
theorem ok_has (D : Df K "__contains__" "Text.__contains__" sHas f) (T : Tc w K mg) (GL : Kp P w K mg base 1 (ga K "is_letter") spIsLetter) : Kp P w K mg base 2 f (spHas K) := by
  refine kp_of D scHas (fun _ _ _ _ _ _ us hl => match us, hl with | [_, _], _ => rfl) ?_ (fun cdv A outer s H vs Q E hr h => ?_)
  · rintro vs H Q E ⟨x, v, st, rfl, _⟩
    rfl
  · obtain ⟨x, v, st, rfl, t, fl, ft, q⟩ := h
    obtain ⟨dx, ts, sp, as, ss, hx, _, _, hsp, hss⟩ := t.obj
    refine ⟨_, (pss_one (ps_ret (pe_and (pk_call GL (hr.mono (by decide)) T.gIsLetter (pa_cons (pv 1) pa_nil)) (pe_one (pe_cmpR op_in_sign (pv 1) (pe_fld (pv 0) rfl) rfl))))), ?_⟩
    refine ⟨_, rfl, v, rfl, fl, ft, _, rfl, ?_⟩
    have hno : isLetV v ≠ true → hasV st v = false := fun h => by
      cases v with
      | str z =>
        unfold hasV
        unfold isLetV at h
        simp only at h ⊢
        split
        · rename_i c e
          rw [e] at h
          simp only at h
          rw [Bool.eq_false_iff.mpr h]
          rfl
        · rfl
      | _ => rfl
    refine ite2 (fun h1 => ?_) fun h1 => ?_
    · cases v with
      | str z =>
        unfold isLetV at h1
        simp only at h1
        split at h1
        · rename_i c e
          have ez : z = ⟨#[c]⟩ := by
            rw [sL_of z, e]
            rfl
          refine ⟨_, rfl, _, rfl, x, _, dx, _, _, rfl, hx, T.clT, T.nT4, rfl, c, _, by rw [ez], rfl, ?_⟩
          have e2 : hasV st (.str z) = decide (c ∈ (sL (typed st)).cps.toList) := by
            show (match z.cps.toList with
              | [c] => isLet c && decide (c ∈ typed st)
              | _ => false) = _
            rw [e]
            simp only [h1, Bool.true_and]
            rfl
          rw [← e2]
          exact q
        · cases h1
      | _ => cases h1
    · rw [hno h1] at q
      exact q
end
end KL
namespace KL
open PySem PySem.Spec PyProof.Rows L2 Pk He
/-! ### promises with ints for places -/
def spGetI (K : Fr) : Sp := fun vs H Q _ => ∃ (x : Addr) (p : Int) (st : List Stp), vs = [.ref x, .int p] ∧ TA_ K H x st ∧ 0 ≤ p ∧ p < (sz st : Nat) ∧ ∀ (k c : Nat) H2, Same H H2 → (ex st)[p.toNat]? = some k → (typed st)[k]? = some c → Q (.str (sL [c])) H2
def spCallI (K : Fr) : Sp := fun vs H Q _ => ∃ (x : Addr) (p : Int) (st : List Stp), vs = [.ref x, .int p] ∧ TA_ K H x st ∧ 0 ≤ p ∧ p < (sz st : Nat) ∧ ∀ (k : Nat) H2, Same H H2 → (ex st)[p.toNat]? = some k → Q (.int k) H2
section
variable {P : Program} {w : World} {K : Fr} {mg : Str → Option Value} {base : Heap} {f : Addr} {k : Nat}
theorem getI (G : Kp P w K mg base k f (spGet K)) : Kp P w K mg base k f (spGetI K) := by
  refine Kp.sub G fun vs H Q E h => ?_
  obtain ⟨x, p, st, rfl, t, h0, h1, q⟩ := h
  refine ⟨x, p.toNat, st, by rw [Int.toNat_of_nonneg h0], t, by omega, q⟩
theorem callI (G : Kp P w K mg base k f (spCall K)) : Kp P w K mg base k f (spCallI K) := by
  refine Kp.sub G fun vs H Q E h => ?_
  obtain ⟨x, p, st, rfl, t, h0, h1, q⟩ := h
  refine ⟨x, p.toNat, st, by rw [Int.toNat_of_nonneg h0], t, by omega, q⟩
end
end KL
namespace KL
open PySem PySem.Spec PyProof.Rows L2 Pk He
theorem stD_dp {K : Fr} {H : Hp} {a : Addr} {x : Stp} (h : SqT K H a (stV x)) : Dp K H (.ref a) (stD x) := by
  cases x with
  | wr w => exact .tup h (.cons (.str _) (.cons (.str _) .nil))
  | pa f l t => exact .tup h (.cons (.str _) (.cons (.int _) (.cons (.int _) (.cons (.int _) .nil))))
theorem steps_dpA {K : Fr} {H : Hp} : ∀ {as : List Addr} {st : List Stp}, as.length = st.length → (∀ (i : Nat) (x : Stp), st[i]? = some x → ∃ a, as[i]? = some a ∧ SqT K H a (stV x)) → DpAll K H (as.map V.ref) (st.map stD)
  | [], [], _, _ => .nil
  | [], _ :: _, h, _ => by cases h
  | _ :: _, [], h, _ => by cases h
  | a :: as, x :: st, h, k => by
    obtain ⟨b, hb, hx⟩ := k 0 x rfl
    cases hb
    exact .cons (stD_dp hx) (steps_dpA (by simpa using h) fun i y hy => k (i + 1) y hy)
theorem steps_dp {K : Fr} {H : Hp} {t : Addr} {as : List Addr} {st : List Stp} (h : SqT K H t (as.map V.ref)) (k : StepsAt K H as st) : Dp K H (.ref t) (.tuple (st.map stD)) := .tup h (steps_dpA k.len k.at_)
theorem sL_ok {l : List Nat} (h : l.all isLet = true) : PyData.strOk (sL l) = true := by
  show (sL l).cps.all (· < 0x110000) = true
  rw [List.all_eq_true] at h
  rw [Array.all_eq_true']
  intro c hc
  have hc2 : c ∈ l := by simpa [sL] using hc
  have := h c hc2
  simp only [isLet, Bool.and_eq_true, decide_eq_true_eq] at this ⊢
  omega
theorem stD_lay {s : Nat} {x : Stp} (h : x.ok s = true) : (stD x).canLay0 = true := by
  cases x with
  | wr w =>
    simp only [Stp.ok, Bool.and_eq_true] at h
    have h1 := sL_ok h.2
    have h2 : PyData.strOk (Str.ofString "write") = true := by decide +kernel
    simp [stD, PyData.canLay0, PyData.canLayAll0, h1, h2]
  | pa f l t =>
    have h2 : PyData.strOk (Str.ofString "paste") = true := by decide +kernel
    simp [stD, PyData.canLay0, PyData.canLayAll0, h2]
theorem stD_depth (x : Stp) : (stD x).depth = 1 := by cases x <;> simp [stD, PyData.depth, PyData.depthAll]
theorem sts_lay {m : Nat} : ∀ {s : Nat} {st : List Stp}, Goes m s st → PyData.canLayAll0 (st.map stD) = true
  | _, [], _ => by simp [PyData.canLayAll0]
  | s, x :: r, h => by
    have h1 := stD_lay h.1
    have h2 := sts_lay h.2.2
    simp [PyData.canLayAll0, h1, h2]
theorem sts_depth : ∀ st : List Stp, PyData.depthAll (st.map stD) ≤ 1
  | [] => by simp [PyData.depthAll]
  | x :: r => by
    have h1 := stD_depth x
    have h2 := sts_depth r
    simp only [List.map_cons, PyData.depthAll]
    omega
theorem sts_shaped {m : Nat} {st : List Stp} (h : Goes m 0 st) : SeqAt.shaped (.tuple (st.map stD)) = true := by
  have h1 := sts_depth st
  have h2 : PyData.depth (.tuple (st.map stD)) ≤ 64 := by
    simp only [PyData.depth]
    omega
  show (PyData.canLay0 (.tuple (st.map stD)) && decide (PyData.depth (.tuple (st.map stD)) ≤ 64)) = true
  rw [decide_eq_true h2, Bool.and_true]
  simp only [PyData.canLay0]
  exact sts_lay h
theorem str_beq (a b : List Nat) : (sL a == sL b) = decide (a = b) := by
  rw [Bool.eq_iff_iff, beq_iff_eq, decide_eq_true_iff, sL_inj]
theorem stD_eqv (x y : Stp) : PyData.eqv (stD x) (stD y) = decide (x = y) := by
  cases x with
  | wr w =>
    cases y with
    | wr v => simp [stD, PyData.eqv, PyData.eqvAll, str_beq]
    | pa f l t => simp [stD, PyData.eqv, PyData.eqvAll]
  | pa f l t =>
    cases y with
    | wr v => simp [stD, PyData.eqv, PyData.eqvAll]
    | pa g m u =>
      simp only [stD, PyData.eqv, PyData.eqvAll]
      rw [Bool.eq_iff_iff]
      simp
      omega
theorem sts_eqv : ∀ a b : List Stp, PyData.eqvAll (a.map stD) (b.map stD) = decide (a = b)
  | [], [] => by simp [PyData.eqvAll]
  | [], _ :: _ => by simp [PyData.eqvAll]
  | _ :: _, [] => by simp [PyData.eqvAll]
  | x :: r, y :: s => by
    have h1 := sts_eqv r s
    have h2 := stD_eqv x y
    simp only [List.map_cons, PyData.eqvAll, h1, h2]
    rw [Bool.eq_iff_iff]
    simp
theorem stsD_eqv (a b : List Stp) : PyData.eqv (.tuple (a.map stD)) (.tuple (b.map stD)) = decide (a = b) := by
  simp only [PyData.eqv]
  exact sts_eqv a b
def spEqT (K : Fr) : Sp := fun vs H Q _ => ∃ (x : Addr) (a : List Stp), TA_ K H x a ∧ ((∃ (y : Addr) (b : List Stp), vs = [.ref x, .ref y] ∧ TA_ K H y b ∧ Q (.bl (decide (a = b))) H) ∨ ∃ (t : Addr) (xs : List V), vs = [.ref x, .ref t] ∧ SqT K H t xs ∧ Q (.bl false) H)
section
variable {P : Program} {w : World} {K : Fr} {mg : Str → Option Value} {base : Heap} {f : Addr}
theorem scEq : FnScope ["self", "other"] ["self", "other"] (defScope sEq) := ⟨rfl, rfl, rfl, by decide +kernel, rfl, by decide +kernel, by decide +kernel⟩
theorem ok_eq (D : Df K "__eq__" "Text.__eq__" sEq f) (T : Tc w K mg) : Kp P w K mg base 1 f (spEqT K) := by
  refine kp_of D scEq (fun _ _ _ _ _ _ us hl => match us, hl with | [_, _], _ => rfl) ?_ (fun cdv A outer s H vs Q E hr h => ?_)
  · rintro vs H Q E ⟨x, a, _, ⟨y, b, rfl, _⟩ | ⟨t, xs, rfl, _⟩⟩ <;> rfl
  · obtain ⟨x, a, ta, h⟩ := h
    obtain ⟨dx, ts, sp, as, ss, hx, hts, hst, _⟩ := ta.obj
    refine ⟨_, (pss_one (ps_ret (pe_and (pe_callB (CallR.or (C8.call_isC T.insT) call_isi) (by rfl) T.isi boot_isinstance (pa_cons (pv 1) (pa_cons (pe_gR T.gText) pa_nil))) (pe_one (pe_cmpR (op_eqD hr.units) (pe_fld (pv 0) rfl) (pe_fld (pv 1) rfl) (nomark _)))))), ?_⟩
    rcases h with ⟨y, b, rfl, tb, q⟩ | ⟨t, xs, rfl, ht, q⟩
    · obtain ⟨dy, ts2, sp2, as2, ss2, hy, hts2, hst2, _⟩ := tb.obj
      refine ⟨_, rfl, .inl ⟨y, dy, _, rfl, hy, true, rfl, ?_⟩⟩
      refine iteT ?_
      refine ⟨_, rfl, x, _, dx, _, _, rfl, hx, T.clT, T.nT1, rfl, _, rfl, y, _, dy, _, _, rfl, hy, T.clT, T.nT1, rfl, _, _, steps_dp hts hst, steps_dp hts2 hst2, sts_shaped ta.good, sts_shaped tb.good, ?_⟩
      rw [stsD_eqv]
      exact q
    · refine ⟨_, rfl, .inr ⟨.ref t, .ref (CT K), .type "tuple", .ref (CT K), false, rfl, .own _, sqT_ty ht, T.tupT, false, rfl, ?_⟩⟩
      exact q
end
end KL
namespace KL
open PySem PySem.Spec PyProof.Rows L2 Pk He
/-! ### the keys and letters of sums -/
theorem exF_mv (n0 : Nat) (A : List Nat) : ∀ (b : List Stp) (E : List Nat) (n : Nat), exF (A ++ E.map (n0 + ·)) (n0 + n) (b.map (mv A.length)) = A ++ (exF E n b).map (n0 + ·)
  | [], E, n => rfl
  | .wr w :: r, E, n => by
    have e : A ++ E.map (n0 + ·) ++ List.range' (n0 + n) w.length = A ++ (E ++ List.range' n w.length).map (n0 + ·) := by
      rw [List.map_append, List.map_add_range', List.append_assoc]
    show exF (A ++ E.map (n0 + ·) ++ List.range' (n0 + n) w.length) (n0 + n + w.length) (r.map (mv A.length)) = _
    rw [e, Nat.add_assoc, exF_mv n0 A r]
    rfl
  | .pa f l t :: r, E, n => by
    have e : A ++ E.map (n0 + ·) ++ (List.replicate t (((A ++ E.map (n0 + ·)).drop (f + A.length)).take (l + A.length + 1 - (f + A.length)))).flatten = A ++ (E ++ (List.replicate t ((E.drop f).take (l + 1 - f))).flatten).map (n0 + ·) := by
      rw [show l + A.length + 1 - (f + A.length) = l + 1 - f by omega, Nat.add_comm f, List.drop_length_add_append, ← List.map_drop, ← List.map_take, List.map_append, List.map_flatten, List.map_replicate, List.append_assoc]
    show exF (A ++ E.map (n0 + ·) ++ (List.replicate t (((A ++ E.map (n0 + ·)).drop (f + A.length)).take (l + A.length + 1 - (f + A.length)))).flatten) (n0 + n) (r.map (mv A.length)) = _
    rw [e, exF_mv n0 A r]
    rfl
theorem ex_plus {a : List Stp} (ha : Goes most 0 a) (b : List Stp) : ex (plus a b) = ex a ++ (ex b).map (nk a + ·) := by
  have hl := ex_len a ha
  have h := exF_mv (nk a) (ex a) b [] 0
  rw [hl, List.map_nil, List.append_nil, Nat.add_zero] at h
  unfold plus
  show exF [] 0 _ = _
  rw [exF_app, Nat.zero_add]
  exact h
theorem typed_mv (s : Nat) (b : List Stp) : typed (b.map (mv s)) = typed b := by
  unfold typed
  rw [List.flatMap_map]
  have e : (fun x => (mv s x).ty) = Stp.ty := by funext x; exact mv_ty s x
  rw [e]
theorem typed_plus (a b : List Stp) : typed (plus a b) = typed a ++ typed b := by
  unfold plus
  rw [typed_app, typed_mv]
theorem nk_plus (a b : List Stp) : nk (plus a b) = nk a + nk b := by
  unfold plus
  rw [nk_app, nk_mv]
theorem len_plus (a b : List Stp) : (plus a b).length = a.length + b.length := by
  unfold plus
  rw [List.length_append, List.length_map]
theorem ltr_plus1 {a b : List Stp} {k : Nat} (h : k < nk a) : ltr (plus a b) k = ltr a k := by
  unfold ltr
  rw [typed_plus, List.getD_eq_getElem?_getD, List.getD_eq_getElem?_getD, List.getElem?_append_left (by rw [typed_len]; exact h)]
theorem ltr_plus2 (a b : List Stp) (k : Nat) : ltr (plus a b) (nk a + k) = ltr b k := by
  unfold ltr
  rw [typed_plus, List.getD_eq_getElem?_getD, List.getD_eq_getElem?_getD, List.getElem?_append_right (by rw [typed_len]; omega), typed_len, Nat.add_sub_cancel_left]
theorem lts_plus {a : List Stp} (ha : Goes most 0 a) (b : List Stp) : lts (plus a b) = lts a ++ lts b := by
  unfold lts
  rw [ex_plus ha, List.map_append, List.map_map]
  congr 1
  · exact List.map_congr_left fun k hk => ltr_plus1 (ex_lt a k hk)
  · exact List.map_congr_left fun k _ => ltr_plus2 a b k
theorem ins_ne {K : Fr} {S : Addr × List Int} {H : Hp} {r p : Addr} {o : HO} (h : RowAt K S H r) (hp : H p = some o) (hn : ∀ xs, o ≠ .lst xs := by intro _ z; cases z) : p ≠ r := fun e => by
  obtain ⟨xs, hx⟩ := h.lst
  rw [e, hx] at hp
  exact hn xs (Option.some.inj hp).symm
theorem spans_row {K : Fr} {S : Addr × List Int} {H H2 : Hp} {r : Addr} {ss : List Addr} {st : List Stp} (h : RowAt K S H r) (b : But r H H2) (t : SpansAt (CS K) H ss st) : SpansAt (CS K) H2 ss st :=
  ⟨t.len, fun i x hx => let ⟨a, dx, h1, h2⟩ := t.at_ i x hx; ⟨a, dx, h1, b _ _ (ins_ne h h2) h2⟩⟩
theorem text_ne {K : Fr} {S : Addr × List Int} {H : Hp} {r x : Addr} {st : List Stp} (h : RowAt K S H r) (t : TA_ K H x st) : x ≠ r := by
  obtain ⟨dx, ts, sp, as, ss, hx, _⟩ := t.obj
  exact ins_ne h hx
theorem text_nk {K : Fr} {H : Hp} {x : Addr} {st : List Stp} (t : TA_ K H x st) : nk st ≤ 600 := by
  have h1 := nk_le t.good
  have h2 := t.few
  omega
theorem okV_nV (l : List Nat) : (nV l).all okV = true := by
  rw [List.all_eq_true]
  intro x hx
  obtain ⟨i, _, rfl⟩ := List.mem_map.mp hx
  rfl
theorem nV_app (a b : List Nat) : nV a ++ nV b = nV (a ++ b) := by simp [nV]
theorem okV_cut {xs : List V} {lo hi : Option Int} (h : xs.all okV = true) : (cutV xs lo hi).all okV = true := by
  rw [List.all_eq_true] at h ⊢
  intro x hx
  unfold cutV at hx
  exact h x (List.mem_of_mem_drop (List.mem_of_mem_take hx))
theorem cut_takeN (l : List Nat) (k : Nat) : cutV (nV l) none (some (k : Int)) = nV (l.take k) := by
  unfold cutV
  rw [HT.sIx_nat, HT.sIx_none, List.drop_zero, Nat.sub_zero, nV_len]
  unfold nV
  rw [← List.map_take]
  congr 1
  rw [List.take_eq_take_iff]
  omega
theorem nV_get {l : List Nat} {i : Nat} (h : i < l.length) : (nV l)[i]? = some (.int (l.getD i 0 : Nat)) := by
  unfold nV
  rw [List.getElem?_map, List.getD_eq_getElem?_getD, List.getElem?_eq_getElem h]
  rfl
theorem nV_app1 (l : List Nat) (m : Nat) : nV l ++ [V.int (m : Nat)] = nV (l ++ [m]) := by simp [nV]
theorem nV_maps (l : List Nat) (g : Nat → Nat) : (List.range l.length).map (fun i => V.int ((g (l.getD i 0) : Nat))) = nV (l.map g) := by
  unfold nV
  rw [List.map_map]
  refine List.ext_getElem (by simp) fun i h1 h2 => ?_
  simp only [List.length_map, List.length_range] at h1
  simp [List.getD_eq_getElem?_getD, List.getElem?_eq_getElem h1]
/-! ### multiples -/
def timesA (a : List Stp) (n : Nat) : List Stp := if n = 1 ∨ a = [] then a else timesL a n
theorem ex_times {a : List Stp} (ha : Goes most 0 a) {n : Nat} (hn : 1 ≤ n) : ex (timesA a n) = (List.replicate n (ex a)).flatten := by
  unfold timesA
  by_cases h : n = 1 ∨ a = []
  · rw [if_pos h]
    rcases h with rfl | rfl
    · simp
    · simp [ex, exF]
  · rw [if_neg h]
    have h1 : ¬ n = 1 := fun z => h (.inl z)
    have h2 : a ≠ [] := fun z => h (.inr z)
    have h3 := sz_pos ha h2
    have hl := ex_len a ha
    unfold timesL
    rw [ex_snoc]
    show ex a ++ (List.replicate (n - 1) (((ex a).drop 0).take (sz a - 1 + 1 - 0))).flatten = _
    rw [List.drop_zero, List.take_of_length_le (by omega)]
    obtain ⟨m, rfl⟩ : ∃ m, n = m + 1 := ⟨n - 1, by omega⟩
    rw [Nat.add_sub_cancel, List.replicate_succ, List.flatten_cons]
theorem typed_times (a : List Stp) (n : Nat) : typed (timesA a n) = typed a := by
  unfold timesA
  split
  · rfl
  · unfold timesL
    rw [typed_app]
    show typed a ++ [] = _
    rw [List.append_nil]
theorem nk_times (a : List Stp) (n : Nat) : nk (timesA a n) = nk a := by rw [← typed_len, typed_times, typed_len]
theorem sz_timesA {a : List Stp} (ha : Goes most 0 a) {n : Nat} (hn : 1 ≤ n) : sz (timesA a n) = n * sz a := by
  unfold timesA
  by_cases h : n = 1 ∨ a = []
  · rw [if_pos h]
    rcases h with rfl | rfl
    · omega
    · show 0 = n * 0
      omega
  · rw [if_neg h]
    exact sz_times ha (fun z => h (.inr z)) (by have : ¬ n = 1 := fun z => h (.inl z); omega)
theorem len_times (a : List Stp) (n : Nat) : (timesA a n).length ≤ a.length + 1 := by
  unfold timesA
  split
  · omega
  · unfold timesL
    rw [List.length_append]
    exact Nat.le_refl _
theorem ltr_times (a : List Stp) (n k : Nat) : ltr (timesA a n) k = ltr a k := by unfold ltr; rw [typed_times]
theorem lts_times {a : List Stp} (ha : Goes most 0 a) {n : Nat} (hn : 1 ≤ n) : lts (timesA a n) = (List.replicate n (lts a)).flatten := by
  unfold lts
  rw [ex_times ha hn, List.map_flatten, List.map_replicate]
  have : ltr (timesA a n) = ltr a := by funext k; exact ltr_times a n k
  rw [this]
/-! ### promises of the law's helpers, with ints -/
def spEqI (K : Fr) : Sp := fun vs H Q _ => ∃ (x y : Addr) (a b : List Stp), vs = [.ref x, .ref y] ∧ TA_ K H x a ∧ TA_ K H y b ∧ Q (.bl (decide (a = b))) H
def spMulI (K : Fr) : Sp := fun vs H Q _ => ∃ (x : Addr) (n : Int) (a : List Stp), vs = [.ref x, .int n] ∧ 1 ≤ n ∧ n ≤ 1000000000 ∧ TA_ K H x a ∧ n * (sz a : Int) ≤ (most : Nat) ∧ a.length < 30 ∧
  ∀ z H2, Same H H2 → TA_ K H2 z (timesA a n.toNat) → Q (.ref z) H2
section
variable {P : Program} {w : World} {K : Fr} {mg : Str → Option Value} {base : Heap} {f : Addr} {k : Nat}
theorem eqI (G : Kp P w K mg base k f (spEqT K)) : Kp P w K mg base k f (spEqI K) := by
  refine Kp.sub G fun vs H Q E h => ?_
  obtain ⟨x, y, a, b, rfl, t, t2, q⟩ := h
  exact ⟨x, a, t, .inl ⟨y, b, rfl, t2, q⟩⟩
theorem mulI (G : Kp P w K mg base k f (spMul K)) : Kp P w K mg base k f (spMulI K) := by
  refine Kp.sub G fun vs H Q E h => ?_
  obtain ⟨x, n, a, rfl, h1, h2, t, h3, h4, q⟩ := h
  refine ⟨x, n.toNat, a, by rw [Int.toNat_of_nonneg (by omega)], by omega, by omega, t, fun hc => ?_, fun hn hne => ⟨?_, h4, fun z H2 hz s t2 => ?_⟩⟩
  · refine q x H (Same.refl _) ?_
    unfold timesA
    rw [if_pos hc]
    exact t
  · have : ((n.toNat * sz a : Nat) : Int) = n * (sz a : Int) := by rw [Int.natCast_mul, Int.toNat_of_nonneg (by omega)]
    omega
  · refine q z H2 s ?_
    unfold timesA
    rw [if_neg (by rintro (z | z); · omega
                   · exact hne z)]
    exact t2
/-- Text() -/
theorem pe_text0 {X : Cx} {x : Str} {p pos : Pos} (csct : CS X.K ≠ CT X.K) (M : Mk X.K (CT X.K) f) (F : FnR X.prog X.w X.K X.mg X.base CX0 k f (spInit5 X.K)) (hr : Room (k + 1) X.A) (hm : X.mg x = some (.ref (CT X.K))) (hg : Gl X x := by rfl) (hdb : (x == ("__debug__" : Str)) = false := by decide) :
    PE X (.Call (.Name x p) [] [] pos) (fun _ H Q => ∀ x H2, H x = none → Same H H2 → TA_ X.K H2 x [] → Q (.ref x) H2) :=
  pe_imp (pe_makeR0 M F hr hg hm pass0 hdb) fun σ H Q h => make_text (as := []) csct StepsAt.nil trivial (by decide) h
/-- the law's row, new -/
theorem row_new {H H1 : Hp} {scr r : Addr} {ns : List Int} (hs : SqL K H scr (ns.map V.int)) (hr : H r = none) (s : Same H H1) (e : H1 r = some (.lst [.ref scr, .int 0, .int 0, .int 0])) : RowAt K (scr, ns) H1 r :=
  ⟨0, 0, 0, e, Same.seq s hs, by decide, by decide, by decide, by decide, fun H2 o h1 => sqL_far hs hr h1⟩
def spLaw (K : Fr) : Sp := fun vs H Q _ => ∃ (scr : Addr) (ns : List Int), vs = [.ref scr] ∧ SqL K H scr (ns.map V.int) ∧ ∀ H2, Q (.bl true) H2
/-- texts at addresses -/
structure TxsAt (K : Fr) (H : Hp) (xs : List Addr) (ts : List (List Stp)) : Prop where
  len : xs.length = ts.length
  at_ : ∀ (i : Nat) (st : List Stp), ts[i]? = some st → ∃ x, xs[i]? = some x ∧ TA_ K H x st
theorem TxsAt.nil {H : Hp} : TxsAt K H [] [] := ⟨rfl, fun i st h => by simp at h⟩
theorem TxsAt.same {H H2 : Hp} {xs : List Addr} {ts : List (List Stp)} (h : TxsAt K H xs ts) (s : Same H H2) : TxsAt K H2 xs ts := ⟨h.len, fun i st hi => let ⟨x, h1, h2⟩ := h.at_ i st hi; ⟨x, h1, h2.same s⟩⟩
theorem TxsAt.butL {H H2 : Hp} {r : Addr} {ys : List V} {xs : List Addr} {ts : List (List Stp)} (h : TxsAt K H xs ts) (hr : H r = some (.lst ys)) (b : But r H H2) : TxsAt K H2 xs ts := ⟨h.len, fun i st hi => let ⟨x, h1, h2⟩ := h.at_ i st hi; ⟨x, h1, text_butL hr b h2⟩⟩
theorem TxsAt.row {S : Addr × List Int} {H H2 : Hp} {r : Addr} {xs : List Addr} {ts : List (List Stp)} (h : TxsAt K H xs ts) (row : RowAt K S H r) (b : But r H H2) : TxsAt K H2 xs ts := let ⟨_, hx⟩ := row.lst; h.butL hx b
theorem TxsAt.snoc {H : Hp} {xs : List Addr} {ts : List (List Stp)} {x : Addr} {st : List Stp} (h : TxsAt K H xs ts) (hx : TA_ K H x st) : TxsAt K H (xs ++ [x]) (ts ++ [st]) := by
  refine ⟨by simp [h.len], fun i y hy => ?_⟩
  by_cases hi : i < ts.length
  · rw [List.getElem?_append_left hi] at hy
    obtain ⟨a, h1, h2⟩ := h.at_ i y hy
    exact ⟨a, by rw [List.getElem?_append_left (by rw [h.len]; exact hi)]; exact h1, h2⟩
  · rw [List.getElem?_append_right (by omega)] at hy
    have hi0 : i - ts.length = 0 := by
      have := (List.getElem?_eq_some_iff.mp hy).1
      simp at this
      omega
    rw [hi0] at hy
    have e : st = y := by simpa using hy
    subst e
    exact ⟨x, by rw [List.getElem?_append_right (by rw [h.len]; omega), h.len, hi0]; rfl, hx⟩
/-- a dict (read or locked) is written: texts and the row stand -/
def isD : HO → Bool
  | .dK _ => true
  | .frz _ (.dK _) => true
  | _ => false
theorem text_butD {H H2 : Hp} {l x : Addr} {o : HO} {st : List Stp} (hl : H l = some o) (ho : isD o = true) (b : But l H H2) (h : TA_ K H x st) : TA_ K H2 x st := by
  have ne : ∀ {q : Addr} {u : HO}, H q = some u → isD u = false → q ≠ l := fun {q u} h1 h2 e => by
    rw [e, hl] at h1
    cases h1
    rw [ho] at h2
    cases h2
  have sq : ∀ {q : Addr} {xs : List V}, SqT K H q xs → SqT K H2 q xs := fun {q xs} h => by
    rcases h with (h | ⟨u, h⟩) | h
    · exact .inl (.inl (b _ _ (ne h rfl) h))
    · exact .inl (.inr ⟨u, b _ _ (ne h rfl) h⟩)
    · exact .inr h
  obtain ⟨dx, ts, sp, as, ss, h1, h2, h3, h4, h5⟩ := h.obj
  exact ⟨h.good, h.few, dx, ts, sp, as, ss, b _ _ (ne h1 rfl) h1, sq h2, ⟨h3.len, fun i y hy => let ⟨a, e1, e2⟩ := h3.at_ i y hy; ⟨a, e1, sq e2⟩⟩, sq h4, ⟨h5.len, fun i y hy => let ⟨a, d, e1, e2⟩ := h5.at_ i y hy; ⟨a, d, e1, b _ _ (ne e2 rfl) e2⟩⟩⟩
theorem RowAt.butD {S : Addr × List Int} {H H2 : Hp} {l r : Addr} {o : HO} (hl : H l = some o) (ho : isD o = true) (b : But l H H2) (h : RowAt K S H r) : RowAt K S H2 r := by
  have ne : ∀ {q : Addr} {u : HO}, H q = some u → isD u = false → q ≠ l := fun {q u} h1 h2 e => by
    rw [e, hl] at h1
    cases h1
    rw [ho] at h2
    cases h2
  obtain ⟨i, sd, hd, b1, b2, b3⟩ := h
  refine ⟨i, sd, hd, b _ _ (ne b1 rfl) b1, ?_, b3⟩
  rcases b2 with (h | ⟨u, h⟩) | h
  · exact .inl (.inl (b _ _ (ne h rfl) h))
  · exact .inl (.inr ⟨u, b _ _ (ne h rfl) h⟩)
  · exact .inr h
theorem txs3 {H : Hp} {xs : List Addr} {ts : List (List Stp)} (h : TxsAt K H xs ts) (hl : xs.length = 3) : ∃ x1 x2 x3 a b c, xs = [x1, x2, x3] ∧ ts = [a, b, c] ∧ TA_ K H x1 a ∧ TA_ K H x2 b ∧ TA_ K H x3 c := by
  have hl2 := h.len
  match xs, ts, hl, hl2, h with
  | [x1, x2, x3], [a, b, c], _, _, h =>
    obtain ⟨y1, e1, t1⟩ := h.at_ 0 a rfl
    obtain ⟨y2, e2, t2⟩ := h.at_ 1 b rfl
    obtain ⟨y3, e3, t3⟩ := h.at_ 2 c rfl
    cases e1
    cases e2
    cases e3
    exact ⟨x1, x2, x3, a, b, c, rfl, rfl, t1, t2, t3⟩
end
end KL
namespace KL
open PySem PySem.Spec PyProof.Rows L2 Pk He
/-- the law, with the tables of code objects as they stand at its start -/
def spLawT (K : Fr) (Z : List (Addr × Str)) : Sp := fun vs H Q _ => ∃ (scr : Addr) (ns : List Int), vs = [.ref scr] ∧ SqL K H scr (ns.map V.int) ∧ TbAt Z H ∧ ∀ H2, Q (.bl true) H2
end KL
namespace KL
open PySem PySem.Spec PyProof.Rows L2 Pk He
/-! ### the draws of the laws k41 to k51 -/
def spDice (K : Fr) : Sp := fun vs H Q _ => ∃ (scr : Addr) (ns : List Int), vs = [.ref scr] ∧ SqL K H scr (ns.map V.int) ∧ ∀ (r : Addr) (H2 : Hp), H r = none → Same H H2 → RowAt K (scr, ns) H2 r → Q (.ref r) H2
def spPick (K : Fr) : Sp := fun vs H Q _ => ∃ (r l : Addr) (S : Addr × List Int) (xs : List V), vs = [.ref r, .ref l] ∧ RowAt K S H r ∧ H l = some (.lst xs) ∧ 0 < xs.length ∧ xs.length < 1000 ∧ l ≠ r ∧
  ∀ (i : Nat) (v : V) (H2 : Hp), xs[i]? = some v → RowAt K S H2 r → But r H H2 → Q v H2
def spWordD (K : Fr) : Sp := fun vs H Q _ => ∃ (r : Addr) (S : Addr × List Int), vs = [.ref r] ∧ RowAt K S H r ∧
  ∀ (ls : List Nat) (H2 : Hp), RowAt K S H2 r → But r H H2 → 1 ≤ ls.length → ls.length ≤ 4 → ls.all isLet = true → ls.all isAz = true → Q (.str (sL ls)) H2
/-- a word that is being drawn -/
structure WdAt (K : Fr) (S : Addr × List Int) (r D : Addr) (H0 : Hp) (i : Nat) (H : Hp) : Prop where
  row : RowAt K S H r
  but : But r H0 H
  ls : ∃ ls : List Nat, H D = some (.lst (ls.map fun c => V.str (sL [c]))) ∧ ls.length = i ∧ ls.all isLet = true ∧ ls.all isAz = true
theorem RowAt.farB {K : Fr} {S : Addr × List Int} {H0 H H2 : Hp} {r D : Addr} (h0 : RowAt K S H0 r) (hD : H0 D = none) (b : But D H H2) (h : RowAt K S H r) : RowAt K S H2 r := by
  have n := row_ne h0 hD
  obtain ⟨_, _, _, _, g0, _⟩ := h0
  obtain ⟨i, sd, hd, h1, h2, h3⟩ := h
  refine ⟨i, sd, hd, b _ _ n.symm h1, ?_, h3⟩
  have key : S.1 ≠ D → SqL K H2 S.1 (S.2.map V.int) := fun ne => by
    rcases h2 with (z | ⟨u, z⟩) | z
    · exact .inl (.inl (b _ _ ne z))
    · exact .inl (.inr ⟨u, b _ _ ne z⟩)
    · exact .inr z
  rcases g0 with (g | ⟨u, g⟩) | g
  · exact key (ne_of_none g hD)
  · exact key (ne_of_none g hD)
  · exact .inr g
theorem abcz_of {i : Nat} {v : V} (h : [V.str "a", V.str "b", V.str "c", V.str "z"][i]? = some v) : ∃ c, v = .str (sL [c]) ∧ isLet c = true ∧ isAz c = true := by
  match i, h with
  | 0, h => cases h; exact ⟨97, rfl, rfl, rfl⟩
  | 1, h => cases h; exact ⟨98, rfl, rfl, rfl⟩
  | 2, h => cases h; exact ⟨99, rfl, rfl, rfl⟩
  | 3, h => cases h; exact ⟨122, rfl, rfl, rfl⟩
  | i + 4, h => cases h
/-- a drawn step stands at t -/
def spDrawn (K : Fr) : Sp := fun vs H Q _ => ∃ (r : Addr) (S : Addr × List Int) (tot mo : Int), vs = [.ref r, .int tot, .int mo] ∧ RowAt K S H r ∧ 0 ≤ tot ∧ tot ≤ 10000000 ∧ 0 < mo ∧ mo ≤ 1000 ∧
  ∀ (p t : Addr) (y : Stp) (H2 : Hp), RowAt K S H2 r → But r H H2 → SqT K H2 p [.ref t, .int (tot + y.gr)] → SqT K H2 t (stV y) → y.ok tot.toNat = true → y.ty.all isAz = true → (y.gr : Int) ≤ 6 * mo → Q (.ref p) H2
theorem iOr {K : Fr} {S : Addr × List Int} {r : Addr} {b : Bool} {H : Hp} {σ : L2.St} {t : TT} {R : Bool → Hp → Prop} (row : RowAt K S H r) (tr : ∀ HC, RowAt K S HC r → But r H HC → R true HC) (hA : b = false → (∀ HC, RowAt K S HC r → But r H HC → R true HC) → t σ H R) : if b = true then R true H else t σ H R := by
  cases b with
  | true => rw [if_pos rfl]; exact tr H row (But.refl _ _)
  | false => rw [if_neg (by decide)]; exact hA rfl tr
theorem sqL_held {K : Fr} {H H1 : Hp} {r a : Addr} {xs : List V} (hne : ∀ (H1 : Hp) (o : HO), SqL K H1 a xs → SqL K (upd H1 r o) a xs) (b : But r H H1) (h : SqL K H a xs) : SqL K H1 a xs := by
  rcases hne H (.own r) h with (h2 | ⟨u, h2⟩) | h2
  · by_cases e : a = r
    · rw [e, upd_same] at h2
      cases h2
    · rw [upd_ne e] at h2
      exact .inl (.inl (b _ _ e h2))
  · by_cases e : a = r
    · rw [e, upd_same] at h2
      cases h2
    · rw [upd_ne e] at h2
      exact .inl (.inr ⟨u, b _ _ e h2⟩)
  · exact .inr h2
section
variable {P : Program} {w : World} {K : Fr} {mg : Str → Option Value} {base : Heap} {f : Addr}
theorem ok_law_dice (D : Df K "_law_dice" "_law_dice" s_law_dice (ga K "_law_dice")) (T : Tc w K mg) : Kp P w K mg base 1 (ga K "_law_dice") (spDice K) := by
  refine kp_of D sc_law_dice (fun _ _ _ _ _ _ us hl => match us, hl with | [_], _ => rfl) ?_ (fun cdv A outer s H vs Q E hr h => ?_)
  · rintro vs H Q E ⟨scr, ns, rfl, _⟩
    rfl
  · obtain ⟨scr, ns, rfl, hs, q⟩ := h
    refine ⟨_, (pss_cons (ps_set (i := 1) sc_law_dice.nd rfl (Or.inl rfl) pe_int) (pss_cons (ps_for PassesOwn.never rfl (pi_list (pv 0)) (pg_name (i := 2) sc_law_dice.nd rfl (Or.inl rfl)) (pss_one (ps_set (i := 1) sc_law_dice.nd rfl (Or.inl rfl) (pe_op op_mod (pk_t1 call_int1 T.int b_int (pe_op (addA K) (pe_op (addA K) (pe_op mulB (pv 1) pe_int) (pe_op mulB (pe_op op_mod (pk_t1 call_int1 T.int b_int (pv 2)) pe_int) pe_int)) pe_int)) pe_int)))) (pss_one (ps_ret (pe_lst (pa_cons (pv 0) (pa_cons pe_int (pa_cons (pe_op mulB (pv 1) (pk_t1 call_int1 T.int b_int (pe_cmpR op_gt (pk_b1 (lenA K) T.len b_len (pv 0)) pe_int (nomark _)))) (pa_cons pe_int pa_nil))))))))), ?_⟩
    refine ⟨_, rfl, _, rfl, ⟨_, (Same.seq (Same.refl _) hs)⟩, ?_⟩
    refine for_list (xs := ns.map V.int) (fun j σ HB => ∃ (x : Int) (v2 : Option V), σ = [some (.ref scr), some (.int x), v2] ∧ 0 ≤ x ∧ x < 2147483647 ∧ HB = H) ⟨0, none, rfl, by decide, by decide, rfl⟩ ?_ ?_ ?_
    · rintro j σ HB hj ⟨x, v2, rfl, h0, h1, rfl⟩
      exact hs
    · rintro j v σ HB hv ⟨x, v2, rfl, h0, h1, rfl⟩
      rw [List.getElem?_map] at hv
      obtain ⟨c, hc, rfl⟩ : ∃ c, ns[j]? = some c ∧ v = .int c := by
        cases e : ns[j]? with
        | none => rw [e] at hv; cases hv
        | some c => rw [e] at hv; cases hv; exact ⟨c, rfl, rfl⟩
      refine ⟨_, rfl, (.inl ⟨_, _, rfl, rfl, (by exact .inl ⟨by omega, by omega⟩), _, rfl, (.inl ⟨_, rfl, _, _, rfl, rfl, (by omega), (.inl ⟨_, _, rfl, rfl, (by exact .inl ⟨by omega, by omega⟩), (.inl ⟨_, _, rfl, rfl, (.inl ⟨_, _, rfl, rfl, (.inl ⟨_, rfl, _, _, rfl, rfl, (by omega), _, _, rfl, (by omega), (by omega), ?_⟩)⟩)⟩)⟩)⟩)⟩)⟩
      exact rfl
    · rintro σ HB ⟨x, v2, rfl, h0, h1, rfl⟩
      refine ⟨_, rfl, _, rfl, _, rfl, (.inr (.inl ⟨_, _, rfl, (.inl hs), _, _, rfl, rfl, (.inr ⟨_, rfl, (.inl ⟨_, _, rfl, rfl, (by exact .inl ⟨by omega, by omega⟩), (by (show 4 ≤ _; decide)), fun p n => ?_⟩)⟩)⟩))⟩
      generalize hE : upd HB p _ = H1
      have s1 : Same HB H1 := hE ▸ same_upd n
      have e_p := (congrFun hE p).symm.trans upd_same
      clear hE
      exact q _ _ n s1 ⟨0, _, 0, e_p, s1.seq hs, by decide, by split <;> omega, by split <;> omega, by decide, fun H2 o h2 => sqL_far hs n h2⟩
theorem ok_law_next (D : Df K "_law_next" "_law_next" s_law_next (ga K "_law_next")) (T : Tc w K mg) : Kp P w K mg base 1 (ga K "_law_next") (spTaken K) := by
  refine kp_of D sc_law_next (fun _ _ _ _ _ _ us hl => match us, hl with | [_, _], _ => rfl) ?_ (fun cdv A outer s H vs Q E hr h => ?_)
  · rintro vs H Q E ⟨r, m, rfl, _⟩
    rfl
  · obtain ⟨r, m, rfl, ⟨scr, ns⟩, ⟨i, seed, held, hrow, hscr, hi, hs0, hs1, hh, hne⟩, hm0, hm1, q⟩ := h
    dsimp only at hrow hscr hne
    refine ⟨_, (pss_cons (ps_if (pt_cmpR op_gt (pe_ix (ixS K) (pv 0) pe_int (fun _ _ => rfl)) pe_int (nomark _)) (pss_cons (ps_set (i := 2) sc_law_next.nd rfl (Or.inl rfl) (pe_op op_mod (pk_t1 call_int1 T.int b_int (pe_ix (ixS K) (pv 0) pe_int (fun _ _ => rfl))) (pv 1))) (pss_cons (ps_asg (pe_op op_fdiv (pe_ix (ixS K) (pv 0) pe_int (fun _ _ => rfl)) (pv 1)) (pg_sub (pv 0) pe_int set_list)) (pss_one (ps_ret (pv 2))))) pss_nil) (pss_cons (ps_asg (pe_op (addA K) (pe_ix (ixS K) (pv 0) pe_int (fun _ _ => rfl)) pe_int) (pg_sub (pv 0) pe_int set_list)) (pss_cons (ps_if (pt_cmpR op_le (pe_ix (ixS K) (pv 0) pe_int (fun _ _ => rfl)) (pk_b1 (lenA K) T.len b_len (pe_ix (ixS K) (pv 0) pe_int (fun _ _ => rfl))) (nomark _)) (pss_cons (ps_set (i := 3) sc_law_next.nd rfl (Or.inl rfl) (pe_ix (ixS K) (pe_ix (ixS K) (pv 0) pe_int (fun _ _ => rfl)) (pe_op op_sub (pe_ix (ixS K) (pv 0) pe_int (fun _ _ => rfl)) pe_int) (fun _ _ => rfl))) (pss_cons (ps_asg (pe_ifExp (pt_cmpR op_ge (pv 3) (pe_op op_pow pe_int pe_int) (nomark _)) (pe_op op_fdiv (pv 3) (pv 1)) pe_int) (pg_sub (pv 0) pe_int set_list)) (pss_one (ps_ret (pe_op op_mod (pk_t1 call_int1 T.int b_int (pv 3)) (pv 1)))))) pss_nil) (pss_cons (ps_asg (pe_op op_mod (pk_t1 call_int1 T.int b_int (pe_op mulB (pe_ix (ixS K) (pv 0) pe_int (fun _ _ => rfl)) pe_int)) pe_int) (pg_sub (pv 0) pe_int set_list)) (pss_one (ps_ret (pe_op op_mod (pk_t1 call_int1 T.int b_int (pe_op op_fdiv (pe_ix (ixS K) (pv 0) pe_int (fun _ _ => rfl)) pe_int)) (pv 1)))))))), ?_⟩
    refine ⟨_, rfl, (.inl ⟨_, _, _, _, rfl, rfl, (SqL.of hrow), rfl, _, _, rfl, rfl, _, rfl, ?_⟩)⟩
    refine iB (fun h1 => ?_) fun h1 => ?_
    · refine ⟨_, rfl, (.inl ⟨_, _, _, _, rfl, rfl, (SqL.of hrow), rfl, (.inl ⟨_, rfl, _, rfl, _, _, rfl, rfl, (by omega), _, rfl, (.inl ⟨_, _, _, _, rfl, rfl, (SqL.of hrow), rfl, _, rfl, _, _, rfl, rfl, (by exact ⟨by omega, by omega⟩), _, rfl, _, _, _, _, rfl, rfl, hrow, rfl, ?_⟩)⟩)⟩)⟩
      generalize hE : upd H r _ = H1
      have b : But r H H1 := hE ▸ but_upd
      have e_r := (congrFun hE r).symm.trans upd_same
      clear hE
      refine ⟨_, rfl, ?_⟩
      exact q _ _ ⟨i, seed, held / m, e_r, sqL_held hne b hscr, hi, hs0, hs1, Int.ediv_nonneg hh (Int.le_of_lt hm0), hne⟩ b (Int.emod_nonneg _ (by omega)) (Int.emod_lt_of_pos _ hm0)
    · refine ⟨_, rfl, (.inl ⟨_, _, _, _, rfl, rfl, (SqL.of hrow), rfl, (.inl ⟨_, _, rfl, rfl, _, rfl, _, _, _, _, rfl, rfl, hrow, rfl, ?_⟩)⟩)⟩
      generalize hE : upd H r _ = H1
      have b : But r H H1 := hE ▸ but_upd
      have e_r := (congrFun hE r).symm.trans upd_same
      clear hE
      refine ⟨_, rfl, (.inl ⟨_, _, _, _, rfl, rfl, (SqL.of e_r), rfl, _, rfl, (.inl ⟨_, _, _, _, rfl, rfl, (SqL.of e_r), rfl, ?_⟩)⟩)⟩
      have q1 := sqL_held hne b hscr
      have e_r : H1 r = some (HO.lst [V.ref scr, V.int (i + 1), V.int seed, V.int held]) := e_r
      refine (.inr (.inl ⟨_, _, rfl, (.inl q1), _, _, rfl, rfl, _, rfl, ?_⟩))
      refine iB (fun h2 => ?_) fun h2 => ?_
      · rw [List.length_map] at h2
        obtain ⟨c, hc⟩ : ∃ c, ns[i.toNat]? = some c := ⟨ns[i.toNat]'(by omega), List.getElem?_eq_getElem (by omega)⟩
        have hix : atI (ns.map V.int) (i + 1 - 1) = some (.int c) := by
          rw [show i + 1 - 1 = ((i.toNat : Nat) : Int) by omega]
          refine atI_nat ?_
          rw [List.getElem?_map, hc]
          rfl
        refine ⟨_, rfl, (.inl ⟨_, _, _, _, rfl, rfl, (SqL.of e_r), rfl, _, rfl, (.inl ⟨_, _, _, _, rfl, rfl, (SqL.of e_r), rfl, _, _, rfl, rfl, (.inl ⟨_, _, _, _, rfl, rfl, q1, hix, _, rfl, _, _, rfl, rfl, ⟨(by omega), ⟨(by omega), (by omega)⟩⟩, _, _, rfl, rfl, _, rfl, ?_⟩)⟩)⟩)⟩
        have hp18 : (10 : Int) ^ Int.toNat 18 = 1000000000000000000 := by decide
        refine iB (fun h3 => ?_) fun h3 => ?_
        · refine ⟨_, rfl, _, rfl, _, _, rfl, rfl, (by exact ⟨by omega, by omega⟩), _, rfl, _, _, _, _, rfl, rfl, e_r, rfl, ?_⟩
          generalize hE : upd H1 r _ = H11
          have b1 : But r H1 H11 := hE ▸ but_upd
          have e_r1 := (congrFun hE r).symm.trans upd_same
          clear hE
          refine ⟨_, rfl, (.inl ⟨_, rfl, _, rfl, _, _, rfl, rfl, (by omega), ?_⟩)⟩
          exact q _ _ ⟨i + 1, seed, c / m, e_r1, sqL_held hne b1 q1, by omega, hs0, hs1, Int.ediv_nonneg (by omega) (Int.le_of_lt hm0), hne⟩ (b.trans b1) (Int.emod_nonneg _ (by omega)) (Int.emod_lt_of_pos _ hm0)
        · refine ⟨_, rfl, _, _, _, _, rfl, rfl, e_r, rfl, ?_⟩
          generalize hE : upd H1 r _ = H11
          have b1 : But r H1 H11 := hE ▸ but_upd
          have e_r1 := (congrFun hE r).symm.trans upd_same
          clear hE
          refine ⟨_, rfl, (.inl ⟨_, rfl, _, rfl, _, _, rfl, rfl, (by omega), ?_⟩)⟩
          exact q _ _ ⟨i + 1, seed, 0, e_r1, sqL_held hne b1 q1, by omega, hs0, hs1, Int.le_refl _, hne⟩ (b.trans b1) (Int.emod_nonneg _ (by omega)) (Int.emod_lt_of_pos _ hm0)
      · refine ⟨_, rfl, (.inl ⟨_, _, _, _, rfl, rfl, (SqL.of e_r), rfl, (.inl ⟨_, _, rfl, rfl, (by exact .inl ⟨by omega, by omega⟩), (.inl ⟨_, rfl, _, _, rfl, rfl, (by omega), _, rfl, _, _, _, _, rfl, rfl, e_r, rfl, ?_⟩)⟩)⟩)⟩
        generalize hE : upd H1 r _ = H11
        have b1 : But r H1 H11 := hE ▸ but_upd
        have e_r1 := (congrFun hE r).symm.trans upd_same
        clear hE
        refine ⟨_, rfl, (.inl ⟨_, _, _, _, rfl, rfl, (SqL.of e_r1), rfl, _, _, rfl, rfl, (by exact ⟨by omega, by omega⟩), (.inl ⟨_, rfl, _, rfl, _, _, rfl, rfl, (by omega), ?_⟩)⟩)⟩
        exact q _ _ ⟨i + 1, _, held, e_r1, sqL_held hne b1 q1, by omega, Int.emod_nonneg _ (by decide), Int.emod_lt_of_pos _ (by decide), hh, hne⟩ (b.trans b1) (Int.emod_nonneg _ (by omega)) (Int.emod_lt_of_pos _ hm0)
theorem ok_law_pick (D : Df K "_law_pick" "_law_pick" s_law_pick (ga K "_law_pick")) (T : Tc w K mg) (G_law_next : Kp P w K mg base 1 (ga K "_law_next") (spTaken K)) : Kp P w K mg base 2 (ga K "_law_pick") (spPick K) := by
  refine kp_of D sc_law_pick (fun _ _ _ _ _ _ us hl => match us, hl with | [_, _], _ => rfl) ?_ (fun cdv A outer s H vs Q E hr h => ?_)
  · rintro vs H Q E ⟨r, l, S, xs, rfl, _⟩
    rfl
  · obtain ⟨r, l, S, xs, rfl, row, hl, h0, h1, hne, q⟩ := h
    refine ⟨_, (pss_one (ps_ret (pe_ix (ixS K) (pv 1) (pk_call G_law_next (hr.mono (by omega)) T.g_law_next (pa_cons (pv 0) (pa_cons (pk_b1 (lenA K) T.len b_len (pv 1)) pa_nil))) (fun _ _ => rfl)))), ?_⟩
    refine ⟨_, rfl, _, rfl, _, rfl, (.inr (.inl ⟨_, _, rfl, (.inl (SqL.of hl)), _, _, rfl, _, row, (by omega), (by omega), fun v H2 row1 b h h2 => ?_⟩))⟩
    have hl2 := b _ _ hne hl
    obtain ⟨y, hy⟩ : ∃ y, xs[v.toNat]? = some y := ⟨xs[v.toNat]'(by omega), List.getElem?_eq_getElem (by omega)⟩
    have hat : atI xs v = some y := by
      rw [show v = ((v.toNat : Nat) : Int) by omega]
      exact atI_nat hy
    refine (.inl ⟨_, _, _, _, rfl, rfl, (SqL.of hl2), hat, ?_⟩)
    exact q _ _ _ hy row1 b
theorem ok_law_word (D : Df K "_law_word" "_law_word" sWord (ga K "_law_word")) (T : Tc w K mg) (G_law_next : Kp P w K mg base 1 (ga K "_law_next") (spTaken K)) (G_law_pick : Kp P w K mg base 2 (ga K "_law_pick") (spPick K)) : Kp P w K mg base 3 (ga K "_law_word") (spWordD K) := by
  refine kp_of D sc_law_word (fun _ _ _ _ _ _ us hl => match us, hl with | [_], _ => rfl) ?_ (fun cdv A outer s H vs Q E hr h => ?_)
  · rintro vs H Q E ⟨r, S, rfl, _⟩
    rfl
  · obtain ⟨r, S, rfl, row, q⟩ := h
    refine ⟨_, (pss_one (ps_ret (pe_joinK K pe_str (pe_lc (own := [("_law_k", 1)]) (g := gName 1) (tt := tYes) rfl sc_law_word.nd (pi_range1 (by rfl) T.rng (pa_cons (pe_op (addA K) pe_int (pk_call G_law_next (hr.mono (by omega)) T.g_law_next (pa_cons (pv 0) (pa_cons pe_int pa_nil)))) pa_nil)) (blkOk_by (N := ["_law_d", "_law_k"]) (sc := defScope sWord) (by decide +kernel)) (fun _ _ _ _ _ => (pg_name (i := 1) sc_law_word.nd rfl (Or.inl rfl))) (fun _ _ _ _ _ => pts_nil) (fun _ _ _ _ _ => (pk_call G_law_pick (hr.mono (by omega)) T.g_law_pick (pa_cons (pv 0) (pa_cons (pe_lst (pa_cons pe_str (pa_cons pe_str (pa_cons pe_str (pa_cons pe_str pa_nil))))) pa_nil)))))))), ?_⟩
    refine ⟨⟨_, rfl⟩, _, rfl, _, _, rfl, _, row, (by omega), (by omega), fun v H2 row1 b h h1 => ?_⟩
    refine (.inl ⟨_, _, rfl, rfl, _, rfl, (by omega), (by omega), fun D1 n => ?_⟩)
    have ne_D1 := row_ne row1 n
    refine lc_all (walk_range (lo := 0) (n := (1 + v).toNat)) (WdAt K S r D1 H2) ⟨RowAt.far row1 n row1, Same.but (same_upd n), [], upd_same, rfl, rfl, rfl⟩ (fun _ _ _ _ => trivial) ?_ ?_
    · rintro j v HB HC hj ⟨rowB, bB, ls, hD1, hls, hlet, haz⟩ ⟨rfl, rfl⟩
      have hls2 : ls.length ≤ 100 := by omega
      refine ⟨rfl, _, rfl, (by (show 4 ≤ _; decide)), fun p n1 => ?_⟩
      have ne_p := row_ne rowB n1
      generalize hE : upd HC p _ = H1
      have s1 : Same HC H1 := hE ▸ same_upd n1
      have e_p := (congrFun hE p).symm.trans upd_same
      clear hE
      refine ⟨_, _, _, _, rfl, (RowAt.same rowB s1), e_p, (by decide), (by (show 4 < _; decide)), ?_⟩
      refine ⟨ne_p, fun i v1 H21 e row2 b1 => ?_⟩
      refine ⟨_, (b1 _ _ ne_D1 (s1 _ _ hD1)), (by exact small_ok (by simp only [cV_len, nV_len, List.length_append, List.length_map, List.length_take, List.length_drop, List.length_range, sL_len, typed_len, lts_len, kvL_len]; omega)), ?_⟩
      generalize hE : upd H21 D1 _ = H11
      have b2 : But D1 H21 H11 := hE ▸ but_upd
      have e_D1 := (congrFun hE D1).symm.trans upd_same
      clear hE
      obtain ⟨c, rfl, hc1, hc2⟩ := abcz_of e
      refine ⟨row1.farB n b2 row2, ?_, ls ++ [c], by rw [e_D1, List.map_append]; rfl, by rw [List.length_append, hls]; rfl, by rw [List.all_append, hlet]; simp [hc1], by rw [List.all_append, haz]; simp [hc2]⟩
      exact fun a o ha h => b2 a o (ne_of_none h n) ((bB.trans ((Same.but s1).trans b1)) a o ha h)
    · rintro HB ⟨rowB, bB, ls, hD1, hls, hlet, haz⟩
      refine ⟨_, D1, ls.map fun c => sL [c], rfl, rfl, .inl (SqL.of (by rw [List.map_map]; exact hD1)), ?_, ?_⟩
      · rw [sum_one]
        have : (Str.length "" : Nat) = 0 := by decide +kernel
        rw [this]
        omega
      · rw [join_one]
        exact q ls HB rowB (b.trans bB) (by omega) (by omega) hlet haz
theorem ok_law_drawn (D : Df K "_law_drawn" "_law_drawn" s_law_drawn (ga K "_law_drawn")) (T : Tc w K mg) (G_law_next : Kp P w K mg base 1 (ga K "_law_next") (spTaken K)) (G_law_word : Kp P w K mg base 3 (ga K "_law_word") (spWordD K)) : Kp P w K mg base 4 (ga K "_law_drawn") (spDrawn K) := by
  refine kp_of D sc_law_drawn (fun _ _ _ _ _ _ us hl => match us, hl with | [_, _, _], _ => rfl) ?_ (fun cdv A outer s H vs Q E hr h => ?_)
  · rintro vs H Q E ⟨r, S, tot, mo, rfl, _⟩
    rfl
  · obtain ⟨r, S, tot, mo, rfl, row, h0, h1, h2, h3, q⟩ := h
    refine ⟨_, (pss_cons (ps_if (pw_or (pt_cmpR (eqB K hr.units) (pv 1) pe_int (nomark _)) (pw_or1 (pt_cmpR (eqB K hr.units) (pk_call G_law_next (hr.mono (by omega)) T.g_law_next (pa_cons (pv 0) (pa_cons pe_int pa_nil))) pe_int (nomark _)))).pt (pss_cons (ps_set (i := 3) sc_law_drawn.nd rfl (Or.inl rfl) (pk_call G_law_word (hr.mono (by omega)) T.gWord (pa_cons (pv 0) pa_nil))) (pss_one (ps_ret (pe_tup (pa_cons (pe_tup (pa_cons pe_str (pa_cons (pv 3) pa_nil))) (pa_cons (pe_op (addA K) (pv 1) (pk_b1 (lenA K) T.len b_len (pv 3))) pa_nil)))))) pss_nil) (pss_cons (ps_set (i := 4) sc_law_drawn.nd rfl (Or.inl rfl) (pk_call G_law_next (hr.mono (by omega)) T.g_law_next (pa_cons (pv 0) (pa_cons (pv 1) pa_nil)))) (pss_cons (ps_set (i := 5) sc_law_drawn.nd rfl (Or.inl rfl) (pe_op (addA K) (pv 4) (pk_call G_law_next (hr.mono (by omega)) T.g_law_next (pa_cons (pv 0) (pa_cons (pe_callB (call_min2 rfl) (by rfl) T.min b_min (pa_cons (pe_op op_sub (pv 1) (pv 4)) (pa_cons pe_int pa_nil))) pa_nil))))) (pss_cons (ps_set (i := 6) sc_law_drawn.nd rfl (Or.inl rfl) (pe_op (addA K) pe_int (pk_call G_law_next (hr.mono (by omega)) T.g_law_next (pa_cons (pv 0) (pa_cons (pv 2) pa_nil))))) (pss_one (ps_ret (pe_tup (pa_cons (pe_tup (pa_cons pe_str (pa_cons (pv 4) (pa_cons (pv 5) (pa_cons (pv 6) pa_nil))))) (pa_cons (pe_op (addA K) (pv 1) (pe_op mulB (pe_op (addA K) (pe_op op_sub (pv 5) (pv 4)) pe_int) (pv 6))) pa_nil))))))))), ?_⟩
    refine ⟨_, rfl, (.inl ⟨rfl, _, rfl, ?_⟩)⟩
    refine iOr row (fun HC rowC bC => ?_) fun hz tl => ?_
    · dsimp only
      refine iT rfl ?_
      refine ⟨_, rfl, _, _, rfl, rowC, fun ls H2 row1 b h h4 e e1 => ?_⟩
      refine ⟨_, rfl, (by (show 2 ≤ _; decide)), fun p n => ?_⟩
      have ne_p := row_ne row1 n
      generalize hE : upd H2 p _ = H1
      have s1 : Same H2 H1 := hE ▸ same_upd n
      have e_p := (congrFun hE p).symm.trans upd_same
      clear hE
      refine ⟨_, rfl, _, rfl, (.inl ⟨_, rfl, (by exact small_ok (by simp only [cV_len, nV_len, List.length_append, List.length_map, List.length_take, List.length_drop, List.length_range, sL_len, typed_len, lts_len, kvL_len]; omega)), (.inl ⟨_, _, rfl, rfl, (by (show 2 ≤ _; decide)), fun p1 n1 => ?_⟩)⟩)⟩
      have ne_p1 := row_ne (RowAt.same row1 s1) n1
      generalize hE : upd H1 p1 _ = H11
      have s2 : Same H1 H11 := hE ▸ same_upd n1
      have e_p1 := (congrFun hE p1).symm.trans upd_same
      clear hE
      have hp1 := (s2 _ _ e_p)
      refine q p1 p (.wr ls) H11 ?_ ?_ (SqT.of (by rw [sL_len] at e_p1; exact e_p1)) (SqT.of hp1) ?_ e1 (by show (ls.length : Int) ≤ 6 * mo; omega)
      · exact (RowAt.same row1 (s1.trans s2))
      · exact (((bC.trans b).trans (Same.but s1)).trans (Same.but s2))
      · simp only [Stp.ok, Bool.and_eq_true, decide_eq_true_eq]
        exact ⟨⟨by omega, by omega⟩, e⟩
    · have htot : tot ≠ 0 := fun e => by rw [e] at hz; cases hz
      clear hz
      refine ⟨_, rfl, _, _, rfl, _, row, (by omega), (by omega), fun v H2 row1 b h h4 => ?_⟩
      refine (.inl ⟨rfl, _, rfl, ?_⟩)
      refine iB (fun hv => ?_) fun hv => ?_
      · exact tl H2 row1 b
      · refine ⟨_, rfl, _, rfl, _, _, rfl, _, row1, (by omega), (by omega), fun v1 H21 row2 b1 h5 h6 => ?_⟩
        refine ⟨_, rfl, _, rfl, _, rfl, _, rfl, _, _, rfl, rfl, _, _, rfl, _, _, rfl, _, row2, (by omega), (by omega), fun v2 H22 row3 b2 h7 h8 => ?_⟩
        refine (.inl ⟨_, _, rfl, rfl, _, rfl, _, rfl, _, _, rfl, _, row3, (by omega), (by omega), fun v3 H23 row4 b3 h9 h10 => ?_⟩)
        generalize hσ : List.set _ _ _ = σ1
        simp only [L2.start, List.set_cons_zero, List.set_cons_succ, List.map_cons, List.map_nil, List.length_cons, List.length_nil, List.replicate_succ, List.replicate_zero, List.cons_append, List.nil_append, Nat.reduceAdd, Nat.reduceSub] at hσ
        subst hσ
        refine (.inl ⟨_, _, rfl, rfl, _, rfl, _, rfl, _, rfl, (by (show 4 ≤ _; decide)), fun p n => ?_⟩)
        have ne_p := row_ne row4 n
        generalize hE : upd H23 p _ = H1
        have s1 : Same H23 H1 := hE ▸ same_upd n
        have e_p := (congrFun hE p).symm.trans upd_same
        clear hE
        refine ⟨_, rfl, _, rfl, _, rfl, _, _, rfl, rfl, (.inl ⟨_, _, rfl, rfl, _, rfl, (.inl ⟨_, _, rfl, rfl, (by exact .inl ⟨by omega, by omega⟩), (.inl ⟨_, _, rfl, rfl, (by (show 2 ≤ _; decide)), fun p1 n1 => ?_⟩)⟩)⟩)⟩
        have ne_p1 := row_ne (RowAt.same row4 s1) n1
        generalize hE : upd H1 p1 _ = H11
        have s2 : Same H1 H11 := hE ▸ same_upd n1
        have e_p1 := (congrFun hE p1).symm.trans upd_same
        clear hE
        have hmin : v2 < 6 ∧ v2 < tot - v1 := by
          split at h8 <;> omega
        obtain ⟨f1, rfl⟩ := Int.eq_ofNat_of_zero_le (by assumption : 0 ≤ v1)
        obtain ⟨d1, rfl⟩ := Int.eq_ofNat_of_zero_le (by assumption : 0 ≤ v2)
        obtain ⟨t1, rfl⟩ := Int.eq_ofNat_of_zero_le (by assumption : 0 ≤ v3)
        have hp1 := (s2 _ _ e_p)
        have ew : ((f1 : Int) + (d1 : Int) - (f1 : Int) + 1) * (1 + (t1 : Int)) = (((f1 + d1 + 1 - f1) * (1 + t1) : Nat) : Int) := by
          rw [show ((f1 : Int) + (d1 : Int) - (f1 : Int) + 1) = ((f1 + d1 + 1 - f1 : Nat) : Int) by omega, show (1 + (t1 : Int)) = ((1 + t1 : Nat) : Int) by omega, ← Int.natCast_mul]
        have hgr : (((f1 + d1 + 1 - f1) * (1 + t1) : Nat) : Int) ≤ 6 * mo := by
          obtain ⟨m1, rfl⟩ := Int.eq_ofNat_of_zero_le (by omega : 0 ≤ mo)
          have := Nat.mul_le_mul (show f1 + d1 + 1 - f1 ≤ 6 by omega) (show 1 + t1 ≤ m1 by omega)
          omega
        refine q p1 p (.pa f1 (f1 + d1) (1 + t1)) H11 ?_ ?_ (SqT.of (by dsimp only at e_p1; rw [ew] at e_p1; exact e_p1)) (SqT.of hp1) ?_ rfl hgr
        · exact (RowAt.same row4 (s1.trans s2))
        · exact (((((b.trans b1).trans b2).trans b3).trans (Same.but s1)).trans (Same.but s2))
        · simp only [Stp.ok, Bool.and_eq_true, decide_eq_true_eq]
          omega
end
end KL
namespace KL
open PySem PySem.Spec PyProof.Rows L2 Pk He
/-- drawn steps stand in the list l, perhaps none -/
def spStepsD (K : Fr) : Sp := fun vs H Q _ => ∃ (r : Addr) (S : Addr × List Int) (c mo : Int), vs = [.ref r, .int c, .int mo] ∧ RowAt K S H r ∧ 0 ≤ c ∧ c ≤ 20 ∧ 0 < mo ∧ mo ≤ 100 ∧
  ∀ (l : Addr) (as : List Addr) (st : List Stp) (H2 : Hp), RowAt K S H2 r → But r H H2 → H l = none → l ≠ r → H2 l = some (.lst (as.map V.ref)) → StepsAt K H2 as st → Goes most 0 st → (st.length : Int) ≤ c → (sz st : Int) ≤ 6 * mo * c → (typed st).all isAz = true → Q (.ref l) H2
section
variable {P : Program} {w : World} {K : Fr} {mg : Str → Option Value} {base : Heap} {f : Addr}
theorem ok_law_steps (D : Df K "_law_steps" "_law_steps" sSteps (ga K "_law_steps")) (T : Tc w K mg) (G_law_next : Kp P w K mg base 1 (ga K "_law_next") (spTaken K)) (G_law_drawn : Kp P w K mg base 4 (ga K "_law_drawn") (spDrawn K)) : Kp P w K mg base 5 (ga K "_law_steps") (spStepsD K) := by
  refine kp_of D sc_law_steps (fun _ _ _ _ _ _ us hl => match us, hl with | [_, _, _], _ => rfl) ?_ (fun cdv A outer s H vs Q E hr h => ?_)
  · rintro vs H Q E ⟨r, S, c, mo, rfl, _⟩
    rfl
  · obtain ⟨r, S, c, mo, rfl, row, h0, h1, h2, h3, q⟩ := h
    have hmost : most = 1000000000000000000 := rfl
    refine ⟨_, (pss_cons (ps_par (i := 3) (j := 4) rfl sc_law_steps.nd rfl rfl (by decide) rfl rfl (pa_cons (pe_lst pa_nil) (pa_cons pe_int pa_nil)) (by rfl)) (pss_cons (ps_for PassesOwn.never rfl (pi_range1 (by rfl) T.rng (pa_cons (pk_call G_law_next (hr.mono (by omega)) T.g_law_next (pa_cons (pv 0) (pa_cons (pe_op (addA K) (pv 1) pe_int) pa_nil))) pa_nil)) (pg_name (i := 5) sc_law_steps.nd rfl (Or.inl rfl)) (pss_cons (ps_asg (pk_call G_law_drawn (hr.mono (by omega)) T.g_law_drawn (pa_cons (pv 0) (pa_cons (pv 4) (pa_cons (pv 2) pa_nil)))) (pg_tup rfl (pgs_cons (pg_name (i := 6) sc_law_steps.nd rfl (Or.inl rfl)) (pgs_cons (pg_name (i := 4) sc_law_steps.nd rfl (Or.inl rfl)) pgs_nil)))) (pss_one (ps_expr (pe_bm PySem.F.plainAttrs_list PySem.F.slot_list_append PySem.F.type_list_append mt_append (pv 3) (pa_cons (pv 6) pa_nil)))))) (pss_one (ps_ret (pv 3))))), ?_⟩
    refine ⟨(by (show 0 ≤ _; decide)), fun p n => ?_⟩
    have ne_p := row_ne row n
    refine ⟨_, _, rfl, ?_⟩
    generalize hσ : List.set _ _ _ = σ1
    simp only [L2.start, List.set_cons_zero, List.set_cons_succ, List.map_cons, List.map_nil, List.length_cons, List.length_nil, List.replicate_succ, List.replicate_zero, List.cons_append, List.nil_append, Nat.reduceAdd, Nat.reduceSub] at hσ
    subst hσ
    refine ⟨_, rfl, ?_⟩
    refine ⟨_, rfl, ?_⟩
    generalize hE : upd H p _ = H1
    have s1 : Same H H1 := hE ▸ same_upd n
    have e_p := (congrFun hE p).symm.trans upd_same
    clear hE
    refine (.inl ⟨_, _, rfl, rfl, _, _, rfl, _, (RowAt.same row s1), (by omega), (by omega), fun v H2 row1 b h h4 => ?_⟩)
    refine ⟨_, rfl, (by omega), (by omega), ?_⟩
    refine for_range (lo := 0) (n := v.toNat) (fun i σ HB => ∃ (as : List Addr) (st : List Stp) (v6 v7 : Option V), σ = [some (.ref r), some (.int c), some (.int mo), some (.ref p), some (.int (sz st : Nat)), v6, v7] ∧ RowAt K S HB r ∧ But r H HB ∧ HB p = some (.lst (as.map V.ref)) ∧ StepsAt K HB as st ∧ Goes most 0 st ∧ st.length ≤ i ∧ (sz st : Int) ≤ 6 * mo * (i : Nat) ∧ (typed st).all isAz = true) ⟨[], [], none, none, rfl, row1, (Same.but s1).trans b, b _ _ ne_p e_p, StepsAt.nil, trivial, Nat.le_refl _, by simp [sz], rfl⟩ ?_ ?_
    · rintro i σ HB hi ⟨as, st, v6, v7, rfl, rowB, bB, eB, hst, good, few, size, az⟩
      have hi20 : i < 20 := by omega
      have hm1 : 6 * mo * (i : Nat) ≤ 600 * (i : Nat) := Int.mul_le_mul_of_nonneg_right (by omega) (by omega)
      have hal := hst.len
      have hal2 : (as.map V.ref).length < sizeLine := by
        rw [List.length_map]
        exact small_lt (by omega)
      refine ⟨_, rfl, _, rfl, _, rfl, _, _, _, _, rfl, rowB, (by omega), (by omega), (by omega), (by omega), fun p1 t y H21 row2 b1 h5 h6 e e1 h7 => ?_⟩
      refine ⟨_, _, rfl, (same_sqT (Same.refl _) h5), rfl, _, _, rfl, _, _, rfl, rfl, _, rfl, (.inl ⟨rfl, ⟨_, (SqL.of (b1 _ _ ne_p eB))⟩⟩), _, rfl, _, _, _, rfl, rfl, (b1 _ _ ne_p eB), (by omega), ?_⟩
      generalize hE : upd H21 p _ = H11
      have b2 : But p H21 H11 := hE ▸ but_upd
      have e_p1 := (congrFun hE p).symm.trans upd_same
      clear hE
      generalize hσ : List.set _ _ _ = σ1
      simp only [L2.start, List.set_cons_zero, List.set_cons_succ, List.map_cons, List.map_nil, List.length_cons, List.length_nil, List.replicate_succ, List.replicate_zero, List.cons_append, List.nil_append, Nat.reduceAdd, Nat.reduceSub] at hσ
      subst hσ
      have e22 := b1 _ _ ne_p eB
      rw [Int.toNat_natCast] at e
      refine ⟨as ++ [t], st ++ [y], some (.int (0 + (i : Int))), some (.ref t), ?_, RowAt.farB row n b2 row2, fun a o ha h => b2 a o (ne_of_none h n) ((bB.trans b1) a o ha h), by rw [e_p1, List.map_append]; rfl, (steps_butL e22 b2 (steps_row rowB b1 hst)).snoc (sqT_butL e22 b2 h6), goes_app.mpr ⟨good, by rw [Nat.zero_add]; exact e, by rw [Nat.zero_add]; omega, trivial⟩, by rw [List.length_append]; show _ + 1 ≤ _; omega, ?_, by rw [typed_app, List.all_append, az]; show (true && (y.ty ++ []).all isAz) = true; rw [List.append_nil, e1]; rfl⟩
      · rw [sz_app]
        show _ = [_, _, _, _, some (V.int ((sz st + (y.gr + 0) : Nat) : Int)), _, _]
        rw [Nat.add_zero, Int.natCast_add]
      · rw [sz_app]
        show ((sz st + (y.gr + 0) : Nat) : Int) ≤ _
        rw [show (((i + 1 : Nat)) : Int) = (i : Int) + 1 by omega, Int.mul_add, Int.mul_one]
        omega
    · rintro σ HB ⟨as, st, v6, v7, rfl, rowB, bB, eB, hst, good, few, size, az⟩
      have hm1 : 6 * mo * (v.toNat : Nat) ≤ 6 * mo * c := Int.mul_le_mul_of_nonneg_left (by omega) (by omega)
      refine ⟨_, rfl, ?_⟩
      exact q _ _ _ _ rowB bB n ne_p eB hst good (by omega) (by omega) az
end
end KL
namespace KL
open PySem PySem.Spec PyProof.Rows L2 Pk He
theorem hu1 {A : Around} (h : A.units + 64 < cLine) : A.units + 1 < cLine := by omega
theorem kvW_len (W : WL) : (kvW W).length = W.length := List.length_map ..
def spAddW : Sp := fun vs H Q _ => ∃ (d : Addr) (p : Nat) (w : Int) (W : WL), vs = [.ref d, .int p, .int w] ∧ H d = some (.dK (kvW W)) ∧ (W.map (·.1)).Nodup ∧ W.length < 2000000 ∧ Q .non (upd H d (.dK (kvW (addW W p w))))
section
variable {P : Program} {w : World} {K : Fr} {mg : Str → Option Value} {base : Heap} {f : Addr}
theorem scAddW : FnScope ["weights", "place", "weight"] ["weights", "place", "weight"] (defScope sAddW) := ⟨rfl, rfl, rfl, by decide +kernel, rfl, by decide +kernel, by decide +kernel⟩
theorem ok_addw (D : Df K "_add_weight" "_add_weight" sAddW f) : Kp P w K mg base 1 f spAddW := by
  refine kp_of D scAddW (fun _ _ _ _ _ _ us hl => match us, hl with | [_, _, _], _ => rfl) ?_ (fun cdv A outer s H vs Q E hr h => ?_)
  · rintro vs H Q E ⟨d, p, w, W, rfl, _⟩
    rfl
  · obtain ⟨d, p, w, W, rfl, hd, hn, hl, q⟩ := h
    refine ⟨_, (pss_one (ps_asg (pe_op op_add (pe_dget2 (hu1 hr.units) (pv 0) (pv 1) pe_int ⟨rfl, rfl, rfl, rfl⟩) (pv 2)) (pg_sub (pv 0) (pv 1) (set_dict (hu1 hr.units))))), ?_⟩
    refine ⟨_, rfl, d, rfl, .inl ⟨_, .inl hd⟩, _, rfl, _, .inl ⟨kvW W, .inl (p : Int), .inl hd, rfl, rfl⟩, ?_⟩
    rw [valV_kv]
    refine ⟨_, rfl, _, _, rfl, rfl, _, rfl, _, rfl, d, _, rfl, DPut.k (k := .inl (p : Int)) hd (by rw [kvW_len]; exact Nat.lt_of_lt_of_le hl (by decide)), ?_⟩
    have e := putK_kv p w hn
    rw [← e] at q
    exact q
def spLeave (K : Fr) : Sp := fun vs H Q _ => ∃ (d a dx : Addr) (p s n f0 l t : Nat) (wt : Int) (W : WL), vs = [.ref d, .ref a, .int p, .int wt] ∧ H a = some (.ins (CS K) dx (spF (.pa f0 l t) s n)) ∧ H d = some (.dK (kvW W)) ∧ (W.map (·.1)).Nodup ∧ W.length < 1999000 ∧ f0 ≤ l ∧ l < most ∧ s < p ∧ p ≤ most ∧
  ∀ H2, But d H H2 → H2 d = some (.dK (kvW (addW (addW (addW W (l + 1) ((((p - s) / (l + 1 - f0) : Nat) : Int) * wt)) (f0 + (p - s) % (l + 1 - f0)) wt) f0 (-((((p - s) / (l + 1 - f0) : Nat) : Int) + 1) * wt)))) → Q .non H2
theorem scLeave : FnScope ["weights", "span", "place", "weight", "copies", "rest"] ["weights", "span", "place", "weight"] (defScope sLeave) := ⟨rfl, rfl, rfl, by decide +kernel, rfl, by decide +kernel, by decide +kernel⟩
theorem ok_leave (D : Df K "_leave_pasted" "_leave_pasted" sLeave f) (T : Tc w K mg) (GAw : Kp P w K mg base 1 (ga K "_add_weight") spAddW) : Kp P w K mg base 2 f (spLeave K) := by
  refine kp_of D scLeave (fun _ _ _ _ _ _ us hl => match us, hl with | [_, _, _, _], _ => rfl) ?_ (fun cdv A outer s H vs Q E hr h => ?_)
  · rintro vs H Q E ⟨d, a, dx, p, s, n, f0, l, t, wt, W, rfl, _⟩
    rfl
  · obtain ⟨d, a, dx, p, s, n, f0, l, t, wt, W, rfl, ha, hd, hn, hl, hfl, hw, hsp, hp, q⟩ := h
    have hmost : most = 1000000000000000000 := rfl
    refine ⟨_, (pss_cons (ps_asg (pe_callB call_divmodW (by rfl) T.dm b_divmod (pa_cons (pe_op op_sub (pv 2) (pe_fld (pv 1) rfl)) (pa_cons (pe_fld (pv 1) rfl) pa_nil))) (pg_tup rfl (pgs_cons (pg_name (i := 4) scLeave.nd rfl (Or.inl rfl)) (pgs_cons (pg_name (i := 5) scLeave.nd rfl (Or.inl rfl)) pgs_nil)))) (pss_cons (ps_expr (pk_call GAw (hr.mono (by decide)) T.gAddW (pa_cons (pv 0) (pa_cons (pe_op op_add (pe_fld (pv 1) rfl) (pe_fld (pv 1) rfl)) (pa_cons (pe_op op_mul (pv 4) (pv 3)) pa_nil))))) (pss_cons (ps_expr (pk_call GAw (hr.mono (by decide)) T.gAddW (pa_cons (pv 0) (pa_cons (pe_op op_add (pe_fld (pv 1) rfl) (pv 5)) (pa_cons (pv 3) pa_nil))))) (pss_one (ps_expr (pk_call GAw (hr.mono (by decide)) T.gAddW (pa_cons (pv 0) (pa_cons (pe_fld (pv 1) rfl) (pa_cons (pe_op op_mul (pe_un un_neg (pe_op op_add (pv 4) pe_int)) (pv 3)) pa_nil))))))))), ?_⟩
    refine ⟨_, rfl, _, rfl, a, _, dx, _, _, rfl, ha, T.clS, T.nS1, spF_begin _ _ _, _, _, rfl, rfl, _, rfl, a, _, dx, _, _, rfl, ha, T.clS, T.nS5, spF_width _ _ _, _, _, rfl, divp (by show (0 : Int) < ((l + 1 - f0 : Nat) : Int); omega) (by show ((l + 1 - f0 : Nat) : Int) < 18446744073709551616; omega), fun tp htp => ?_⟩
    have e1 : ((p : Int) - (s : Int)) / ((l + 1 - f0 : Nat) : Int) = (((p - s) / (l + 1 - f0) : Nat) : Int) := by
      rw [show ((p : Int) - (s : Int)) = ((p - s : Nat) : Int) by omega]
      rfl
    have e2 : ((p : Int) - (s : Int)) % ((l + 1 - f0 : Nat) : Int) = (((p - s) % (l + 1 - f0) : Nat) : Int) := by
      rw [show ((p : Int) - (s : Int)) = ((p - s : Nat) : Int) by omega]
      rfl
    have hc : (p - s) / (l + 1 - f0) ≤ p - s := Nat.div_le_self _ _
    generalize hcc : (p - s) / (l + 1 - f0) = c at *
    generalize hrr : (p - s) % (l + 1 - f0) = r at *
    have ndt : d ≠ tp := ne_of_none hd htp
    have nat_ : a ≠ tp := ne_of_none ha htp
    have nda : a ≠ d := ne_of ha hd (by intro z; cases z)
    refine ⟨tp, _, rfl, .inl (.inl upd_same), rfl, _, _, rfl, _, _, rfl, rfl, ?_⟩
    have ha1 := same_upd (o := .tup [.int (((p : Int) - (s : Int)) / ((l + 1 - f0 : Nat) : Int)), .int (((p : Int) - (s : Int)) % ((l + 1 - f0 : Nat) : Int))]) htp _ _ ha
    have hd1 := same_upd (o := .tup [.int (((p : Int) - (s : Int)) / ((l + 1 - f0 : Nat) : Int)), .int (((p : Int) - (s : Int)) % ((l + 1 - f0 : Nat) : Int))]) htp _ _ hd
    have b1 : But d H (upd H tp (.tup [.int (((p : Int) - (s : Int)) / ((l + 1 - f0 : Nat) : Int)), .int (((p : Int) - (s : Int)) % ((l + 1 - f0 : Nat) : Int))])) := Same.but (same_upd htp)
    have w1 : ((widOf (.pa f0 l t) : Nat) : Int) = ((l + 1 - f0 : Nat) : Int) := rfl
    rw [w1]
    rw [e1, e2] at ha1 hd1 b1 ⊢
    change tSeq _ _ _ _ (upd H tp (.tup [.int (c : Nat), .int (r : Nat)]))
    generalize upd H tp (.tup [.int (c : Nat), .int (r : Nat)]) = H1 at *
    refine ⟨_, rfl, _, rfl, a, _, dx, _, _, rfl, ha1, T.clS, T.nS4, spF_source _ _ _, _, rfl, a, _, dx, _, _, rfl, ha1, T.clS, T.nS5, spF_width _ _ _, _, _, rfl, rfl, _, rfl, _, rfl, _, _, rfl, rfl, .inl ⟨by omega, by omega⟩, d, l + 1, (c : Int) * wt, W, ?_, hd1, hn, by omega, ?_⟩
    · rw [show (((l + 1 : Nat) : Int)) = ((f0 : Int) + ((l + 1 - f0 : Nat) : Int)) by omega]
      rfl
    have n1 := nodup_add (l + 1) ((c : Int) * wt) hn
    have l1 := len_add (l + 1) ((c : Int) * wt) W
    have ha2 : (upd H1 d (.dK (kvW (addW W (l + 1) ((c : Int) * wt))))) a = some (.ins (CS K) dx (spF (.pa f0 l t) s n)) := by rw [upd_ne nda]; exact ha1
    refine ⟨_, rfl, _, rfl, a, _, dx, _, _, rfl, ha2, T.clS, T.nS4, spF_source _ _ _, _, rfl, _, _, rfl, rfl, _, rfl, d, f0 + r, wt, _, rfl, upd_same, n1, by omega, ?_⟩
    have n2 := nodup_add (f0 + r) wt n1
    have l2 := len_add (f0 + r) wt (addW W (l + 1) ((c : Int) * wt))
    have ha3 : (upd (upd H1 d (.dK (kvW (addW W (l + 1) ((c : Int) * wt))))) d (.dK (kvW (addW (addW W (l + 1) ((c : Int) * wt)) (f0 + r) wt)))) a = some (.ins (CS K) dx (spF (.pa f0 l t) s n)) := by rw [upd_ne nda]; exact ha2
    refine ⟨_, rfl, _, rfl, a, _, dx, _, _, rfl, ha3, T.clS, T.nS4, spF_source _ _ _, _, rfl, _, _, rfl, rfl, _, rfl, _, rfl, _, _, rfl, rfl, .inl ⟨by omega, by omega⟩, d, f0, -((c : Int) + 1) * wt, _, rfl, upd_same, n2, by omega, ?_⟩
    refine q _ (b1.trans fun b o nb e => ?_) upd_same
    rw [upd_ne nb, upd_ne nb, upd_ne nb]
    exact e
end
end KL
namespace KL
open PySem PySem.Spec PyProof.Rows L2 Pk He
def spCheckRange (K : Fr) : Sp := fun vs H Q _ => ∃ (x : Addr) (a b : Int) (st : List Stp), vs = [.ref x, .int a, .int b] ∧ TA_ K H x st ∧ 0 ≤ a ∧ a ≤ b + 1 ∧ b < (sz st : Nat) ∧ Q .non H
def spCounts (K : Fr) : Sp := fun vs H Q _ => ∃ (x : Addr) (a b : Int) (st : List Stp), vs = [.ref x, .int a, .int b] ∧ TA_ K H x st ∧ 0 ≤ a ∧ a ≤ b + 1 ∧ b < (sz st : Nat) ∧
  ∀ l H2, H l = none → Same H H2 → H2 l = some (.lst (cV (nk st) fun k => (cnt st k (b + 1).toNat : Int) - (cnt st k a.toNat : Int))) → Q (.ref l) H2
/-- the places that a step makes from a place, but the first -/
def thr (y : Stp) (b : Nat) : List Nat := match y with
  | .wr _ => [b]
  | .pa f l _ => [b, l + 1, f]
def gfr (y : Stp) (b p : Nat) : Nat := match y with
  | .wr _ => b
  | .pa f l _ => f + (p - b) % (l + 1 - f)
section
variable {P : Program} {w : World} {K : Fr} {mg : Str → Option Value} {base : Heap} {f : Addr}
theorem scCheckRange : FnScope ["text", "first", "last"] ["text", "first", "last"] (defScope sCheckRange) := ⟨rfl, rfl, rfl, by decide +kernel, rfl, by decide +kernel, by decide +kernel⟩
theorem ok_checkrange (D : Df K "_check_range" "_check_range" sCheckRange f) (T : Tc w K mg) (GN : Kp P w K mg base 1 (ga K "is_number") spIsNumber) (GZ : Kp P w K mg base 1 (pgA K (CT K) "size") (spSize K)) : Kp P w K mg base 3 f (spCheckRange K) := by
  refine kp_of D scCheckRange (fun _ _ _ _ _ _ us hl => match us, hl with | [_, _, _], _ => rfl) ?_ (fun cdv A outer s H vs Q E hr h => ?_)
  · rintro vs H Q E ⟨x, a, b, st, rfl, _⟩
    rfl
  · obtain ⟨x, a, b, st, rfl, t, h0, h1, h2, q⟩ := h
    obtain ⟨dx, ts, sp, as, ss, hx, _⟩ := t.obj
    have e1 : isNum (.int a) 0 (sz st : Nat) = true := by
      show (decide ((0 : Int) ≤ a) && decide (a ≤ (sz st : Nat))) = true
      rw [decide_eq_true (by omega), decide_eq_true (by omega)]
      rfl
    have e2 : isNum (.int b) (a - 1) ((sz st : Int) - 1) = true := by
      show (decide (a - 1 ≤ b) && decide (b ≤ (sz st : Int) - 1)) = true
      rw [decide_eq_true (by omega), decide_eq_true (by omega)]
      rfl
    refine ⟨_, (pss_one (ps_if (pw_or (pt_not (pt_val (pk_call GN (hr.mono (by decide)) T.gIsNumber (pa_cons (pv 1) (pa_cons pe_int (pa_cons (pk_prop (pv 0) T.clT T.pSize GZ (hr.mono (by decide))) pa_nil)))))) (pw_or1 (pt_not (pt_val (pk_call GN (hr.mono (by decide)) T.gIsNumber (pa_cons (pv 2) (pa_cons (pe_op op_sub (pv 1) pe_int) (pa_cons (pe_op op_sub (pk_prop (pv 0) T.clT T.pSize GZ (hr.mono (by decide))) pe_int) pa_nil)))))))).pt pss_never pss_nil)), ?_⟩
    refine ⟨_, rfl, _, rfl, x, dx, _, rfl, hx, x, st, rfl, t, .int a, 0, _, rfl, rfl, ?_⟩
    rw [e1]
    refine ⟨true, rfl, ?_⟩
    refine iteF ?_
    refine ⟨_, rfl, _, rfl, _, _, rfl, rfl, _, rfl, x, dx, _, rfl, hx, x, st, rfl, t, _, _, rfl, rfl, .int b, _, _, rfl, rfl, ?_⟩
    rw [e2]
    refine ⟨true, rfl, ?_⟩
    exact iteF q
theorem scCounts : FnScope ["text", "first", "last", "counts", "weights", "span", "within", "place", "weight", "key", "bound"] ["text", "first", "last"] (defScope sCounts) := ⟨rfl, rfl, rfl, by decide +kernel, rfl, by decide +kernel, by decide +kernel⟩
theorem ok_counts (D : Df K "key_counts" "key_counts" sCounts f) (T : Tc w K mg) (GCr : Kp P w K mg base 3 (ga K "_check_range") (spCheckRange K)) (GTy : Kp P w K mg base 1 (pgA K (CT K) "typed_keys") (spTyped K)) (GAw : Kp P w K mg base 1 (ga K "_add_weight") spAddW) (GLv : Kp P w K mg base 2 (ga K "_leave_pasted") (spLeave K)) : Kp P w K mg base 4 f (spCounts K) := by
  refine kp_of D scCounts (fun _ _ _ _ _ _ us hl => match us, hl with | [_, _, _], _ => rfl) ?_ (fun cdv A outer s H vs Q E hr h => ?_)
  · rintro vs H Q E ⟨x, a, e, st, rfl, _⟩
    rfl
  · obtain ⟨x, a0, b0, st, rfl, t, h0, h1, h2, q⟩ := h
    obtain ⟨a, rfl⟩ := Int.eq_ofNat_of_zero_le h0
    obtain ⟨e, rfl⟩ : ∃ e : Nat, b0 = (e : Int) - 1 := ⟨(b0 + 1).toNat, by omega⟩
    have hae : a ≤ e := by omega
    have hes : e ≤ sz st := by omega
    rw [show ((e : Int) - 1 + 1).toNat = e by omega, show (a : Int).toNat = a by omega] at q
    clear h0 h1 h2
    have hszm := sz_most t.good
    refine ⟨_, (pss_cons (ps_expr (pk_call GCr (hr.mono (by decide)) T.gCheckRange (pa_cons (pv 0) (pa_cons (pv 1) (pa_cons (pv 2) pa_nil))))) (pss_cons (ps_set (i := 3) scCounts.nd rfl (Or.inl rfl) (pe_op op_rep (pe_lst (pa_cons pe_int pa_nil)) (pk_b1 call_len_str T.len b_len (pk_prop (pv 0) T.clT T.pTyped GTy (hr.mono (by decide)))))) (pss_cons (ps_set (i := 4) scCounts.nd rfl (Or.inl rfl) pe_dnewK) (pss_cons (ps_expr (pk_call GAw (hr.mono (by decide)) T.gAddW (pa_cons (pv 4) (pa_cons (pe_op op_add (pv 2) pe_int) (pa_cons pe_int pa_nil))))) (pss_cons (ps_expr (pk_call GAw (hr.mono (by decide)) T.gAddW (pa_cons (pv 4) (pa_cons (pv 1) (pa_cons (pe_un un_neg pe_int) pa_nil))))) (pss_cons (ps_for PassesOwn.never rfl (pi_tup (pe_revT (pe_fld (pv 0) rfl))) (pg_name (i := 5) scCounts.nd rfl (Or.inr rfl)) (pss_cons (ps_lock (ps_setLc (i := 6) (own := [("bound", 10)]) (g := gName 10) rfl scCounts.nd rfl rfl (sw_true rfl rfl rfl (by decide +kernel)) (pi_keys (pv 4)) (blkOk_by (N := ["text", "first", "last", "counts", "weights", "span", "within", "place", "weight", "key", "bound"]) (sc := defScope sCounts) (by decide +kernel)) (fun _ _ _ _ _ => (pg_name (i := 10) scCounts.nd rfl (Or.inl rfl))) (fun _ _ _ _ _ => (pts_one (pt_cmpR op_gt (pv 10) (fldK K (pv 5)) (nomark _)))) (fun _ _ _ _ _ => (pv 10)))) (pss_one (ps_for PassesOwn.never rfl (pi_list (pv 6)) (pg_name (i := 7) scCounts.nd rfl (Or.inl rfl)) (pss_cons (ps_set (i := 8) scCounts.nd rfl (Or.inl rfl) (pe_dpop1 (pv 4) (pv 7) ⟨rfl, rfl, rfl, rfl⟩)) (pss_cons (ps_expr (pk_call GAw (hr.mono (by decide)) T.gAddW (pa_cons (pv 4) (pa_cons (pe_fld (pv 5) rfl) (pa_cons (pv 8) pa_nil))))) (pss_one (ps_if (pt_cmp (pc_isN (pe_fld (pv 5) rfl))) (pss_one (ps_expr (pk_call GLv (hr.mono (by decide)) T.gLeave (pa_cons (pv 4) (pa_cons (pv 5) (pa_cons (pv 7) (pa_cons (pv 8) pa_nil))))))) (pss_one (ps_for PassesOwn.never rfl (pi_range2 (by rfl) T.rng (pa_cons (pe_fld (pv 5) rfl) (pa_cons (pe_op op_sub (pe_op op_add (pe_fld (pv 5) rfl) (pv 7)) (pe_fld (pv 5) rfl)) pa_nil))) (pg_name (i := 9) scCounts.nd rfl (Or.inl rfl)) (pss_one (ps_augS (pv 3) (pv 9) get_listP (pv 8) ip_add set_list)))))))))))) (pss_one (ps_ret (pv 3))))))))), ?_⟩
    refine ⟨_, rfl, _, rfl, _, rfl, x, _, _, st, rfl, t, by omega, by omega, by omega, ?_⟩
    obtain ⟨dx, ts, sp, as, ss, hx, _⟩ := t.obj
    refine ⟨by decide, fun L0 hL0 => ?_⟩
    have hmost : most = 1000000000000000000 := rfl
    have hnk : nk st ≤ 600 := by have := nk_le t.good; have := t.few; omega
    have s0 : Same H (upd H L0 (.lst [V.int 0])) := same_upd hL0
    refine ⟨_, rfl, x, dx, _, rfl, s0 _ _ hx, x, st, rfl, t.same s0, _, rfl, by rw [sL_len, typed_len]; exact Nat.le_trans hnk (by decide), L0, _, [V.int 0], rfl, rfl, upd_same, ?_, ?_, ?_, fun L hL => ?_⟩
    · omega
    · rw [sL_len, typed_len]; omega
    · rw [sL_len, typed_len]
      exact Nat.le_trans (show 1 * (nk st : Int).toNat ≤ 600 by omega) (by decide)
    rw [sL_len, typed_len]
    have eL : (List.replicate (nk st : Int).toNat [V.int 0]).flatten = cV (nk st) fun _ => 0 := by
      rw [Int.toNat_natCast]
      unfold cV
      simp [List.map_const']
    rw [eL]
    have s1 := s0.trans (same_upd (o := .lst (cV (nk st) fun _ => 0)) hL)
    have hL1 : H L = none := s0.free hL
    generalize hH1 : upd (upd H L0 (.lst [V.int 0])) L (.lst (cV (nk st) fun _ => 0)) = H1 at s1
    have hLL : H1 L = some (.lst (cV (nk st) fun _ => 0)) := by rw [← hH1]; exact upd_same
    refine fun d hd => ?_
    have hd0 : H d = none := s1.free hd
    have hdL : L ≠ d := ne_of_none hLL hd
    have keep : ∀ {Hc : Hp} {o : HO}, Same H Hc → Same H (upd Hc d o) := fun {Hc o} hs b u e => by
      rw [upd_ne (ne_of_none e hd0)]
      exact hs _ _ e
    have keepL : ∀ {Hc : Hp} {o : HO}, Same H Hc → Same H (upd Hc L o) := fun {Hc o} hs b u e => by
      rw [upd_ne (ne_of_none e hL1)]
      exact hs _ _ e
    refine ⟨_, rfl, _, rfl, _, _, rfl, rfl, d, e, 1, [], by show [V.ref d, V.int ((e : Int) - 1 + 1), V.int 1] = _; rw [Int.sub_add_cancel], upd_same, List.nodup_nil, by decide, ?_⟩
    refine ⟨_, rfl, _, rfl, _, rfl, d, a, -1, addW [] e 1, rfl, upd_same, nodup_add e 1 List.nodup_nil, Nat.lt_of_le_of_lt (len_add e 1 []) (by decide), ?_⟩
    have n1 : ((addW (addW [] e 1) a (-1)).map (·.1)).Nodup := nodup_add a (-1) (nodup_add e 1 List.nodup_nil)
    have l1 : (addW (addW [] e 1) a (-1)).length ≤ 2 + 3 * 0 := by have z1 := len_add a (-1) (addW [] e 1); have z2 := len_add e 1 []; simp at z2; omega
    have k1 : ∀ q ∈ (addW (addW [] e 1) a (-1)).map (·.1), q ≤ sz st := fun q hq => by
      rcases (keys_add a (-1)).mp hq with z | z
      · rcases (keys_add e 1).mp z with z | z
        · simp at z
        · omega
      · omega
    have v1 : ∀ k, k < nk st → (fun _ : Nat => (0 : Int)) k + val st k (addW (addW [] e 1) a (-1)) = (cnt st k e : Int) - (cnt st k a : Int) := fun k _ => by
      show 0 + _ = _
      rw [val_add, val_add]
      show 0 + (0 + 1 * (cnt st k e : Int) + -1 * (cnt st k a : Int)) = _
      omega
    have s2 : Same H (upd (upd (upd H1 d (.dK [])) d (.dK (kvW (addW [] e 1)))) d (.dK (kvW (addW (addW [] e 1) a (-1))))) := keep (keep (keep s1))
    have hd2 : (upd (upd (upd H1 d (.dK [])) d (.dK (kvW (addW [] e 1)))) d (.dK (kvW (addW (addW [] e 1) a (-1))))) d = some (.dK (kvW (addW (addW [] e 1) a (-1)))) := upd_same
    have hL2 : (upd (upd (upd H1 d (.dK [])) d (.dK (kvW (addW [] e 1)))) d (.dK (kvW (addW (addW [] e 1) a (-1))))) L = some (.lst (cV (nk st) fun _ => 0)) := by
      rw [upd_ne hdL, upd_ne hdL, upd_ne hdL]
      exact hLL
    change tSeq _ _ _ _ (upd (upd (upd H1 d (.dK [])) d (.dK (kvW (addW [] e 1)))) d (.dK (kvW (addW (addW [] e 1) a (-1)))))
    generalize (upd (upd (upd H1 d (.dK [])) d (.dK (kvW (addW [] e 1)))) d (.dK (kvW (addW (addW [] e 1) a (-1))))) = H2 at s2 hd2 hL2 ⊢
    generalize addW (addW [] e 1) a (-1) = W2 at n1 l1 k1 v1 hd2
    obtain ⟨_, _, hsp, hss⟩ := ‹SqT K H ts (List.map V.ref as) ∧ _›
    refine ⟨_, rfl, x, _, dx, _, _, rfl, s2 _ _ hx, T.clT, T.nT2, rfl, sp, _, rfl, same_sqT s2 hsp, fun p hp => ?_⟩
    have hp0 : H p = none := s2.free hp
    have hdp : p ≠ d := (ne_of_none hd2 hp).symm
    have hLp : p ≠ L := (ne_of_none hL2 hp).symm
    refine ⟨p, rfl, ⟨_, SqT.of upd_same⟩, ?_⟩
    refine for_tup (xs := (ss.map V.ref).reverse) (fun j σ Hc => ∃ (v5 v6 v7 v8 v9 : Option V) (g : Nat → Int) (W : WL), σ = [some (.ref x), some (.int a), some (.int ((e : Int) - 1)), some (.ref L), some (.ref d), v5, v6, v7, v8, v9, none] ∧ Same H Hc ∧ Hc p = some (.tup (ss.map V.ref).reverse) ∧ Hc L = some (.lst (cV (nk st) g)) ∧ Hc d = some (.dK (kvW W)) ∧ (W.map (·.1)).Nodup ∧ W.length ≤ 2 + 3 * j ∧ (∀ q ∈ W.map (·.1), q ≤ sz (st.take (st.length - j))) ∧ ∀ k, k < nk st → g k + val st k W = (cnt st k e : Int) - (cnt st k a : Int)) ⟨none, none, none, none, none, _, W2, rfl, s2.trans (same_upd hp), upd_same, same_upd hp _ _ hL2, same_upd hp _ _ hd2, n1, l1, by rw [Nat.sub_zero, List.take_length]; exact k1, v1⟩ ?_ ?_ ?_
    · rintro j σ Hc _ ⟨_, _, _, _, _, _, _, _, _, h, _⟩
      exact SqT.of h
    · rintro j v σ Hc hv ⟨v5, v6, v7, v8, v9, g, W, rfl, sc, hpc, hLc, hdc, hn, hlen, hk, hval⟩
      obtain ⟨hj, hv2⟩ := rev_at hv
      rw [List.length_map, hss.len] at hj hv2
      have hti : st.length - j = st.length - 1 - j + 1 := by omega
      rw [hti] at hk
      have hgo : ∀ q2, q2 = st.length - (j + 1) → q2 = st.length - 1 - j := fun q2 h => by omega
      generalize hi : st.length - 1 - j = i at *
      have hil : i < st.length := by omega
      obtain ⟨y, hy⟩ : ∃ y, st[i]? = some y := ⟨st[i], List.getElem?_eq_getElem hil⟩
      obtain ⟨c, dc, hc, hcx⟩ := hss.at_ i y hy
      have ev : v = .ref c := map_at hc hv2
      subst ev
      have hcc := sc _ _ hcx
      have hnj : st.length - (j + 1) = i := hgo _ rfl
      have hz1 : sz (st.take (i + 1)) = sz (st.take i) + y.gr := by rw [take_succ hy, sz_app]; simp [sz]
      have hzi : sz (st.take (i + 1)) ≤ sz st := by have z := sz_app (st.take (i + 1)) (st.drop (i + 1)); rw [List.take_append_drop] at z; omega
      have hfw := t.few
      have few : W.length ≤ 92 := by omega
      refine ⟨d, _, hdc, trivial, fun od => ?_⟩
      have hcd : c ≠ d := ne_of hcc hdc (by intro z; cases z)
      refine ⟨_, rfl, d, od, rfl, .inl ⟨kvW W, upd_same, fun D hD => ?_⟩⟩
      have hDd : d ≠ D := ne_of_none upd_same hD
      have hDc : Hc D = none := by
        rw [upd_ne hDd.symm] at hD
        exact hD
      refine lc_keep walk_keys hD (fun i2 => decide (sz (st.take i) < (W.map (·.1)).getD i2 0)) (fun i2 => V.int ((W.map (·.1)).getD i2 0 : Nat)) (by rw [kvW_len]; exact small_ok (by omega)) (fun H5 s5 => s5 _ _ upd_same) ?_ ?_
      · rintro i2 xk H5 H6 N N0 hi2 s5 ⟨e6, k, vv, hkv, rfl⟩ yes no
        obtain ⟨q0, hq0, e0⟩ : ∃ q0, W[i2]? = some q0 ∧ k = .inl (q0.1 : Int) := by
          unfold kvW at hkv
          rw [List.getElem?_map] at hkv
          cases hw : W[i2]? with
          | none =>
            rw [hw] at hkv
            cases hkv
          | some q0 =>
            rw [hw] at hkv
            cases hkv
            exact ⟨q0, rfl, rfl⟩
        have eg : (W.map (·.1)).getD i2 0 = q0.1 := by rw [List.getD_eq_getElem?_getD, List.getElem?_map, hq0]; rfl
        rw [eg] at yes no
        subst e0 e6
        have hc6 := s5 _ _ (show (upd Hc d (.frz od (.dK (kvW W)))) c = _ by rw [upd_ne hcd]; exact hcc)
        refine ⟨rfl, _, rfl, _, rfl, c, _, dc, _, _, rfl, hc6, T.clS, T.nS1, spF_begin _ _ _, _, _, rfl, rfl, ?_⟩
        refine ⟨decide (sz (st.take i) < q0.1), ?_, ?_⟩
        · show V.bl (decide ((sz (st.take i) : Int) < (q0.1 : Int))) = _
          congr 1
          exact decide_eq_decide.mpr Int.ofNat_lt
        · by_cases h : sz (st.take i) < q0.1
          · rw [decide_eq_true h] at yes ⊢
            exact iteT ⟨_, rfl, yes rfl _ (Same.refl _)⟩
          · rw [decide_eq_false h] at no ⊢
            exact iteF (no rfl _ (Same.refl _))
      · intro H5 s5 hD5
        refine ⟨s5 _ _ upd_same, ?_⟩
        rw [kvW_len, show W.length = (W.map (·.1)).length from (List.length_map ..).symm, keeps_filter (W.map (·.1)) (fun q => decide (sz (st.take i) < q)) (fun q => V.int (q : Nat))] at hD5
        have htwo := filter_two (W.map (·.1)) fun q => decide (sz (st.take i) < q)
        rw [List.length_map] at htwo
        generalize hB : (W.map (·.1)).filter (fun q => decide (sz (st.take i) < q)) = B at hD5 htwo
        generalize hC : (W.map (·.1)).filter (fun q => !decide (sz (st.take i) < q)) = C at htwo
        have sc7 : Same H (upd H5 d (.dK (kvW W))) := fun b u e => by
          have nb := ne_of_none e hd0
          rw [upd_ne nb]
          exact s5 _ _ (by rw [upd_ne nb]; exact sc _ _ e)
        have hp7 : (upd H5 d (.dK (kvW W))) p = some (.tup (ss.map V.ref).reverse) := by
          rw [upd_ne hdp]
          exact s5 _ _ (by rw [upd_ne hdp]; exact hpc)
        have hL7 : (upd H5 d (.dK (kvW W))) L = some (.lst (cV (nk st) g)) := by
          rw [upd_ne hdL]
          exact s5 _ _ (by rw [upd_ne hdL]; exact hLc)
        have hd7 : (upd H5 d (.dK (kvW W))) d = some (.dK (kvW W)) := upd_same
        have hD7 : (upd H5 d (.dK (kvW W))) D = some (.lst (B.map fun q => V.int (q : Nat))) := by
          rw [upd_ne hDd.symm]
          exact hD5
        generalize upd H5 d (.dK (kvW W)) = H7 at sc7 hp7 hL7 hd7 hD7 ⊢
        have hLD : L ≠ D := ne_of_none hLc hDc
        have hpD : p ≠ D := ne_of_none hpc hDc
        have hBn : B.Nodup := by rw [← hB]; exact List.Sublist.nodup List.filter_sublist hn
        have hBk : ∀ q ∈ B, q ∈ W.map (·.1) ∧ sz (st.take i) < q := fun q hq => by
          rw [← hB, List.mem_filter] at hq
          exact ⟨hq.1, of_decide_eq_true hq.2⟩
        have hB0 : ∀ q ∈ W.map (·.1), q ≤ sz (st.take i) ∨ q ∈ B.drop 0 := fun q hq => by
          by_cases h : sz (st.take i) < q
          · right
            rw [List.drop_zero, ← hB, List.mem_filter]
            exact ⟨hq, decide_eq_true h⟩
          · left
            omega
        have hS0 : ∀ q ∈ W.map (·.1), q ∈ B.drop 0 ++ (C ++ (thr y (sz (st.take i)) ++ (B.take 0).map (gfr y (sz (st.take i))))) := fun q hq => by
          rw [List.mem_append, List.mem_append]
          by_cases h : sz (st.take i) < q
          · left
            rw [List.drop_zero, ← hB, List.mem_filter]
            exact ⟨hq, decide_eq_true h⟩
          · right
            left
            rw [← hC, List.mem_filter]
            exact ⟨hq, by rw [decide_eq_false h]; rfl⟩
        have hthr : (thr y (sz (st.take i))).length ≤ 3 := by cases y <;> simp [thr]
        have hfewS : ∀ (m : Nat) (W8 : WL), m ≤ B.length → (W8.map (·.1)).Nodup → (∀ q ∈ W8.map (·.1), q ∈ B.drop m ++ (C ++ (thr y (sz (st.take i)) ++ (B.take m).map (gfr y (sz (st.take i)))))) → W8.length ≤ W.length + 3 := fun m W8 hm n8 h8 => by
          have z := nodup_sub n8 h8
          simp only [List.length_append, List.length_map, List.length_drop, List.length_take] at z
          omega
        refine ⟨_, rfl, D, rfl, ⟨_, SqL.of hD7⟩, ?_⟩
        refine for_list (xs := B.map fun q => V.int (q : Nat)) (fun m σ Hc => ∃ (v7 v8 v9 : Option V) (g : Nat → Int) (W : WL), σ = [some (.ref x), some (.int a), some (.int ((e : Int) - 1)), some (.ref L), some (.ref d), some (.ref c), some (.ref D), v7, v8, v9, none] ∧ Same H Hc ∧ Hc p = some (.tup (ss.map V.ref).reverse) ∧ Hc L = some (.lst (cV (nk st) g)) ∧ Hc d = some (.dK (kvW W)) ∧ Hc D = some (.lst (B.map fun q => V.int (q : Nat))) ∧ (W.map (·.1)).Nodup ∧ (∀ q ∈ W.map (·.1), q ≤ sz (st.take i) ∨ q ∈ B.drop m) ∧ (∀ q ∈ B.drop m, q ∈ W.map (·.1)) ∧ (∀ q ∈ W.map (·.1), q ∈ B.drop m ++ (C ++ (thr y (sz (st.take i)) ++ (B.take m).map (gfr y (sz (st.take i)))))) ∧ ∀ k, k < nk st → g k + val st k W = (cnt st k e : Int) - (cnt st k a : Int)) ⟨v7, v8, v9, g, W, rfl, sc7, hp7, hL7, hd7, hD7, hn, hB0, fun q hq => (hBk q hq).1, hS0, hval⟩ ?_ ?_ ?_
        · rintro m σ H8 _ ⟨_, _, _, _, _, _, _, _, _, _, h, _⟩
          exact SqL.of h
        · rintro m v σ H8 hvm ⟨v7, v8, v9, g8, W8, rfl, s8, hp8, hL8, hd8, hD8, n8, hk8, hm8, hS8, hval8⟩
          obtain ⟨q, hq, ev⟩ : ∃ q, B[m]? = some q ∧ v = .int (q : Nat) := by
            rw [List.getElem?_map] at hvm
            cases hb : B[m]? with
            | none =>
              rw [hb] at hvm
              cases hvm
            | some q =>
              rw [hb] at hvm
              cases hvm
              exact ⟨q, rfl, rfl⟩
          subst ev
          obtain ⟨hmB, eqm⟩ := List.getElem?_eq_some_iff.mp hq
          have hdr : B.drop m = q :: B.drop (m + 1) := by rw [List.drop_eq_getElem_cons hmB, eqm]
          have hnd : (B.drop m).Nodup := List.Sublist.nodup (List.drop_sublist m B) hBn
          rw [hdr, List.nodup_cons] at hnd
          have hqW : q ∈ W8.map (·.1) := hm8 q (by rw [hdr]; exact List.mem_cons_self)
          obtain ⟨hqk, hbq⟩ := hBk q (List.mem_of_getElem? hq)
          have hqs := hk q hqk
          obtain ⟨mm, rfl⟩ : ∃ mm, q = sz (st.take i) + mm := ⟨q - sz (st.take i), by omega⟩
          have hmm : mm ≤ y.gr := by omega
          have few8 := hfewS m W8 (by omega) n8 hS8
          have few9 : (dropW W8 (sz (st.take i) + mm)).length ≤ W8.length := List.length_filter_le _ _
          have n9 := nodup_drop (sz (st.take i) + mm) n8
          have n10 := nodup_add (sz (st.take i)) (getW W8 (sz (st.take i) + mm)) n9
          have few10 := len_add (sz (st.take i)) (getW W8 (sz (st.take i) + mm)) (dropW W8 (sz (st.take i) + mm))
          have hDd2 : D ≠ d := hDd.symm
          refine ⟨_, rfl, d, rfl, .inl ⟨_, .inl hd8⟩, _, rfl, kvW W8, .inl ((sz (st.take i) + mm : Nat) : Int), _, hd8, rfl, valV_in hqW, ?_⟩
          rw [dropK_kv]
          have hc8 := s8 _ _ hcx
          refine ⟨_, rfl, _, rfl, c, _, dc, _, _, rfl, (show (upd H8 d (.dK (kvW (dropW W8 (sz (st.take i) + mm))))) c = some (.ins (CS K) dc (spF y (sz (st.take i)) (nk (st.take i)))) by rw [upd_ne hcd]; exact hc8), T.clS, T.nS1, spF_begin _ _ _, _, rfl, d, sz (st.take i), _, _, rfl, upd_same, n9, by omega, ?_⟩
          have s10 : Same H (upd (upd H8 d (.dK (kvW (dropW W8 (sz (st.take i) + mm))))) d (.dK (kvW (addW (dropW W8 (sz (st.take i) + mm)) (sz (st.take i)) (getW W8 (sz (st.take i) + mm)))))) := keep (keep s8)
          have hp10 : (upd (upd H8 d (.dK (kvW (dropW W8 (sz (st.take i) + mm))))) d (.dK (kvW (addW (dropW W8 (sz (st.take i) + mm)) (sz (st.take i)) (getW W8 (sz (st.take i) + mm)))))) p = some (.tup (ss.map V.ref).reverse) := by rw [upd_ne hdp, upd_ne hdp]; exact hp8
          have hL10 : (upd (upd H8 d (.dK (kvW (dropW W8 (sz (st.take i) + mm))))) d (.dK (kvW (addW (dropW W8 (sz (st.take i) + mm)) (sz (st.take i)) (getW W8 (sz (st.take i) + mm)))))) L = some (.lst (cV (nk st) g8)) := by rw [upd_ne hdL, upd_ne hdL]; exact hL8
          have hD10 : (upd (upd H8 d (.dK (kvW (dropW W8 (sz (st.take i) + mm))))) d (.dK (kvW (addW (dropW W8 (sz (st.take i) + mm)) (sz (st.take i)) (getW W8 (sz (st.take i) + mm)))))) D = some (.lst (B.map fun q => V.int (q : Nat))) := by rw [upd_ne hDd2, upd_ne hDd2]; exact hD8
          have hd10 : (upd (upd H8 d (.dK (kvW (dropW W8 (sz (st.take i) + mm))))) d (.dK (kvW (addW (dropW W8 (sz (st.take i) + mm)) (sz (st.take i)) (getW W8 (sz (st.take i) + mm)))))) d = some (.dK (kvW (addW (dropW W8 (sz (st.take i) + mm)) (sz (st.take i)) (getW W8 (sz (st.take i) + mm))))) := upd_same
          generalize (upd (upd H8 d (.dK (kvW (dropW W8 (sz (st.take i) + mm))))) d (.dK (kvW (addW (dropW W8 (sz (st.take i) + mm)) (sz (st.take i)) (getW W8 (sz (st.take i) + mm)))))) = H10 at s10 hp10 hL10 hD10 hd10 ⊢
          have hc10 := s10 _ _ hcx
          have mem10 : ∀ q2 ∈ B.drop (m + 1), q2 ∈ (addW (dropW W8 (sz (st.take i) + mm)) (sz (st.take i)) (getW W8 (sz (st.take i) + mm))).map (·.1) := fun q2 h2 => by
            refine (keys_add _ _).mpr (.inl (keys_drop.mpr ⟨hm8 q2 (by rw [hdr]; exact List.mem_cons_of_mem _ h2), fun z => hnd.1 (by rw [← z]; exact h2)⟩))
          have key10 : ∀ q2 ∈ (addW (dropW W8 (sz (st.take i) + mm)) (sz (st.take i)) (getW W8 (sz (st.take i) + mm))).map (·.1), q2 ≤ sz (st.take i) ∨ q2 ∈ B.drop (m + 1) := fun q2 h2 => by
            rcases (keys_add _ _).mp h2 with z | z
            · obtain ⟨z1, z2⟩ := keys_drop.mp z
              rcases hk8 q2 z1 with u | u
              · exact .inl u
              · rw [hdr, List.mem_cons] at u
                exact .inr (u.resolve_left z2)
            · exact .inl (Nat.le_of_eq z)
          have mid : ∀ q2, q2 ∈ W8.map (·.1) → q2 ≠ sz (st.take i) + mm → q2 ∈ B.drop (m + 1) ++ (C ++ (thr y (sz (st.take i)) ++ (B.take (m + 1)).map (gfr y (sz (st.take i))))) := fun q2 h2 hne => by
            have z := hS8 q2 h2
            rw [hdr] at z
            simp only [List.mem_append, List.mem_cons] at z ⊢
            rcases z with (z | z) | z | z | z
            · exact absurd z hne
            · exact .inl z
            · exact .inr (.inl z)
            · exact .inr (.inr (.inl z))
            · refine .inr (.inr (.inr ?_))
              rw [take_succ hq, List.map_append, List.mem_append]
              exact .inl z
          have inT : ∀ q2 ∈ thr y (sz (st.take i)), q2 ∈ B.drop (m + 1) ++ (C ++ (thr y (sz (st.take i)) ++ (B.take (m + 1)).map (gfr y (sz (st.take i))))) := fun q2 h2 => by
            simp only [List.mem_append]
            exact .inr (.inr (.inl h2))
          have inG : gfr y (sz (st.take i)) (sz (st.take i) + mm) ∈ B.drop (m + 1) ++ (C ++ (thr y (sz (st.take i)) ++ (B.take (m + 1)).map (gfr y (sz (st.take i))))) := by
            simp only [List.mem_append]
            refine .inr (.inr (.inr ?_))
            rw [take_succ hq, List.map_append, List.mem_append]
            exact .inr List.mem_cons_self
          have bT : sz (st.take i) ∈ thr y (sz (st.take i)) := by cases y <;> simp [thr]
          have set10 : ∀ q2 ∈ (addW (dropW W8 (sz (st.take i) + mm)) (sz (st.take i)) (getW W8 (sz (st.take i) + mm))).map (·.1), q2 ∈ B.drop (m + 1) ++ (C ++ (thr y (sz (st.take i)) ++ (B.take (m + 1)).map (gfr y (sz (st.take i))))) := fun q2 h2 => by
            rcases (keys_add _ _).mp h2 with z | z
            · obtain ⟨z1, z2⟩ := keys_drop.mp z
              exact mid q2 z1 z2
            · rw [z]
              exact inT _ bT
          refine ⟨_, rfl, c, _, dc, _, _, rfl, hc10, T.clS, T.nS3, spF_key _ _ _, _, rfl, ?_⟩
          obtain ⟨ok, lim⟩ := goes_at t.good hy
          cases y with
          | wr wd =>
            have hmw : mm ≤ wd.length := hmm
            have hnks : nk (st.take i) + wd.length ≤ nk st := by
              have z := nk_app (st.take (i + 1)) (st.drop (i + 1))
              rw [List.take_append_drop, take_succ hy, nk_app] at z
              have : nk [Stp.wr wd] = wd.length := by simp [nk, Stp.ks]
              omega
            have e0 : decide (keyV (.wr wd) (nk (st.take i)) = V.non) = false := decide_eq_false (by intro z; cases z)
            rw [e0]
            refine iteF ?_
            refine ⟨_, rfl, c, _, dc, _, _, rfl, hc10, T.clS, T.nS3, spF_key _ _ _, _, rfl, c, _, dc, _, _, rfl, hc10, T.clS, T.nS3, spF_key _ _ _, _, rfl, _, _, rfl, rfl, _, rfl, c, _, dc, _, _, rfl, hc10, T.clS, T.nS1, spF_begin _ _ _, _, _, rfl, rfl, (nk (st.take i) : Nat), _, rfl, ⟨by omega, by omega, by omega, by omega⟩, ?_⟩
            have en : ((((nk (st.take i) : Nat) : Int) + ((sz (st.take i) + mm : Nat) : Int) - ((sz (st.take i) : Nat) : Int)) - ((nk (st.take i) : Nat) : Int)).toNat = mm := by omega
            rw [en]
            refine for_range (fun m2 σ Hc => ∃ v9 : Option V, σ = [some (.ref x), some (.int a), some (.int ((e : Int) - 1)), some (.ref L), some (.ref d), some (.ref c), some (.ref D), some (.int ((sz (st.take i) + mm : Nat) : Int)), some (.int (getW W8 (sz (st.take i) + mm))), v9, none] ∧ Same H Hc ∧ Hc p = some (.tup (ss.map V.ref).reverse) ∧ Hc L = some (.lst (cV (nk st) fun k => g8 k + if nk (st.take i) ≤ k ∧ k < nk (st.take i) + m2 then getW W8 (sz (st.take i) + mm) else 0)) ∧ Hc d = some (.dK (kvW (addW (dropW W8 (sz (st.take i) + mm)) (sz (st.take i)) (getW W8 (sz (st.take i) + mm))))) ∧ Hc D = some (.lst (B.map fun q => V.int (q : Nat)))) ⟨v9, rfl, s10, hp10, ?_, hd10, hD10⟩ ?_ ?_
            · rw [hL10]
              refine congrArg (fun l => some (HO.lst l)) (cV_congr fun k _ => ?_)
              rw [if_neg (by omega), Int.add_zero]
            · rintro m2 σ H11 hm2 ⟨v9, rfl, s11, hp11, hL11, hd11, hD11⟩
              have hlt : nk (st.take i) + m2 < nk st := by omega
              refine ⟨_, rfl, _, rfl, L, _, nk (st.take i) + m2, _, rfl, rfl, SqL.of hL11, cV_get _ hlt, _, rfl, _, _, rfl, rfl, L, _, ((nk (st.take i) + m2 : Nat) : Int), nk (st.take i) + m2, rfl, rfl, hL11, ?_, ?_⟩
              · unfold ixN
                rw [cV_len, if_pos (by omega), if_pos (by omega)]
                rfl
              · refine ⟨_, rfl, keepL s11, by rw [upd_ne hLp]; exact hp11, ?_, by rw [upd_ne hdL.symm]; exact hd11, by rw [upd_ne hLD.symm]; exact hD11⟩
                rw [upd_same, cV_set]
                refine congrArg (fun l => some (HO.lst l)) (cV_congr fun k _ => ?_)
                show (if k = nk (st.take i) + m2 then (g8 (nk (st.take i) + m2) + if nk (st.take i) ≤ nk (st.take i) + m2 ∧ nk (st.take i) + m2 < nk (st.take i) + m2 then getW W8 (sz (st.take i) + mm) else 0) + getW W8 (sz (st.take i) + mm) else g8 k + if nk (st.take i) ≤ k ∧ k < nk (st.take i) + m2 then getW W8 (sz (st.take i) + mm) else 0) = g8 k + if nk (st.take i) ≤ k ∧ k < nk (st.take i) + (m2 + 1) then getW W8 (sz (st.take i) + mm) else 0
                by_cases ek : k = nk (st.take i) + m2
                · subst ek
                  rw [if_pos rfl, if_neg (show ¬(nk (st.take i) ≤ nk (st.take i) + m2 ∧ nk (st.take i) + m2 < nk (st.take i) + m2) by omega), if_pos (show nk (st.take i) ≤ nk (st.take i) + m2 ∧ nk (st.take i) + m2 < nk (st.take i) + (m2 + 1) by omega), Int.add_zero]
                · rw [if_neg ek]
                  by_cases h : nk (st.take i) ≤ k ∧ k < nk (st.take i) + m2
                  · rw [if_pos h, if_pos (by omega)]
                  · rw [if_neg h, if_neg (by omega)]
            · rintro σ H11 ⟨v9, rfl, s11, hp11, hL11, hd11, hD11⟩
              refine ⟨_, _, v9, _, _, rfl, s11, hp11, hL11, hd11, hD11, n10, key10, mem10, set10, fun k hk3 => ?_⟩
              have z1 := val_wr t.good hy n8 rfl hmw k
              have z2 := hval8 k hk3
              omega
          | pa f0 l t0 =>
            have hmp : mm ≤ (l + 1 - f0) * t0 := hmm
            have e0 : decide (keyV (.pa f0 l t0) (nk (st.take i)) = V.non) = true := decide_eq_true rfl
            rw [e0]
            refine iteT ?_
            simp only [Stp.ok, Bool.and_eq_true, decide_eq_true_eq] at ok
            have es : sz (st.take i) + mm - sz (st.take i) = mm := Nat.add_sub_cancel_left ..
            refine ⟨_, rfl, _, rfl, _, rfl, _, rfl, d, c, dc, sz (st.take i) + mm, sz (st.take i), nk (st.take i), f0, l, t0, _, _, rfl, hc10, hd10, n10, by omega, by omega, by omega, by omega, by omega, fun H11 b11 hd11 => ?_⟩
            rw [es] at hd11
            have hmod := Nat.mod_lt mm (show l + 1 - f0 > 0 by omega)
            refine ⟨_, _, v9, g8, _, rfl, fun b u eb => b11 b u (ne_of_none eb hd0) (s10 _ _ eb), b11 _ _ hdp hp10, b11 _ _ hdL hL10, hd11, b11 _ _ hDd2 hD10, nodup_add _ _ (nodup_add _ _ (nodup_add _ _ n10)), fun q2 h2 => ?_, fun q2 h2 => (keys_add _ _).mpr (.inl ((keys_add _ _).mpr (.inl ((keys_add _ _).mpr (.inl (mem10 q2 h2)))))), fun q2 h2 => ?_, fun k hk3 => ?_⟩
            · rcases (keys_add _ _).mp h2 with z | z
              · rcases (keys_add _ _).mp z with z | z
                · rcases (keys_add _ _).mp z with z | z
                  · exact key10 q2 z
                  · exact .inl (by omega)
                · exact .inl (by omega)
              · exact .inl (by omega)
            · rcases (keys_add _ _).mp h2 with z | z
              · rcases (keys_add _ _).mp z with z | z
                · rcases (keys_add _ _).mp z with z | z
                  · exact set10 q2 z
                  · rw [z]
                    exact inT _ (by simp [thr])
                · rw [z]
                  have e9 : gfr (.pa f0 l t0) (sz (st.take i)) (sz (st.take i) + mm) = f0 + mm % (l + 1 - f0) := by
                    show f0 + (sz (st.take i) + mm - sz (st.take i)) % (l + 1 - f0) = _
                    rw [es]
                  rw [← e9]
                  exact inG
              · rw [z]
                exact inT _ (by simp [thr])
            · rw [val_pa t.good hy n8 rfl hmp k]
              exact hval8 k hk3
        · rintro σ H8 ⟨v7, v8, v9, g8, W8, rfl, s8, hp8, hL8, hd8, hD8, n8, hk8, hm8, hS8, hval8⟩
          refine ⟨some (.ref c), some (.ref D), v7, v8, v9, g8, W8, rfl, s8, hp8, hL8, hd8, n8, by have := hfewS B.length W8 (Nat.le_refl _) n8 (by rw [List.length_map] at hS8; exact hS8); omega, fun q hq => ?_, hval8⟩
          rw [hnj]
          rcases hk8 q hq with z | z
          · exact z
          · rw [List.length_map, List.drop_length] at z
            cases z
    · rintro σ Hc ⟨v5, v6, v7, v8, v9, g, W, rfl, sc, hpc, hLc, hdc, hn, hlen, hk, hval⟩
      refine ⟨_, rfl, q L Hc hL1 sc ?_⟩
      rw [hLc]
      refine congrArg (fun l => some (HO.lst l)) (cV_congr (h := fun k => (cnt st k e : Int) - (cnt st k a : Int)) fun k hk2 => ?_)
      have hz := val_zero st k (W := W) fun q hq => by
        have := hk q hq
        rw [List.length_reverse, List.length_map, hss.len, Nat.sub_self] at this
        exact Nat.le_zero.mp this
      have := hval k hk2
      omega
end
end KL
namespace KL
open PySem PySem.Spec PyProof.Rows L2 Pk He
theorem typed_relet (ls : List Nat) : ∀ (st : List Stp) (n : Nat), n + nk st ≤ ls.length → typed (relet ls n st) = (ls.drop n).take (nk st)
  | [], n, h => by simp [relet, typed, nk]
  | .wr w :: r, n, h => by
    have e1 : nk (.wr w :: r) = w.length + nk r := by simp [nk, Stp.ks]
    rw [e1] at h ⊢
    have ih := typed_relet ls r (n + w.length) (by omega)
    show (ls.drop n).take w.length ++ typed (relet ls (n + w.length) r) = _
    rw [ih, List.take_add, List.drop_drop]
  | .pa f l t :: r, n, h => by
    have e1 : nk (.pa f l t :: r) = nk r := by simp [nk, Stp.ks]
    rw [e1] at h ⊢
    exact typed_relet ls r n h
theorem typed_relet0 {ls : List Nat} {st : List Stp} (h : ls.length = nk st) : typed (relet ls 0 st) = ls := by
  rw [typed_relet ls st 0 (by omega), List.drop_zero, ← h, List.take_length]
theorem all_map (l : List Nat) : (List.range l.length).map (fun i => V.str (sL [l.getD i 0])) = (l.map (fun c => sL [c])).map V.str := by
  refine List.ext_getElem (by simp) fun i h1 h2 => ?_
  simp only [List.length_map, List.length_range] at h1
  simp [List.getD_eq_getElem?_getD, List.getElem?_eq_getElem h1]
section
variable {ls : List Nat} {st : List Stp}
theorem nk_relet (h : ls.length = nk st) : nk (relet ls 0 st) = nk st := by rw [← typed_len, typed_relet0 h, h]
theorem sz_relet (hg : Goes most 0 st) (hl : ls.all isLet = true) (h : ls.length = nk st) : sz (relet ls 0 st) = sz st := by
  have g2 := goes_relet (n := 0) hl hg (by omega)
  rw [← ex_len _ g2, ex_relet h, ex_len _ hg]
theorem cnt_relet (h : ls.length = nk st) (k p : Nat) : cnt (relet ls 0 st) k p = cnt st k p := by
  unfold Pk.cnt
  rw [ex_relet h]
theorem cntP_relet (h : ls.length = nk st) (P : Nat → Bool) (p : Nat) : cntP (relet ls 0 st) P p = cntP st P p := by
  unfold cntP
  rw [ex_relet h]
theorem lP_relet (h : ls.length = nk st) (c k : Nat) : lP (relet ls 0 st) c k = (ls.getD k 0 == c) := by
  unfold lP
  rw [typed_relet0 h]
theorem cntP_congr {P L : Nat → Bool} (h : ∀ k, k < nk st → P k = L k) (p : Nat) : cntP st P p = cntP st L p := by
  unfold cntP
  refine List.countP_congr fun x hx => ?_
  rw [h x (ex_lt st x (List.mem_of_mem_take hx))]
theorem set_len (k c : Nat) : ((typed st).set k c).length = nk st := by rw [List.length_set, typed_len]
theorem set_let {k c : Nat} (hl : (typed st).all isLet = true) (hc : isLet c = true) : ((typed st).set k c).all isLet = true := by
  rw [List.all_eq_true] at hl ⊢
  intro x hx
  rcases List.mem_or_eq_of_mem_set hx with z | z
  · exact hl x z
  · rw [z]
    exact hc
/-- a letter that did not stand there is counted as the key that got it -/
theorem cntP_new {k c : Nat} (hk : k < nk st) (hc : c ∉ typed st) (p : Nat) : cntP (relet ((typed st).set k c) 0 st) (lP (relet ((typed st).set k c) 0 st) c) p = cnt st k p := by
  rw [cntP_relet (set_len k c), ← cnt_in]
  refine cntP_congr (fun x hx => ?_) p
  rw [lP_relet (set_len k c), isIn_one, List.getD_eq_getElem?_getD, List.getElem?_set]
  by_cases e : k = x
  · rw [if_pos e, if_pos (by rw [typed_len]; exact hk), decide_eq_true e.symm]
    simp
  · rw [if_neg e, decide_eq_false (fun z => e z.symm), key_typed hx]
    show (ltr st x == c) = false
    rw [beq_eq_false_iff_ne]
    intro z
    exact hc (z ▸ List.mem_of_getElem? (key_typed hx))
end
theorem relet_self (l : List Nat) : ∀ (st : List Stp) (n : Nat), (l.drop n).take (nk st) = typed st → relet l n st = st
  | [], n, _ => rfl
  | .wr w :: r, n, h => by
    have e1 : nk (.wr w :: r) = w.length + nk r := by simp [nk, Stp.ks]
    have e2 : typed (.wr w :: r) = w ++ typed r := rfl
    rw [e1, e2, List.take_add] at h
    have hl : ((l.drop n).take w.length).length = w.length := by
      have h2 := congrArg List.length h
      simp only [List.length_append, List.length_take, List.length_drop, typed_len] at h2 ⊢
      omega
    obtain ⟨h1, h2⟩ := List.append_inj h hl
    rw [List.drop_drop] at h2
    show Stp.wr ((l.drop n).take w.length) :: relet l (n + w.length) r = _
    rw [h1, relet_self l r (n + w.length) h2]
  | .pa f a t :: r, n, h => by
    have e1 : nk (.pa f a t :: r) = nk r := by simp [nk, Stp.ks]
    rw [e1] at h
    show Stp.pa f a t :: relet l n r = _
    rw [relet_self l r n h]
end KL
namespace KL
open PySem PySem.Spec PyProof.Rows L2 Pk He
theorem cut_sL {ls : List Nat} {n m : Nat} (h : n + m ≤ ls.length) : cutS (sL ls) (some (n : Int)) (some ((n + m : Nat) : Int)) = sL ((ls.drop n).take m) := by
  unfold cutS
  rw [HT.sIx_nat, HT.sIx_nat, sL_len, Nat.min_eq_left (by omega), Nat.min_eq_left (by omega), Nat.add_sub_cancel_left]
  rfl
theorem nk_take_le {st : List Stp} {i : Nat} {x : Stp} (h : st[i]? = some x) : nk (st.take i) + x.ks ≤ nk st := by
  have e : st = st.take (i + 1) ++ st.drop (i + 1) := (List.take_append_drop _ _).symm
  have e2 := congrArg nk e
  rw [nk_app, take_succ h, nk_app] at e2
  simp only [nk, List.map_cons, List.map_nil, List.sum_cons, List.sum_nil] at e2 ⊢
  omega
section
variable {P : Program} {w : World} {K : Fr} {mg : Str → Option Value} {base : Heap} {f : Addr}
theorem scWith : FnScope ["self", "letters", "steps", "step", "span"] ["self", "letters"] (defScope sWith) := ⟨rfl, rfl, rfl, by decide +kernel, rfl, by decide +kernel, by decide +kernel⟩
theorem ok_with (D : Df K "with_letters" "Text.with_letters" sWith f) (T : Tc w K mg) (GI : FnR P w K mg base CX0 5 (ma K (CT K) "__init__") (spInit5 K)) : Kp P w K mg base 7 f (spWith K) := by
  refine kp_of D scWith (fun _ _ _ _ _ _ us hl => match us, hl with | [_, _], _ => rfl) ?_ (fun cdv A outer s H vs Q E hr h => ?_)
  · rintro vs H Q E ⟨x, ls, st, rfl, _⟩
    rfl
  · obtain ⟨x, ls, st, rfl, t, hl, hlet, q⟩ := h
    obtain ⟨dx, ts, sp, as, ss, hx, hts, hst, hsp, hss⟩ := t.obj
    have hnk := nk_le t.good
    have few := t.few
    have hz : (sL ls).length ≤ sizeLine := by
      rw [sL_len, hl]
      exact Nat.le_trans (show nk st ≤ 600 by omega) (by decide)
    refine ⟨_, (pss_cons (ps_set (i := 2) scWith.nd rfl (Or.inl rfl) (pe_lst pa_nil)) (pss_cons (ps_for PassesOwn.never rfl (RZ.pi_zipA (by rfl) T.zip (pa_cons (pe_fld (pv 0) rfl) (pa_cons (pe_fld (pv 0) rfl) pa_nil))) (pg_tup rfl (pgs_cons (pg_name (i := 3) scWith.nd rfl (Or.inl rfl)) (pgs_cons (pg_name (i := 4) scWith.nd rfl (Or.inl rfl)) pgs_nil))) (pss_one (ps_if (pt_cmp (pc_isN (pe_fld (pv 4) rfl))) (pss_one (ps_expr (pe_bm PySem.F.plainAttrs_list PySem.F.slot_list_append PySem.F.type_list_append mt_append (pv 2) (pa_cons (pv 3) pa_nil)))) (pss_one (ps_expr (pe_bm PySem.F.plainAttrs_list PySem.F.slot_list_append PySem.F.type_list_append mt_append (pv 2) (pa_cons (pe_tup (pa_cons pe_str (pa_cons (pe_slice sl_str (pv 1) (po_some (pe_fld (pv 4) rfl)) (po_some (pe_op op_add (pe_fld (pv 4) rfl) (pk_b1 call_len_str T.len b_len (pe_ix ix_tup (pv 3) pe_int (fun _ _ => rfl)))))) pa_nil))) pa_nil))))))) (pss_one (ps_ret (pe_makeS T.mkT GI hr rfl T.gText pass0 (pv 2)))))), ?_⟩
    refine ⟨Nat.zero_le _, fun L hL => ?_⟩
    have s1 : Same H (upd H L (.lst [])) := same_upd hL
    refine ⟨_, rfl, x, _, dx, _, _, rfl, s1 _ _ hx, T.clT, T.nT1, rfl, _, rfl, x, _, dx, _, _, rfl, s1 _ _ hx, T.clT, T.nT2, rfl, ts, sp, _, _, rfl, .inr ⟨same_sqT s1 hts, same_sqT s1 hsp, ?_⟩⟩
    have hn : (as.map V.ref).length = st.length := by rw [List.length_map, hst.len]
    refine RZ.for_zipT (xs := as.map V.ref) (ys := ss.map V.ref) (by rw [hn, List.length_map, hss.len]) (fun i σ H2 => ∃ (bs : List Addr) (v3 v4 : Option V), σ = [some (.ref x), some (.str (sL ls)), some (.ref L), v3, v4] ∧ Same H H2 ∧ H2 L = some (.lst (bs.map V.ref)) ∧ StepsAt K H2 bs (relet ls 0 (st.take i)))
      ⟨[], none, none, rfl, s1, upd_same, StepsAt.nil⟩ ?_ ?_ ?_
    · rintro i σ H2 ⟨bs, v3, v4, _, s2, _⟩
      exact ⟨same_sqT s2 hts, same_sqT s2 hsp⟩
    · rintro i u v TT σ H2 hu hv ⟨bs, v3, v4, rfl, s2, hL2, hbs⟩ hT
      have hi : i < st.length := by
        have := (List.getElem?_eq_some_iff.mp hu).1
        rwa [hn] at this
      obtain ⟨y, hy⟩ : ∃ y, st[i]? = some y := ⟨st[i], List.getElem?_eq_getElem hi⟩
      obtain ⟨a, ha, hay⟩ := hst.at_ i y hy
      obtain ⟨b, db, hb, e5⟩ := hss.at_ i y hy
      obtain ⟨ok, _⟩ := goes_at t.good hy
      have eu : u = .ref a := map_at ha hu
      have ev : v = .ref b := map_at hb hv
      subst eu ev
      have s3 : Same H (upd H2 TT (.tup [.ref a, .ref b])) := s2.trans (same_upd hT)
      have hL3 : (upd H2 TT (.tup [.ref a, .ref b])) L = some (.lst (bs.map V.ref)) := same_upd hT _ _ hL2
      have hbs3 : StepsAt K (upd H2 TT (.tup [.ref a, .ref b])) bs (relet ls 0 (st.take i)) := hbs.same (same_upd hT)
      have hsm : (bs.map V.ref).length < sizeLine := by
        rw [List.length_map, hbs.len, relet_len, List.length_take]
        exact Nat.lt_of_le_of_lt (Nat.le_trans (Nat.min_le_right _ _) few) (by decide)
      have fin : ∀ (m : Addr) (H4 : Hp), Same (upd H2 TT (.tup [.ref a, .ref b])) H4 → SqT K H4 m (stV (rel1 ls (nk (st.take i)) y)) →
          ∃ (bs2 : List Addr) (v3 v4 : Option V), ([some (.ref x), some (.str (sL ls)), some (.ref L), some (.ref a), some (.ref b)] : L2.St) = [some (.ref x), some (.str (sL ls)), some (.ref L), v3, v4] ∧ Same H (upd H4 L (.lst (bs.map V.ref ++ [.ref m]))) ∧
            (upd H4 L (.lst (bs.map V.ref ++ [.ref m]))) L = some (.lst (bs2.map V.ref)) ∧ StepsAt K (upd H4 L (.lst (bs.map V.ref ++ [.ref m]))) bs2 (relet ls 0 (st.take (i + 1))) := by
        intro m H4 s4 hm
        have hL4 := s4 _ _ hL3
        refine ⟨bs ++ [m], _, _, rfl, fun c o e => ?_, by rw [upd_same, List.map_append]; rfl, ?_⟩
        · rw [upd_ne (ne_of_none e hL)]
          exact s4 _ _ (s3 _ _ e)
        · rw [relet_take ls hy]
          exact (steps_butL hL4 but_upd (hbs3.same s4)).snoc (sqT_butL hL4 but_upd hm)
      refine ⟨TT, [.ref a, .ref b], rfl, .inl (.inl upd_same), rfl, _, _, rfl, _, _, rfl, rfl, ?_⟩
      refine ⟨_, rfl, b, _, db, _, _, rfl, s3 _ _ e5, T.clS, T.nS3, spF_key _ _ _, _, rfl, ?_⟩
      cases y with
      | wr w =>
        have hks := nk_take_le hy
        have hw : (sL w).length ≤ sizeLine := by
          rw [sL_len]
          simp [Stp.ok] at ok
          exact Nat.le_trans ok.1.2 (by decide)
        refine iteF ?_
        refine ⟨_, rfl, .inl ⟨rfl, _, SqL.of hL3⟩, _, rfl, _, rfl, b, _, db, _, _, rfl, s3 _ _ e5, T.clS, T.nS3, spF_key _ _ _, _, rfl, _, rfl, b, _, db, _, _, rfl, s3 _ _ e5, T.clS, T.nS3, spF_key _ _ _, _, rfl, a, _, _, _, rfl, rfl, same_sqT s3 hay, atI_nat (j := 1) rfl, _, rfl, hw, _, _, rfl, rfl,
          _, rfl, _, rfl, hz, (by show 2 ≤ sizeLine; decide), fun p hp => ?_⟩
        have hL5 : (upd (upd H2 TT (.tup [.ref a, .ref b])) p (.tup [.str "write", .str (cutS (sL ls) (some (nk (st.take i) : Int)) (some ((nk (st.take i) : Int) + ((sL w).length : Int))))])) L = some (.lst (bs.map V.ref)) := same_upd hp _ _ hL3
        refine ⟨L, _, _, rfl, rfl, hL5, hsm, ?_⟩
        refine fin p _ (same_upd hp) (.inl (.inl ?_))
        rw [upd_same, sL_len]
        have e9 := cut_sL (ls := ls) (n := nk (st.take i)) (m := w.length) (by rw [hl]; exact hks)
        rw [Int.natCast_add] at e9
        rw [e9]
        rfl
      | pa f0 l t0 =>
        refine iteT ?_
        refine ⟨_, rfl, .inl ⟨rfl, _, SqL.of hL3⟩, _, rfl, L, _, _, rfl, rfl, hL3, hsm, ?_⟩
        exact fin a _ (Same.refl _) (same_sqT s3 hay)
    · rintro σ H2 ⟨bs, v3, v4, rfl, s2, hL2, hbs⟩
      rw [hn, List.take_length] at hbs
      refine ⟨_, rfl, L, _, rfl, .inr (SqL.of hL2), ?_⟩
      refine make_text T.csct hbs (goes_relet hlet t.good (by omega)) (by rw [relet_len]; exact few) fun z H4 hz s4 t2 => ?_
      exact q z H4 (s2.free hz) (s2.trans s4) t2
end
end KL
namespace KL
open PySem PySem.Spec PyProof.Rows L2 Pk He
def spRet (K : Fr) : Sp := fun vs H Q _ => ∃ (x : Addr) (k c : Nat) (st : List Stp), vs = [.ref x, .int k, .str (sL [c])] ∧ TA_ K H x st ∧ k < nk st ∧ isLet c = true ∧ (typed st).all isLet = true ∧
  ∀ z H2, H z = none → Same H H2 → TA_ K H2 z (relet ((typed st).set k c) 0 st) → Q (.ref z) H2
section
variable {P : Program} {w : World} {K : Fr} {mg : Str → Option Value} {base : Heap} {f : Addr}
theorem scRet : FnScope ["self", "key", "letter"] ["self", "key", "letter"] (defScope sRet) := ⟨rfl, rfl, rfl, by decide +kernel, rfl, by decide +kernel, by decide +kernel⟩
theorem ok_ret (D : Df K "retyped" "Text.retyped" sRet f) (T : Tc w K mg) (GN : Kp P w K mg base 1 (ga K "is_number") spIsNumber) (GL : Kp P w K mg base 1 (ga K "is_letter") spIsLetter) (GW : Kp P w K mg base 7 (ma K (CT K) "with_letters") (spWith K)) : Kp P w K mg base 8 f (spRet K) := by
  obtain ⟨fdW, psW, FW, bW, kpW⟩ := GW
  refine kp_of D scRet (fun _ _ _ _ _ _ us hl => match us, hl with | [_, _, _], _ => rfl) ?_ (fun cdv A outer s H vs Q E hr h => ?_)
  · rintro vs H Q E ⟨x, k, c, st, rfl, _⟩
    rfl
  · obtain ⟨x, k, c, st, rfl, t, hk, hc, hal, q⟩ := h
    obtain ⟨dx, ts, sp, as, ss, hx, _, _, hsp, hss⟩ := t.obj
    have hz := typed_small t
    have hlen := typed_len st
    have e3 : ((sL (typed st)).length : Int) = (nk st : Nat) := by rw [sL_len, typed_len]
    have e1 : isNum (.int (k : Int)) 0 ((nk st : Int) - 1) = true := by
      show (decide ((0 : Int) ≤ k) && decide ((k : Int) ≤ (nk st : Int) - 1)) = true
      rw [decide_eq_true (by omega), decide_eq_true (by omega)]
      rfl
    have e2 : isLetV (.str (sL [c])) = true := hc
    refine ⟨_, (pss_cons (ps_if (pt_not (pt_val (pk_call GN (hr.mono (by decide)) T.gIsNumber (pa_cons (pv 1) (pa_cons pe_int (pa_cons (pe_op op_sub (pk_b1 call_len_str T.len b_len (pe_fld (pv 0) rfl)) pe_int) pa_nil)))))) pss_never pss_nil) (pss_cons (ps_if (pt_not (pt_val (pk_call GL (hr.mono (by decide)) T.gIsLetter (pa_cons (pv 2) pa_nil)))) pss_never pss_nil) (pss_one (ps_ret (pe_meth (pv 0) T.clT T.mWith FW (hr.mono (by decide)) bW .nil pass0 (pa_cons (pe_op op_add_str (pe_op op_add_str (pe_slice sl_str (pe_fld (pv 0) rfl) po_none (po_some (pv 1))) (pv 2)) (pe_slice sl_str (pe_fld (pv 0) rfl) (po_some (pe_op op_add (pv 1) pe_int)) po_none)) pa_nil)))))), ?_⟩
    refine ⟨_, rfl, _, rfl, x, _, dx, _, _, rfl, hx, T.clT, T.nT4, rfl, _, rfl, Nat.le_trans hz (by decide), _, _, rfl, rfl, .int k, 0, _, rfl, rfl, ?_⟩
    rw [e3, e1]
    refine ⟨true, rfl, ?_⟩
    refine iteF ?_
    refine ⟨_, rfl, _, rfl, rfl, (by decide : 1 ≤ sizeLine), ?_⟩
    rw [e2]
    refine ⟨true, rfl, ?_⟩
    refine iteF ?_
    have cutA : cutS (sL (typed st)) none (some (k : Int)) = sL ((typed st).take k) := by
      unfold cutS
      rw [HT.sIx_none, HT.sIx_nat, sL_len, Nat.min_eq_left (by omega), Nat.sub_zero]
      rfl
    have cutB : cutS (sL (typed st)) (some ((k : Int) + 1)) none = sL ((typed st).drop (k + 1)) := by
      unfold cutS
      rw [HT.sIx_none, show ((k : Int) + 1) = ((k + 1 : Nat) : Int) by omega, HT.sIx_nat, sL_len, Nat.min_eq_left (by omega)]
      show sL (((typed st).drop (k + 1)).take ((typed st).length - (k + 1))) = _
      rw [List.take_of_length_le (by rw [List.length_drop]; omega)]
    have hset : (typed st).set k c = (typed st).take k ++ [c] ++ (typed st).drop (k + 1) := by
      rw [List.set_eq_take_append_cons_drop, if_pos (by omega), List.append_assoc]
      rfl
    refine ⟨_, rfl, x, dx, _, rfl, hx, lk_with _ _ _, ?_⟩
    have hl1 : (sL ((typed st).take k)).length + (sL [c]).length ≤ sizeLine := by
      rw [sL_len, sL_len, List.length_take]
      exact Nat.le_trans (show min k (typed st).length + 1 ≤ 700 by rw [sL_len] at hz; omega) (by decide)
    have hl2 : (sL ((typed st).take k) ++ sL [c]).length + (sL ((typed st).drop (k + 1))).length ≤ sizeLine := by
      rw [sL_app, sL_len, sL_len, List.length_append, List.length_take, List.length_drop]
      exact Nat.le_trans (show min k (typed st).length + 1 + ((typed st).length - (k + 1)) ≤ 1300 by rw [sL_len] at hz; omega) (by decide)
    have hzz := Nat.le_trans hz (show 600 ≤ sizeLine by decide)
    refine ⟨_, rfl, x, _, dx, _, _, rfl, hx, T.clT, T.nT4, rfl, _, rfl, (k : Int), rfl, _, rfl, hzz, _, rfl, ?_⟩
    rw [cutA]
    refine ⟨_, _, rfl, rfl, hl1, _, rfl, x, _, dx, _, _, rfl, hx, T.clT, T.nT4, rfl, _, rfl, _, _, rfl, rfl, _, rfl, _, rfl, hzz, ?_⟩
    rw [cutB]
    refine ⟨_, _, rfl, rfl, hl2, ?_⟩
    rw [sL_app, sL_app, ← hset]
    refine ⟨x, (typed st).set k c, st, rfl, t, by rw [List.length_set]; exact hlen, ?_, q⟩
    rw [List.all_eq_true] at hal ⊢
    intro c2 h2
    rcases List.mem_or_eq_of_mem_set h2 with h3 | h3
    · exact hal c2 h3
    · rw [h3]
      exact hc
end
end KL
namespace KL
open PySem PySem.Spec PyProof.Rows L2 Pk He
/-- an operation of an editor: a step, or a key retyped by a place -/
inductive Op where
  | st (x : Stp)
  | re (p c : Nat)
def opV : Op → List V
  | .st x => stV x
  | .re p c => [.str "retype", .int (p : Nat), .str (sL [c])]
/-- the key of a place -/
def keyOf (st : List Stp) (p : Nat) : Nat := (ex st).getD p 0
def run1 (st : List Stp) : Op → List Stp
  | .st x => st ++ [x]
  | .re p c => relet ((typed st).set (keyOf st p) c) 0 st
def res1 (st : List Stp) : Op → Int
  | .st x => (sz (st ++ [x]) : Nat)
  | .re p c => if ltr st (keyOf st p) = c then 0 else (cnt st (keyOf st p) (sz st) : Nat)
def okOp (st : List Stp) : Op → Prop
  | .st x => Goes most 0 (st ++ [x]) ∧ st.length < 30
  | .re p c => p < sz st ∧ isLet c = true
structure OpsAt (K : Fr) (H : Hp) (as : List Addr) (ops : List Op) : Prop where
  len : as.length = ops.length
  at_ : ∀ (i : Nat) (o : Op), ops[i]? = some o → ∃ a, as[i]? = some a ∧ SqT K H a (opV o)
theorem OpsAt.same {K : Fr} {H H2 : Hp} {as : List Addr} {ops : List Op} (h : OpsAt K H as ops) (s : Same H H2) : OpsAt K H2 as ops := ⟨h.len, fun i o ho => let ⟨a, h1, h2⟩ := h.at_ i o ho; ⟨a, h1, same_sqT s h2⟩⟩
theorem OpsAt.nil {K : Fr} {H : Hp} : OpsAt K H [] [] := ⟨rfl, fun i x h => by simp at h⟩
def spIsOp (K : Fr) : Sp := fun vs H Q _ => ∃ (a : Addr) (o : Op), vs = [.ref a] ∧ SqT K H a (opV o) ∧ Q (.bl true) H
def spCheckOps (K : Fr) : Sp := fun vs H Q _ => ∃ (t : Addr) (as : List Addr) (ops : List Op), vs = [.ref t] ∧ SqT K H t (as.map V.ref) ∧ OpsAt K H as ops ∧ ops.length ≤ 1000 ∧ ∀ H2, Same H H2 → Q .non H2
theorem opV_len (o : Op) : (opV o).length = 2 ∨ (opV o).length = 3 ∨ (opV o).length = 4 := by
  cases o with
  | st x => cases x <;> simp [opV, stV]
  | re p c => simp [opV]
section
variable {P : Program} {w : World} {K : Fr} {mg : Str → Option Value} {base : Heap} {f : Addr}
theorem ok_is_operation (D : Df K "is_operation" "is_operation" s_is_operation (ga K "is_operation")) (T : Tc w K mg) : Kp P w K mg base 2 (ga K "is_operation") (spIsOp K) := by
  refine kp_of D sc_is_operation (fun _ _ _ _ _ _ us hl => match us, hl with | [_], _ => rfl) ?_ (fun cdv A outer s H vs Q E hr h => ?_)
  · rintro vs H Q E ⟨a, o, rfl, _⟩
    rfl
  · obtain ⟨a, o, rfl, ha, q⟩ := h
    refine ⟨_, (pss_cons (ps_if (pw_or (pt_not (pt_val (pe_isi (pv 0) T.isi T.tup b_tuple))) (pw_or (pt_cmpR (eqB K hr.units) (pk_b1 (lenA K) T.len b_len (pv 0)) pe_int (nomark _)) (pw_or1 (pt_not (pt_val (pe_isi (pe_ix (ixS K) (pv 0) pe_int (fun _ _ => rfl)) T.isi T.str b_str)))))).pt (pss_one (ps_ret pe_bl)) pss_nil) (pss_one (ps_ret (pe_cmpR (eqB K hr.units) (pe_kget1 T.k_LENGTHS rfl T.g_LENGTHS (pe_ix (ixS K) (pv 0) pe_int (fun _ _ => rfl)) ⟨rfl, rfl, rfl, rfl⟩) (pk_b1 (lenA K) T.len b_len (pv 0)) (nomark _))))), ?_⟩
    refine ⟨_, rfl, ?_⟩
    refine ⟨_, _, _, _, rfl, sqT_ty ha, rfl, _, rfl, ?_⟩
    cases o with
    | st x =>
      cases x with
      | wr l =>
        have ha : SqT K H a [.str "write", .str (sL l)] := ha
        refine iF (nF rfl) ?_
        refine ⟨_, rfl, (.inr (.inl ⟨_, _, rfl, (.inr ha), (.inl ⟨rfl, _, rfl, ?_⟩)⟩))⟩
        refine iF (vF (by simp)) ?_
        refine ⟨_, rfl, (.inr (.inl ⟨_, _, _, _, rfl, rfl, ha, rfl, _, _, _, _, rfl, (.base (.str _)), rfl, _, rfl, ?_⟩))⟩
        refine iF (nF rfl) ?_
        refine ⟨_, rfl, (.inr (.inl ⟨_, _, _, _, rfl, rfl, ha, rfl, ?_⟩))⟩
        refine ⟨_, 2, rfl, by simp, ?_⟩
        refine ⟨_, rfl, (.inr (.inl ⟨_, _, rfl, (.inr ha), (.inl ⟨rfl, ?_⟩)⟩))⟩
        exact q
      | pa f0 l t =>
        have ha : SqT K H a [.str "paste", .int f0, .int l, .int t] := ha
        refine iF (nF rfl) ?_
        refine ⟨_, rfl, (.inr (.inl ⟨_, _, rfl, (.inr ha), (.inl ⟨rfl, _, rfl, ?_⟩)⟩))⟩
        refine iF (vF (by simp)) ?_
        refine ⟨_, rfl, (.inr (.inl ⟨_, _, _, _, rfl, rfl, ha, rfl, _, _, _, _, rfl, (.base (.str _)), rfl, _, rfl, ?_⟩))⟩
        refine iF (nF rfl) ?_
        refine ⟨_, rfl, (.inr (.inl ⟨_, _, _, _, rfl, rfl, ha, rfl, ?_⟩))⟩
        refine ⟨_, 4, rfl, by simp, ?_⟩
        refine ⟨_, rfl, (.inr (.inl ⟨_, _, rfl, (.inr ha), (.inl ⟨rfl, ?_⟩)⟩))⟩
        exact q
    | re p c =>
      have ha : SqT K H a [.str "retype", .int (p : Nat), .str (sL [c])] := ha
      refine iF (nF rfl) ?_
      refine ⟨_, rfl, (.inr (.inl ⟨_, _, rfl, (.inr ha), (.inl ⟨rfl, _, rfl, ?_⟩)⟩))⟩
      refine iF (vF (by simp)) ?_
      refine ⟨_, rfl, (.inr (.inl ⟨_, _, _, _, rfl, rfl, ha, rfl, _, _, _, _, rfl, (.base (.str _)), rfl, _, rfl, ?_⟩))⟩
      refine iF (nF rfl) ?_
      refine ⟨_, rfl, (.inr (.inl ⟨_, _, _, _, rfl, rfl, ha, rfl, ?_⟩))⟩
      refine ⟨_, 3, rfl, by simp, ?_⟩
      refine ⟨_, rfl, (.inr (.inl ⟨_, _, rfl, (.inr ha), (.inl ⟨rfl, ?_⟩)⟩))⟩
      exact q
theorem ok_check_operations (D : Df K "check_operations" "check_operations" s_check_operations (ga K "check_operations")) (T : Tc w K mg) (G_is_operation : Kp P w K mg base 2 (ga K "is_operation") (spIsOp K)) : Kp P w K mg base 4 (ga K "check_operations") (spCheckOps K) := by
  refine kp_of D sc_check_operations (fun _ _ _ _ _ _ us hl => match us, hl with | [_], _ => rfl) ?_ (fun cdv A outer s H vs Q E hr h => ?_)
  · rintro vs H Q E ⟨t, as, ops, rfl, _⟩
    rfl
  · obtain ⟨t, as, ops, rfl, ht, hops, hl, q⟩ := h
    refine ⟨_, (pss_one (ps_for PassesOwn.never rfl (pi_enumX (by rfl) T.enu (pa_cons (pv 0) pa_nil)) (pg_tup rfl (pgs_cons (pg_name (i := 1) sc_check_operations.nd rfl (Or.inl rfl)) (pgs_cons (pg_name (i := 2) sc_check_operations.nd rfl (Or.inl rfl)) pgs_nil))) (pss_one (ps_if (pt_not (pt_val (pk_call G_is_operation (hr.mono (by omega)) T.g_is_operation (pa_cons (pv 2) pa_nil)))) pss_never pss_nil)))), ?_⟩
    have hal := hops.len
    refine ⟨_, rfl, ?_⟩
    refine ⟨.tup t, as.map V.ref, rfl, ht, ?_⟩
    refine for_it (walk_enumX (K := K) (S := .tup t) (xs := as.map V.ref)) (fun i σ H3 => ∃ v1 v2 : Option V, σ = [some (.ref t), v1, v2] ∧ Same H H3) ⟨none, none, rfl, Same.refl _⟩ (fun i σ H3 _ ⟨_, _, _, s⟩ => same_sqT s ht) ?_ ?_
    · rintro i v σ H3 H4 hi ⟨v1, v2, rfl, s3⟩ ⟨T0, u1, u2, rfl, hT0, rfl, ev1, ev2⟩
      cases ev1
      rw [List.length_map, hal] at hi
      obtain ⟨a, ha, hsq⟩ := hops.at_ i _ (List.getElem?_eq_getElem hi)
      have ev2 : (as.map V.ref)[i]? = some u2 := ev2
      rw [List.getElem?_map, ha] at ev2
      cases ev2
      generalize hE : upd H3 T0 _ = H1
      have s1 : Same H3 H1 := hE ▸ same_upd hT0
      have e_T0 := (congrFun hE T0).symm.trans upd_same
      clear hE
      refine ⟨_, _, rfl, (SqT.of e_T0), rfl, _, _, rfl, _, _, rfl, rfl, _, rfl, _, _, rfl, (same_sqT (s3.trans s1) hsq), _, rfl, ?_⟩
      generalize hσ : List.set _ _ _ = σ1
      simp only [L2.start, List.set_cons_zero, List.set_cons_succ, List.map_cons, List.map_nil, List.length_cons, List.length_nil, List.replicate_succ, List.replicate_zero, List.cons_append, List.nil_append, Nat.reduceAdd, Nat.reduceSub] at hσ
      subst hσ
      refine iF (nF rfl) ?_
      refine ⟨_, _, rfl, ?_⟩
      exact (s3.trans s1)
    · rintro σ H3 ⟨v1, v2, rfl, s3⟩
      exact q _ s3
def spWPR (K : Fr) : Sp := fun vs H Q _ => ∃ (x : Addr) (p c : Nat) (st : List Stp), vs = [.ref x, .int (p : Nat), .str (sL [c])] ∧ TA_ K H x st ∧ p < sz st ∧ isLet c = true ∧
  ∀ (t y : Addr) H2, H t = none → Same H H2 → H2 t = some (.tup [.ref y, .int (res1 st (.re p c))]) → TA_ K H2 y (run1 st (.re p c)) → Q (.ref t) H2
def spExec (K : Fr) : Sp := fun vs H Q _ => ∃ (x a : Addr) (o : Op) (st : List Stp), vs = [.ref x, .ref a] ∧ TA_ K H x st ∧ SqT K H a (opV o) ∧ okOp st o ∧
  ∀ (t y : Addr) H2, H t = none → Same H H2 → H2 t = some (.tup [.ref y, .int (res1 st o)]) → TA_ K H2 y (run1 st o) → Q (.ref t) H2
theorem ok_with_place_retyped (D : Df K "_with_place_retyped" "_with_place_retyped" s_with_place_retyped (ga K "_with_place_retyped")) (T : Tc w K mg) (G_Text_call : Kp P w K mg base 3 (ma K (CT K) "__call__") (spCall K)) (G_Text_retyped : Kp P w K mg base 8 (ma K (CT K) "retyped") (spRet K)) (G_Text_typed_keys : Kp P w K mg base 1 (pgA K (CT K) "typed_keys") (spTyped K)) (G_Text_size : Kp P w K mg base 1 (pgA K (CT K) "size") (spSize K)) (G_key_counts : Kp P w K mg base 4 (ga K "key_counts") (spCounts K)) : Kp P w K mg base 12 (ga K "_with_place_retyped") (spWPR K) := by
  have G_Text_call := callI G_Text_call
  refine kp_of D sc_with_place_retyped (fun _ _ _ _ _ _ us hl => match us, hl with | [_, _, _], _ => rfl) ?_ (fun cdv A outer s H vs Q E hr h => ?_)
  · rintro vs H Q E ⟨x, p, c, st, rfl, _⟩
    rfl
  · obtain ⟨x, p, c, st, rfl, t, hp, hc, q⟩ := h
    have hg := t.good
    have hlet := typed_let hg
    have hmost : most = 1000000000000000000 := rfl
    have hszm := sz_most hg
    obtain ⟨k, hpk⟩ : ∃ k, (ex st)[p]? = some k := ⟨_, List.getElem?_eq_getElem (by rw [ex_len _ hg]; omega)⟩
    have hknk := ex_lt st k (List.mem_of_getElem? hpk)
    have hkey : keyOf st p = k := by unfold keyOf; rw [List.getD_eq_getElem?_getD, hpk]; rfl
    have hkc := key_typed hknk
    have hrun : run1 st (.re p c) = relet ((typed st).set k c) 0 st := by show relet ((typed st).set (keyOf st p) c) 0 st = _; rw [hkey]
    have hres : res1 st (.re p c) = if ltr st k = c then 0 else ((cnt st k (sz st) : Nat) : Int) := by show (if ltr st (keyOf st p) = c then (0 : Int) else ((cnt st (keyOf st p) (sz st) : Nat) : Int)) = _; rw [hkey]
    have htl : (sL (typed st)).length = nk st := by rw [sL_len, typed_len]
    rw [hrun, hres] at q
    refine ⟨_, (pss_cons (ps_set (i := 3) sc_with_place_retyped.nd rfl (Or.inl rfl) (pk_callO (pv 0) T.callO G_Text_call (hr.mono (by omega)) (pa_cons (pv 1) pa_nil))) (pss_cons (ps_set (i := 4) sc_with_place_retyped.nd rfl (Or.inl rfl) (pe_methR (pv 0) T.clT T.mRet G_Text_retyped.fnR (hr.mono (by omega)) pass0 (pa_cons (pv 3) (pa_cons (pv 2) pa_nil)))) (pss_cons (ps_if (pt_cmpR (eqB K hr.units) (pe_ix (ixS K) (pk_prop (pv 0) T.clT T.pTyped G_Text_typed_keys (hr.mono (by omega))) (pv 3) (fun _ _ => rfl)) (pv 2) (nomark _)) (pss_one (ps_ret (pe_tup (pa_cons (pv 4) (pa_cons pe_int pa_nil))))) pss_nil) (pss_one (ps_ret (pe_tup (pa_cons (pv 4) (pa_cons (pe_ix (ixS K) (pk_call G_key_counts (hr.mono (by omega)) T.gCounts (pa_cons (pv 0) (pa_cons pe_int (pa_cons (pe_op op_sub (pk_prop (pv 0) T.clT T.pSize G_Text_size (hr.mono (by omega))) pe_int) pa_nil)))) (pv 3) (fun _ _ => rfl)) pa_nil)))))))), ?_⟩
    obtain ⟨dx_x, ts_x, sp_x, as_x, ss_x, hx_x, hts_x, hst_x, hsp_x, hss_x⟩ := t.obj
    have hty_x := typed_small t
    have hnk_x := text_nk t
    have hg_x := t.good
    refine ⟨_, rfl, _, rfl, _, rfl, ⟨_, ⟨_, hx_x⟩⟩, _, _, _, rfl, t, (by omega), (by omega), fun k1 H2 s1 e => ?_⟩
    obtain rfl := Option.some.inj ((hpk).symm.trans e)
    refine ⟨_, rfl, _, _, _, rfl, (s1 _ _ hx_x), rfl, _, rfl, _, rfl, _, _, _, _, rfl, (TextAt.same t s1), (by omega), hc, hlet, fun z H21 n s2 t1 => ?_⟩
    have ne_x_z := ne_of_none (s1 _ _ hx_x) n
    obtain ⟨dx_z, ts_z, sp_z, as_z, ss_z, hx_z, hts_z, hst_z, hsp_z, hss_z⟩ := t1.obj
    have hty_z := typed_small t1
    have hnk_z := text_nk t1
    have hg_z := t1.good
    refine ⟨_, rfl, _, _, _, rfl, (s2 _ _ (s1 _ _ hx_x)), _, _, rfl, (TextAt.same t (s1.trans s2)), _, rfl, (.inr (.inr ⟨_, _, _, rfl, rfl, (by exact small_ok (by omega)), (at_typedI (by omega) (by omega)), _, rfl, (.inl ⟨rfl, _, rfl, ?_⟩)⟩))⟩
    generalize hσ : List.set _ _ _ = σ1
    simp only [L2.start, List.set_cons_zero, List.set_cons_succ, List.map_cons, List.map_nil, List.length_cons, List.length_nil, List.replicate_succ, List.replicate_zero, List.cons_append, List.nil_append, Nat.reduceAdd, Nat.reduceSub] at hσ
    subst hσ
    rw [Int.toNat_natCast]
    refine iL (fun h => ?_) fun h => ?_
    · rw [if_pos h] at q
      refine ⟨_, rfl, (by (show 2 ≤ _; decide)), fun p1 n1 => ?_⟩
      have ne_x_p1 := ne_of_none ((s1.trans s2) _ _ hx_x) n1
      have ne_z_p1 := ne_of_none hx_z n1
      generalize hE : upd H21 p1 _ = H1
      have s3 : Same H21 H1 := hE ▸ same_upd n1
      have e_p1 := (congrFun hE p1).symm.trans upd_same
      clear hE
      exact q _ _ _ ((s1.trans s2).free n1) ((s1.trans s2).trans s3) e_p1 (TextAt.same t1 s3)
    · rw [if_neg h] at q
      refine ⟨_, rfl, _, rfl, _, rfl, _, _, _, rfl, (s2 _ _ (s1 _ _ hx_x)), _, _, rfl, (TextAt.same t (s1.trans s2)), _, _, rfl, rfl, _, _, _, _, rfl, (TextAt.same t (s1.trans s2)), (by omega), (by omega), (by omega), fun l H22 n1 s3 e1 => ?_⟩
      have ne_x_l := ne_of_none ((s1.trans s2) _ _ hx_x) n1
      have ne_z_l := ne_of_none hx_z n1
      refine ⟨_, rfl, (.inl ⟨_, _, _, _, rfl, rfl, (SqL.of e1), (at_cVI (by omega) (by omega)), (by (show 2 ≤ _; decide)), fun p1 n2 => ?_⟩)⟩
      have ne_x_p1 := ne_of_none (((s1.trans s2).trans s3) _ _ hx_x) n2
      have ne_z_p1 := ne_of_none (s3 _ _ hx_z) n2
      have ne_l_p1 := ne_of_none e1 n2
      generalize hE : upd H22 p1 _ = H1
      have s4 : Same H22 H1 := hE ▸ same_upd n2
      have e_p1 := (congrFun hE p1).symm.trans upd_same
      clear hE
      refine q _ _ _ (((s1.trans s2).trans s3).free n2) (((s1.trans s2).trans s3).trans s4) (tup_eq e_p1 ?_) (TextAt.same t1 (s3.trans s4))
      rw [Int.toNat_natCast, show ((sz st : Int) - 1 + 1).toNat = sz st by omega, show Pk.cnt st k (Int.toNat 0) = 0 from rfl]
      show [V.ref z, V.int ((Pk.cnt st k (sz st) : Int) - 0)] = _
      rw [Int.sub_zero]
theorem ok_executed (D : Df K "executed" "executed" s_executed (ga K "executed")) (T : Tc w K mg) (G_with_place_retyped : Kp P w K mg base 12 (ga K "_with_place_retyped") (spWPR K)) (G_Text_of_steps : Kp P w K mg base 7 (He5.wf K (CT K) "classmethod" "of_steps") (spOf K)) (G_Text_steps : Kp P w K mg base 1 (pgA K (CT K) "steps") (spStepsP K)) (G_Text_size : Kp P w K mg base 1 (pgA K (CT K) "size") (spSize K)) : Kp P w K mg base 14 (ga K "executed") (spExec K) := by
  refine kp_of D sc_executed (fun _ _ _ _ _ _ us hl => match us, hl with | [_, _], _ => rfl) ?_ (fun cdv A outer s H vs Q E hr h => ?_)
  · rintro vs H Q E ⟨x, a, o, st, rfl, _⟩
    rfl
  · obtain ⟨x, a, o, st, rfl, t, ha, hok, q⟩ := h
    refine ⟨_, (pss_cons (ps_if (pt_cmpR (eqB K hr.units) (pe_ix (ixS K) (pv 1) pe_int (fun _ _ => rfl)) pe_str (nomark _)) (pss_one (ps_ret (pk_call G_with_place_retyped (hr.mono (by omega)) T.g_with_place_retyped (pa_cons (pv 0) (pa_cons (pe_ix (ixS K) (pv 1) pe_int (fun _ _ => rfl)) (pa_cons (pe_ix (ixS K) (pv 1) pe_int (fun _ _ => rfl)) pa_nil)))))) pss_nil) (pss_cons (ps_set (i := 2) sc_executed.nd rfl (Or.inl rfl) (ClX.pe_cmeth (pe_gR T.gText) T.rd T.cmOf G_Text_of_steps.fnR (hr.mono (by omega)) pass0 (pa_cons (pe_lst (StX.pa_star (pk_prop (pv 0) T.clT T.pSteps G_Text_steps (hr.mono (by omega))) (pa_cons (pv 1) pa_nil))) pa_nil))) (pss_one (ps_ret (pe_tup (pa_cons (pv 2) (pa_cons (pk_prop (pv 2) T.clT T.pSize G_Text_size (hr.mono (by omega))) pa_nil))))))), ?_⟩
    cases o with
    | st y =>
      obtain ⟨hgo, hle⟩ := hok
      have hst : SqT K H a (stV y) := ha
      have hres : res1 st (.st y) = (sz (st ++ [y]) : Nat) := rfl
      have hrun : run1 st (.st y) = st ++ [y] := rfl
      rw [hres, hrun] at q
      have ha0 := ha
      cases y with
      | wr l =>
        have ha : SqT K H a [.str "write", .str (sL l)] := ha
        obtain ⟨dx_x, ts_x, sp_x, as_x, ss_x, hx_x, hts_x, hst_x, hsp_x, hss_x⟩ := t.obj
        have hty_x := typed_small t
        have hnk_x := text_nk t
        have hg_x := t.good
        refine ⟨_, rfl, (.inr (.inl ⟨_, _, _, _, rfl, rfl, ha, rfl, (.inl ⟨rfl, _, rfl, ?_⟩)⟩))⟩
        refine iF (by decide +kernel) ?_
        refine ⟨rfl, _, rfl, _, _, _, rfl, hx_x, _, _, rfl, t, fun ts as h h1 => ?_⟩
        have hsn : StepsAt K H (as ++ [a]) (st ++ [.wr l]) := h1.snoc hst
        have hal := h1.len
        have hll : ((as.map V.ref) ++ [V.ref a]).length ≤ 100 := by rw [List.length_append, List.length_map]; simp; omega
        have hl2 : (st ++ [Stp.wr l]).length ≤ 30 := by simp; omega
        clear h1 hst_x
        refine ⟨_, _, rfl, .inl h, ?_⟩
        refine ⟨_, rfl, (by exact small_ok (by omega)), fun p n => ?_⟩
        have ne_x_p := ne_of_none hx_x n
        generalize hE : upd H p _ = H1
        have s1 : Same H H1 := hE ▸ same_upd n
        have e_p := (congrFun hE p).symm.trans upd_same
        clear hE
        have e_p2 : H1 p = some (.lst ((as ++ [a]).map V.ref)) := by rw [e_p, List.map_append]; rfl
        clear e_p
        refine ⟨_, _, _, rfl, e_p2, (StepsAt.same hsn s1), hgo, (by omega), fun x1 H2 n1 s2 t1 => ?_⟩
        have ne_x_x1 := ne_of_none (s1 _ _ hx_x) n1
        have ne_p_x1 := ne_of_none e_p2 n1
        obtain ⟨dx_x1, ts_x1, sp_x1, as_x1, ss_x1, hx_x1, hts_x1, hst_x1, hsp_x1, hss_x1⟩ := t1.obj
        have hty_x1 := typed_small t1
        have hnk_x1 := text_nk t1
        have hg_x1 := t1.good
        refine ⟨_, rfl, _, rfl, _, _, _, rfl, hx_x1, _, _, rfl, t1, (by (show 2 ≤ _; decide)), fun p1 n2 => ?_⟩
        have ne_x_p1 := ne_of_none ((s1.trans s2) _ _ hx_x) n2
        have ne_p_p1 := ne_of_none (s2 _ _ e_p2) n2
        have ne_x1_p1 := ne_of_none hx_x1 n2
        generalize hE : upd H2 p1 _ = H11
        have s3 : Same H2 H11 := hE ▸ same_upd n2
        have e_p1 := (congrFun hE p1).symm.trans upd_same
        clear hE
        exact q _ _ _ ((s1.trans s2).free n2) ((s1.trans s2).trans s3) e_p1 (TextAt.same t1 s3)
      | pa f0 l0 t0 =>
        have ha : SqT K H a [.str "paste", .int f0, .int l0, .int t0] := ha
        obtain ⟨dx_x, ts_x, sp_x, as_x, ss_x, hx_x, hts_x, hst_x, hsp_x, hss_x⟩ := t.obj
        have hty_x := typed_small t
        have hnk_x := text_nk t
        have hg_x := t.good
        refine ⟨_, rfl, (.inr (.inl ⟨_, _, _, _, rfl, rfl, ha, rfl, (.inl ⟨rfl, _, rfl, ?_⟩)⟩))⟩
        refine iF (by decide +kernel) ?_
        refine ⟨rfl, _, rfl, _, _, _, rfl, hx_x, _, _, rfl, t, fun ts as h h1 => ?_⟩
        have hsn : StepsAt K H (as ++ [a]) (st ++ [.pa f0 l0 t0]) := h1.snoc hst
        have hal := h1.len
        have hll : ((as.map V.ref) ++ [V.ref a]).length ≤ 100 := by rw [List.length_append, List.length_map]; simp; omega
        have hl2 : (st ++ [Stp.pa f0 l0 t0]).length ≤ 30 := by simp; omega
        clear h1 hst_x
        refine ⟨_, _, rfl, .inl h, ?_⟩
        refine ⟨_, rfl, (by exact small_ok (by omega)), fun p n => ?_⟩
        have ne_x_p := ne_of_none hx_x n
        generalize hE : upd H p _ = H1
        have s1 : Same H H1 := hE ▸ same_upd n
        have e_p := (congrFun hE p).symm.trans upd_same
        clear hE
        have e_p2 : H1 p = some (.lst ((as ++ [a]).map V.ref)) := by rw [e_p, List.map_append]; rfl
        clear e_p
        refine ⟨_, _, _, rfl, e_p2, (StepsAt.same hsn s1), hgo, (by omega), fun x1 H2 n1 s2 t1 => ?_⟩
        have ne_x_x1 := ne_of_none (s1 _ _ hx_x) n1
        have ne_p_x1 := ne_of_none e_p2 n1
        obtain ⟨dx_x1, ts_x1, sp_x1, as_x1, ss_x1, hx_x1, hts_x1, hst_x1, hsp_x1, hss_x1⟩ := t1.obj
        have hty_x1 := typed_small t1
        have hnk_x1 := text_nk t1
        have hg_x1 := t1.good
        refine ⟨_, rfl, _, rfl, _, _, _, rfl, hx_x1, _, _, rfl, t1, (by (show 2 ≤ _; decide)), fun p1 n2 => ?_⟩
        have ne_x_p1 := ne_of_none ((s1.trans s2) _ _ hx_x) n2
        have ne_p_p1 := ne_of_none (s2 _ _ e_p2) n2
        have ne_x1_p1 := ne_of_none hx_x1 n2
        generalize hE : upd H2 p1 _ = H11
        have s3 : Same H2 H11 := hE ▸ same_upd n2
        have e_p1 := (congrFun hE p1).symm.trans upd_same
        clear hE
        exact q _ _ _ ((s1.trans s2).free n2) ((s1.trans s2).trans s3) e_p1 (TextAt.same t1 s3)
    | re p c =>
      have ha : SqT K H a [.str "retype", .int (p : Nat), .str (sL [c])] := ha
      obtain ⟨hp, hc⟩ := hok
      obtain ⟨dx_x, ts_x, sp_x, as_x, ss_x, hx_x, hts_x, hst_x, hsp_x, hss_x⟩ := t.obj
      have hty_x := typed_small t
      have hnk_x := text_nk t
      have hg_x := t.good
      refine ⟨_, rfl, (.inr (.inl ⟨_, _, _, _, rfl, rfl, ha, rfl, (.inl ⟨rfl, _, rfl, ?_⟩)⟩))⟩
      refine iT (sT rfl) ?_
      refine ⟨_, rfl, _, rfl, (.inr (.inl ⟨_, _, _, _, rfl, rfl, ha, rfl, _, rfl, (.inr (.inl ⟨_, _, _, _, rfl, rfl, ha, rfl, _, _, _, _, rfl, t, (by omega), hc, fun t1 y H2 n s1 e t2 => ?_⟩))⟩))⟩
      have ne_x_t1 := ne_of_none hx_x n
      obtain ⟨dx_y, ts_y, sp_y, as_y, ss_y, hx_y, hts_y, hst_y, hsp_y, hss_y⟩ := t2.obj
      have hty_y := typed_small t2
      have hnk_y := text_nk t2
      have hg_y := t2.good
      exact q _ _ _ n s1 e t2
end
end KL
namespace KL
open PySem PySem.Spec PyProof.Rows L2 Pk He
abbrev CLo (K : Fr) : Addr := ga K "Log"
abbrev CEd (K : Fr) : Addr := ga K "Editor"
def loF (tl ol : Addr) (d : Int) : List (Str × V) := [("texts", .ref tl), ("operations", .ref ol), ("done", .int d)]
/-- the log of an editor at l: its operations, the texts between them, how many are in effect; its lists are none of N -/
structure LogAt (K : Fr) (H : Hp) (l : Addr) (N : List Addr) (ops : List Op) (sts : List (List Stp)) (d : Nat) : Prop where
  obj : ∃ dx tl ol xs as, H l = some (.ins (CLo K) dx (loF tl ol d)) ∧ H tl = some (.lst (xs.map V.ref)) ∧ H ol = some (.lst (as.map V.ref)) ∧ TxsAt K H xs sts ∧ OpsAt K H as ops ∧ (∀ r ∈ N, tl ≠ r ∧ ol ≠ r)
  len : sts.length = ops.length + 1
  few : ops.length ≤ 1000
  done : d ≤ ops.length
theorem LogAt.same {K : Fr} {H H2 : Hp} {l : Addr} {N : List Addr} {ops : List Op} {sts : List (List Stp)} {d : Nat} (h : LogAt K H l N ops sts d) (s : Same H H2) : LogAt K H2 l N ops sts d := by
  obtain ⟨dx, tl, ol, xs, as, h1, h2, h3, h4, h5, h6⟩ := h.obj
  exact ⟨⟨dx, tl, ol, xs, as, s _ _ h1, s _ _ h2, s _ _ h3, h4.same s, h5.same s, h6⟩, h.len, h.few, h.done⟩
/-- the texts behind operations -/
def runs (st : List Stp) : List Op → List (List Stp)
  | [] => []
  | o :: r => run1 st o :: runs (run1 st o) r
def ress (st : List Stp) : List Op → List Int
  | [] => []
  | o :: r => res1 st o :: ress (run1 st o) r
def fins (st : List Stp) : List Op → List Stp
  | [] => st
  | o :: r => fins (run1 st o) r
def okOps (st : List Stp) : List Op → Prop
  | [] => True
  | o :: r => okOp st o ∧ okOps (run1 st o) r
theorem runs_len (st : List Stp) : ∀ ops : List Op, (runs st ops).length = ops.length
  | [] => rfl
  | o :: r => congrArg (· + 1) (runs_len (run1 st o) r)
theorem runs_app : ∀ (st : List Stp) (a b : List Op), runs st (a ++ b) = runs st a ++ runs (fins st a) b
  | st, [], b => rfl
  | st, o :: r, b => congrArg (run1 st o :: ·) (runs_app (run1 st o) r b)
theorem ress_app : ∀ (st : List Stp) (a b : List Op), ress st (a ++ b) = ress st a ++ ress (fins st a) b
  | st, [], b => rfl
  | st, o :: r, b => congrArg (res1 st o :: ·) (ress_app (run1 st o) r b)
theorem fins_app : ∀ (st : List Stp) (a b : List Op), fins st (a ++ b) = fins (fins st a) b
  | st, [], b => rfl
  | st, o :: r, b => fins_app (run1 st o) r b
theorem okOps_app : ∀ (st : List Stp) (a b : List Op), okOps st (a ++ b) ↔ okOps st a ∧ okOps (fins st a) b
  | st, [], b => ⟨fun h => ⟨trivial, h⟩, fun h => h.2⟩
  | st, o :: r, b => ⟨fun h => let ⟨h1, h2⟩ := (okOps_app (run1 st o) r b).mp h.2; ⟨⟨h.1, h1⟩, h2⟩, fun h => ⟨h.1.1, (okOps_app (run1 st o) r b).mpr ⟨h.1.2, h.2⟩⟩⟩
theorem put_l1 (a : V) : putF "texts" a ([] : List (Str × V)) = ([("texts", a)] : List (Str × V)) := rfl
theorem put_l2 (a b : V) : putF "operations" b ([("texts", a)] : List (Str × V)) = ([("texts", a), ("operations", b)] : List (Str × V)) := (putF_new (f := "operations") (ns := ["texts"]) rfl (by decide +kernel)).trans rfl
theorem put_l3 (a b c : V) : putF "done" c ([("texts", a), ("operations", b)] : List (Str × V)) = ([("texts", a), ("operations", b), ("done", c)] : List (Str × V)) := (putF_new (f := "done") (ns := ["texts", "operations"]) rfl (by decide +kernel)).trans rfl
theorem runs_last : ∀ (A : List (List Stp)) (st : List Stp) (ops : List Op), ∃ B, (A ++ [st]) ++ runs st ops = B ++ [fins st ops]
  | A, st, [] => ⟨A, List.append_nil _⟩
  | A, st, o :: r => by
    obtain ⟨B, h⟩ := runs_last (A ++ [st]) (run1 st o) r
    refine ⟨B, Eq.trans ?_ h⟩
    show A ++ [st] ++ (run1 st o :: runs (run1 st o) r) = A ++ [st] ++ [run1 st o] ++ runs (run1 st o) r
    simp
theorem TxsAt.last {K : Fr} {H : Hp} {xs : List Addr} {B : List (List Stp)} {b : List Stp} (h : TxsAt K H xs (B ++ [b])) : ∃ x, atI (xs.map V.ref) (-1) = some (.ref x) ∧ TA_ K H x b := by
  obtain ⟨x, h1, h2⟩ := h.at_ B.length b (by rw [List.getElem?_append_right (Nat.le_refl _), Nat.sub_self]; rfl)
  refine ⟨x, ?_, h2⟩
  have hl := h.len
  rw [List.length_append] at hl
  obtain ⟨r, y, e⟩ : ∃ r y, xs = r ++ [y] := snoc_of (by intro z; rw [z] at hl; simp at hl)
  subst e
  have hr : r.length = B.length := by simp at hl; exact hl
  rw [List.getElem?_append_right (by omega), hr, Nat.sub_self] at h1
  cases h1
  rw [List.map_append]
  exact atI_last
theorem TxsAt.take {K : Fr} {H : Hp} {xs : List Addr} {ts : List (List Stp)} (h : TxsAt K H xs ts) (k : Nat) : TxsAt K H (xs.take k) (ts.take k) := by
  refine ⟨by rw [List.length_take, List.length_take, h.len], fun i x hx => ?_⟩
  have hi : i < k := by
    have := (List.getElem?_eq_some_iff.mp hx).1
    rw [List.length_take] at this
    omega
  rw [List.getElem?_take_of_lt hi] at hx ⊢
  exact h.at_ i x hx
theorem OpsAt.take {K : Fr} {H : Hp} {as : List Addr} {ops : List Op} (h : OpsAt K H as ops) (k : Nat) : OpsAt K H (as.take k) (ops.take k) := by
  refine ⟨by rw [List.length_take, List.length_take, h.len], fun i x hx => ?_⟩
  have hi : i < k := by
    have := (List.getElem?_eq_some_iff.mp hx).1
    rw [List.length_take] at this
    omega
  rw [List.getElem?_take_of_lt hi] at hx ⊢
  exact h.at_ i x hx
theorem OpsAt.app {K : Fr} {H : Hp} {as bs : List Addr} {a b : List Op} (h : OpsAt K H as a) (g : OpsAt K H bs b) : OpsAt K H (as ++ bs) (a ++ b) := by
  refine ⟨by rw [List.length_append, List.length_append, h.len, g.len], fun i x hx => ?_⟩
  by_cases hi : i < a.length
  · rw [List.getElem?_append_left hi] at hx
    rw [List.getElem?_append_left (by rw [h.len]; exact hi)]
    exact h.at_ i x hx
  · rw [List.getElem?_append_right (by omega)] at hx
    rw [List.getElem?_append_right (by rw [h.len]; omega), h.len]
    exact g.at_ _ x hx
theorem ress_len (st : List Stp) : ∀ ops : List Op, (ress st ops).length = ops.length
  | [] => rfl
  | o :: r => congrArg (· + 1) (ress_len (run1 st o) r)
def spLogInit (K : Fr) : Sp := fun vs H Q _ => ∃ (l dx tl ol : Addr) (d : Int), vs = [.ref l, .ref tl, .ref ol, .int d] ∧ H l = some (.ins (CLo K) dx []) ∧ ∀ H2, But l H H2 → H2 l = some (.ins (CLo K) dx (loF tl ol d)) → Q .non H2
/-- what comes back: the new log and the list of results -/
def spAfter (K : Fr) : Sp := fun vs H Q _ => ∃ (l t : Addr) (N : List Addr) (ops : List Op) (sts : List (List Stp)) (d : Nat) (as : List Addr) (new : List Op) (st : List Stp), vs = [.ref l, .ref t] ∧ LogAt K H l N ops sts d ∧ (∀ r ∈ N, ∃ o, H r = some o) ∧
  SqT K H t (as.map V.ref) ∧ OpsAt K H as new ∧ sts[d]? = some st ∧ okOps st new ∧ d + new.length ≤ 1000 ∧
  ∀ (p l2 rl : Addr) H2, H p = none → Same H H2 → H2 p = some (.tup [.ref l2, .ref rl]) → H2 rl = some (.lst ((ress st new).map V.int)) → H rl = none →
    (new = [] → l2 = l) → (new ≠ [] → LogAt K H2 l2 N (ops.take d ++ new) (sts.take (d + 1) ++ runs st new) (d + new.length)) → Q (.ref p) H2
section
variable {P : Program} {w : World} {K : Fr} {mg : Str → Option Value} {base : Heap} {f : Addr}
theorem ok_Log_init (D : Df K "__init__" "Log.__init__" s_Log_init (ma K (ga K "Log") "__init__")) (T : Tc w K mg) : Kp P w K mg base 2 (ma K (ga K "Log") "__init__") (spLogInit K) := by
  refine kp_of D sc_Log_init (fun _ _ _ _ _ _ us hl => match us, hl with | [_, _, _, _], _ => rfl) ?_ (fun cdv A outer s H vs Q E hr h => ?_)
  · rintro vs H Q E ⟨l, dx, tl, ol, d, rfl, _⟩
    rfl
  · obtain ⟨l, dx, tl, ol, d, rfl, hl, q⟩ := h
    refine ⟨_, (pss_cons (ps_fld (pv 0) (pv 1) rfl) (pss_cons (ps_fld (pv 0) (pv 2) rfl) (pss_one (ps_fld (pv 0) (pv 3) rfl)))), ?_⟩
    refine ⟨_, rfl, _, rfl, _, _, _, _, rfl, hl, T.clLog, T.n_Log_texts, (by (show 0 < _; decide)), ?_⟩
    rw [put_l1]
    generalize hE : upd H l _ = H1
    have b : But l H H1 := hE ▸ but_upd
    have e_l := (congrFun hE l).symm.trans upd_same
    clear hE
    refine ⟨_, rfl, _, rfl, _, _, _, _, rfl, e_l, T.clLog, T.n_Log_operations, (by (show 1 < _; decide)), ?_⟩
    rw [put_l2]
    generalize hE : upd H1 l _ = H11
    have b1 : But l H1 H11 := hE ▸ but_upd
    have e_l1 := (congrFun hE l).symm.trans upd_same
    clear hE
    refine ⟨_, rfl, _, rfl, _, _, _, _, rfl, e_l1, T.clLog, T.n_Log_done, (by (show 2 < _; decide)), ?_⟩
    rw [put_l3]
    generalize hE : upd H11 l _ = H12
    have b2 : But l H11 H12 := hE ▸ but_upd
    have e_l2 := (congrFun hE l).symm.trans upd_same
    clear hE
    exact q _ ((b.trans b1).trans b2) e_l2
-- hint: pi:added => pi_tup
theorem ok_Log_after (D : Df K "after" "Log.after" s_Log_after (ma K (ga K "Log") "after")) (T : Tc w K mg) (G_check_operations : Kp P w K mg base 4 (ga K "check_operations") (spCheckOps K)) (G_executed : Kp P w K mg base 14 (ga K "executed") (spExec K)) (G_Log_init : Kp P w K mg base 2 (ma K (ga K "Log") "__init__") (spLogInit K)) : Kp P w K mg base 18 (ma K (ga K "Log") "after") (spAfter K) := by
  refine kp_of D sc_Log_after (fun _ _ _ _ _ _ us hl => match us, hl with | [_, _], _ => rfl) ?_ (fun cdv A outer s H vs Q E hr h => ?_)
  · rintro vs H Q E ⟨l, t, N, ops, sts, d, as, new, st, rfl, _⟩
    rfl
  · obtain ⟨l, t, N, ops, sts, d, as, new, st, rfl, hlog, hN, ht, has, hst, hok, hd, q⟩ := h
    obtain ⟨dx, tl, ol, xs, as0, hl, htl, hol, htx, hop, hne⟩ := hlog.obj
    have hal := has.len
    have hll := hlog.len
    have hfew := hlog.few
    have hdn := hlog.done
    have hxl := htx.len
    refine ⟨_, (pss_cons (ps_expr (pk_call G_check_operations (hr.mono (by omega)) T.g_check_operations (pa_cons (pv 1) pa_nil))) (pss_cons (ps_if (pt_cmpR (eqB K hr.units) (pk_b1 (lenA K) T.len b_len (pv 1)) pe_int (nomark _)) (pss_one (ps_ret (pe_tup (pa_cons (pv 0) (pa_cons (pe_lst pa_nil) pa_nil))))) pss_nil) (pss_cons (ps_set (i := 2) sc_Log_after.nd rfl (Or.inl rfl) (pe_slice (slA K) (fldK K (pv 0)) po_none (po_some (pe_op (addA K) (fldK K (pv 0)) pe_int)))) (pss_cons (ps_set (i := 3) sc_Log_after.nd rfl (Or.inl rfl) (pe_lst pa_nil)) (pss_cons (ps_for PassesOwn.never rfl (pi_tup (pv 1)) (pg_name (i := 4) sc_Log_after.nd rfl (Or.inl rfl)) (pss_cons (ps_asg (pk_call G_executed (hr.mono (by omega)) T.g_executed (pa_cons (pe_ix (ixS K) (pv 2) (pe_un un_neg pe_int) (fun _ _ => rfl)) (pa_cons (pv 4) pa_nil))) (pg_tup rfl (pgs_cons (pg_name (i := 5) sc_Log_after.nd rfl (Or.inl rfl)) (pgs_cons (pg_name (i := 6) sc_Log_after.nd rfl (Or.inl rfl)) pgs_nil)))) (pss_cons (ps_expr (pe_bm PySem.F.plainAttrs_list PySem.F.slot_list_append PySem.F.type_list_append mt_append (pv 2) (pa_cons (pv 5) pa_nil))) (pss_one (ps_expr (pe_bm PySem.F.plainAttrs_list PySem.F.slot_list_append PySem.F.type_list_append mt_append (pv 3) (pa_cons (pv 6) pa_nil))))))) (pss_cons (ps_set (i := 7) sc_Log_after.nd rfl (Or.inl rfl) (pe_lst (StX.pa_star (pe_slice (slA K) (fldK K (pv 0)) po_none (po_some (fldK K (pv 0)))) (StX.pa_star (pv 1) pa_nil)))) (pss_one (ps_ret (pe_tup (pa_cons (StX.pe_makeR T.mkLog G_Log_init.fnR (hr.mono (by omega)) rfl T.g_Log pass0 (pa_cons (pv 2) (pa_cons (pv 7) (pa_cons (pk_b1 (lenA K) T.len b_len (pv 7)) pa_nil)))) (pa_cons (pv 3) pa_nil))))))))))), ?_⟩
    refine ⟨_, rfl, _, _, _, rfl, ht, has, (by omega), fun H2 s1 => ?_⟩
    refine ⟨_, rfl, (.inr (.inl ⟨_, _, rfl, (.inr (same_sqT s1 ht)), (.inl ⟨rfl, _, rfl, ?_⟩)⟩))⟩
    by_cases hnew : new = []
    · subst hnew
      have has0 : as = [] := List.eq_nil_of_length_eq_zero (by simpa using hal)
      subst has0
      refine iT (vT rfl) ?_
      have q2 := fun p l2 rl H2 h1 h2 h3 h4 h5 h6 => q p l2 rl H2 h1 h2 h3 h4 h5 (fun _ => h6) fun z => absurd rfl z
      clear q
      refine ⟨_, rfl, (by (show 0 ≤ _; decide)), fun p n => ?_⟩
      have ne_l_p := ne_of_none (s1 _ _ hl) n
      have ne_tl_p := ne_of_none (s1 _ _ htl) n
      have ne_ol_p := ne_of_none (s1 _ _ hol) n
      generalize hE : upd H2 p _ = H1
      have s2 : Same H2 H1 := hE ▸ same_upd n
      have e_p := (congrFun hE p).symm.trans upd_same
      clear hE
      refine ⟨(by (show 2 ≤ _; decide)), fun p1 n1 => ?_⟩
      have ne_l_p1 := ne_of_none ((s1.trans s2) _ _ hl) n1
      have ne_tl_p1 := ne_of_none ((s1.trans s2) _ _ htl) n1
      have ne_ol_p1 := ne_of_none ((s1.trans s2) _ _ hol) n1
      have ne_p_p1 := ne_of_none e_p n1
      generalize hE : upd H1 p1 _ = H11
      have s3 : Same H1 H11 := hE ▸ same_upd n1
      have e_p1 := (congrFun hE p1).symm.trans upd_same
      clear hE
      exact q2 _ _ _ _ ((s1.trans s2).free n1) ((s1.trans s2).trans s3) e_p1 (s3 _ _ e_p) (s1.free n) rfl
    · have hpos : 0 < new.length := List.length_pos_iff.mpr hnew
      refine iF (vF (by rw [List.length_map]; omega)) ?_
      refine ⟨_, rfl, _, _, _, _, _, rfl, (s1 _ _ hl), T.clLog, T.n_Log_texts, rfl, _, rfl, _, _, _, _, _, rfl, (s1 _ _ hl), T.clLog, T.n_Log_done, rfl, (.inl ⟨_, _, rfl, rfl, _, rfl, (.inl ⟨_, _, rfl, (SqL.of (s1 _ _ htl)), fun p n => ?_⟩)⟩)⟩
      have ne_l_p := ne_of_none (s1 _ _ hl) n
      have ne_tl_p := ne_of_none (s1 _ _ htl) n
      have ne_ol_p := ne_of_none (s1 _ _ hol) n
      generalize hE : upd H2 p _ = H1
      have s2 : Same H2 H1 := hE ▸ same_upd n
      have e_p := (congrFun hE p).symm.trans upd_same
      clear hE
      refine ⟨(by (show 0 ≤ _; decide)), fun p1 n1 => ?_⟩
      have ne_l_p1 := ne_of_none ((s1.trans s2) _ _ hl) n1
      have ne_tl_p1 := ne_of_none ((s1.trans s2) _ _ htl) n1
      have ne_ol_p1 := ne_of_none ((s1.trans s2) _ _ hol) n1
      have ne_p_p1 := ne_of_none e_p n1
      refine ⟨_, rfl, ?_⟩
      generalize hσ : List.set _ _ _ = σ1
      simp only [L2.start, List.set_cons_zero, List.set_cons_succ, List.map_cons, List.map_nil, List.length_cons, List.length_nil, List.replicate_succ, List.replicate_zero, List.cons_append, List.nil_append, Nat.reduceAdd, Nat.reduceSub] at hσ
      subst hσ
      refine ⟨_, rfl, ⟨_, (same_sqT (same_own (s1.trans s2) ((s1.trans s2).free n1)) ht)⟩, ?_⟩
      have sH1 : Same H H1 := by
        exact (s1.trans s2)
      have n0 : H p = none := by
        exact (s1.free n)
      have ept : H1 p = some (.lst ((xs.take (d + 1)).map V.ref)) := by
        rw [e_p]
        exact congrArg (fun z => some (HO.lst z)) (cut_refs xs (d + 1))
      clear e_p
      have hxs1 : TxsAt K H1 (xs.take (d + 1)) (sts.take (d + 1)) := (htx.take (d + 1)).same sH1
      have hpn : p1 ≠ p := ne_p_p1.symm
      have hsd : sts.take (d + 1) = sts.take d ++ [st] := take_succ hst
      have hsl : (sts.take (d + 1)).length = d + 1 := by rw [List.length_take]; omega
      have bM : But p H1 (upd H1 p1 (.lst [])) := Same.but (same_upd n1)
      refine for_tup (xs := as.map V.ref) (fun i σ H3 => ∃ (v4 v5 v6 v7 : Option V) (xs3 : List Addr), σ = [some (.ref l), some (.ref t), some (.ref p), some (.ref p1), v4, v5, v6, v7] ∧ Same H H3 ∧ H3 p = some (.lst (xs3.map V.ref)) ∧ H3 p1 = some (.lst ((ress st (new.take i)).map V.int)) ∧ TxsAt K H3 xs3 (sts.take (d + 1) ++ runs st (new.take i)))
        ⟨none, none, none, none, xs.take (d + 1), rfl, sH1.trans (same_upd n1), by rw [upd_ne ne_p_p1]; exact ept, upd_same, by rw [List.take_zero]; show TxsAt K _ _ (_ ++ []); rw [List.append_nil]; exact hxs1.same (same_upd n1)⟩ (fun i σ H3 _ ⟨_, _, _, _, _, _, s, _⟩ => same_sqT s ht) ?_ ?_
      · rintro i u σ H3 hu ⟨v4, v5, v6, v7, xs3, rfl, s3, hp3, hr3, hx3⟩
        obtain ⟨B, hB⟩ := runs_last (sts.take d) st (new.take i)
        rw [← hsd] at hB
        have hi : i < new.length := by
          have := (List.getElem?_eq_some_iff.mp hu).1
          rw [List.length_map] at this
          omega
        obtain ⟨a, ha, hsq⟩ := has.at_ i _ (List.getElem?_eq_getElem hi)
        rw [List.getElem?_map, ha] at hu
        cases hu
        have hlen3 := hx3.len
        rw [List.length_append, runs_len, hsl, List.length_take] at hlen3
        have hx4 := hx3
        rw [hB] at hx4
        obtain ⟨x, hax, tx⟩ := hx4.last
        have htk : new.take (i + 1) = new.take i ++ [new[i]] := take_succ (List.getElem?_eq_getElem hi)
        have hok2 : okOp (fins st (new.take i)) new[i] := by
          have e2 : new = new.take (i + 1) ++ new.drop (i + 1) := (List.take_append_drop _ _).symm
          rw [e2, htk, okOps_app, okOps_app] at hok
          exact hok.1.2.1
        have hsq3 : SqT K H3 a (opV new[i]) := same_sqT s3 hsq
        have hrl : ((ress st (new.take i)).map V.int).length ≤ 1000 := by rw [List.length_map, ress_len, List.length_take]; omega
        have hxl3 : (xs3.map V.ref).length ≤ 1100 := by rw [List.length_map]; omega
        obtain ⟨dx_x, ts_x, sp_x, as_x, ss_x, hx_x, hts_x, hst_x, hsp_x, hss_x⟩ := tx.obj
        have hty_x := typed_small tx
        have hnk_x := text_nk tx
        have hg_x := tx.good
        refine ⟨_, rfl, _, rfl, (.inl ⟨_, _, _, _, rfl, rfl, (SqL.of hp3), hax, _, rfl, _, _, _, _, rfl, tx, hsq3, hok2, fun t1 y H21 n2 s4 e t2 => ?_⟩)⟩
        have ne_l_t1 := ne_of_none (s3 _ _ hl) n2
        have ne_tl_t1 := ne_of_none (s3 _ _ htl) n2
        have ne_ol_t1 := ne_of_none (s3 _ _ hol) n2
        have ne_p_t1 := ne_of_none hp3 n2
        have ne_p1_t1 := ne_of_none hr3 n2
        have ne_x_t1 := ne_of_none hx_x n2
        obtain ⟨dx_y, ts_y, sp_y, as_y, ss_y, hx_y, hts_y, hst_y, hsp_y, hss_y⟩ := t2.obj
        have hty_y := typed_small t2
        have hnk_y := text_nk t2
        have hg_y := t2.good
        refine ⟨_, _, rfl, (SqT.of e), rfl, _, _, rfl, _, _, rfl, rfl, _, rfl, (.inl ⟨rfl, ⟨_, (SqL.of (s4 _ _ hp3))⟩⟩), _, rfl, _, _, _, rfl, rfl, (s4 _ _ hp3), (by exact small_ok (by omega)), ?_⟩
        generalize hE : upd H21 p _ = H11
        have b : But p H21 H11 := hE ▸ but_upd
        have s5 : Same H H11 := hE ▸ same_own (s3.trans s4) n0
        have e_p := (congrFun hE p).symm.trans upd_same
        clear hE
        generalize hσ : List.set _ _ _ = σ1
        simp only [L2.start, List.set_cons_zero, List.set_cons_succ, List.map_cons, List.map_nil, List.length_cons, List.length_nil, List.replicate_succ, List.replicate_zero, List.cons_append, List.nil_append, Nat.reduceAdd, Nat.reduceSub] at hσ
        subst hσ
        refine ⟨_, rfl, (.inl ⟨rfl, ⟨_, (SqL.of (b _ _ hpn (s4 _ _ hr3)))⟩⟩), _, rfl, _, _, _, rfl, rfl, (b _ _ hpn (s4 _ _ hr3)), (by exact small_ok (by omega)), ?_⟩
        generalize hE : upd H11 p1 _ = H12
        have b1 : But p1 H11 H12 := hE ▸ but_upd
        have s6 : Same H H12 := hE ▸ same_own s5 (sH1.free n1)
        have e_p1 := (congrFun hE p1).symm.trans upd_same
        clear hE
        have hr2 : ress st (new.take (i + 1)) = ress st (new.take i) ++ [res1 (fins st (new.take i)) new[i]] := by rw [htk, ress_app]; rfl
        have hs2 : runs st (new.take (i + 1)) = runs st (new.take i) ++ [run1 (fins st (new.take i)) new[i]] := by rw [htk, runs_app]; rfl
        have ty2 : TA_ K H21 y (run1 (fins st (new.take i)) new[i]) := by
          exact t2
        have hp21 : H21 p = some (.lst (xs3.map V.ref)) := by
          exact (s4 _ _ hp3)
        have hr11 : H11 p1 = some (.lst ((ress st (new.take i)).map V.int)) := by
          exact (b _ _ hpn (s4 _ _ hr3))
        have hx21 : TxsAt K H21 xs3 (sts.take (d + 1) ++ runs st (new.take i)) := by
          exact (hx3.same s4)
        refine ⟨_, _, _, _, xs3 ++ [y], rfl, s6, ?_, ?_, ?_⟩
        · rw [List.map_append]
          exact b1 _ _ ne_p_p1 e_p
        · rw [hr2, List.map_append]
          exact e_p1
        · rw [hs2, ← List.append_assoc]
          exact (hx21.butL hp21 b |>.butL hr11 b1).snoc (text_butL hr11 b1 (text_butL hp21 b ty2))
      · rintro σ H3 ⟨v4, v5, v6, v7, xs3, rfl, s3, hp3, hr3, hx3⟩
        have hnt : new.take (as.map V.ref).length = new := by rw [List.length_map, hal, List.take_length]
        rw [hnt] at hr3 hx3
        have hlc : (cutV (as0.map V.ref) none (some (d : Int)) ++ (as.map V.ref ++ [])).length ≤ 3000 := by
          rw [cut_refs, List.append_nil, List.length_append, List.length_map, List.length_map, List.length_take]
          omega
        refine ⟨_, rfl, _, _, _, _, _, rfl, (s3 _ _ hl), T.clLog, T.n_Log_operations, rfl, _, rfl, _, _, _, _, _, rfl, (s3 _ _ hl), T.clLog, T.n_Log_done, rfl, _, rfl, (.inl ⟨_, _, rfl, (SqL.of (s3 _ _ hol)), fun p2 n2 => ?_⟩)⟩
        have ne_l_p2 := ne_of_none (s3 _ _ hl) n2
        have ne_tl_p2 := ne_of_none (s3 _ _ htl) n2
        have ne_ol_p2 := ne_of_none (s3 _ _ hol) n2
        have ne_p_p2 := ne_of_none hp3 n2
        have ne_p1_p2 := ne_of_none hr3 n2
        generalize hE : upd H3 p2 _ = H11
        have s4 : Same H3 H11 := hE ▸ same_upd n2
        have e_p2 := (congrFun hE p2).symm.trans upd_same
        clear hE
        refine ⟨_, _, rfl, (.inr (SqL.of e_p2)), _, rfl, _, _, rfl, (.inl (same_sqT (s3.trans s4) ht)), (by exact small_ok (by omega)), fun p3 n3 => ?_⟩
        have ne_l_p3 := ne_of_none ((s3.trans s4) _ _ hl) n3
        have ne_tl_p3 := ne_of_none ((s3.trans s4) _ _ htl) n3
        have ne_ol_p3 := ne_of_none ((s3.trans s4) _ _ hol) n3
        have ne_p_p3 := ne_of_none (s4 _ _ hp3) n3
        have ne_p1_p3 := ne_of_none (s4 _ _ hr3) n3
        have ne_p2_p3 := ne_of_none e_p2 n3
        generalize hE : upd H11 p3 _ = H12
        have s5 : Same H11 H12 := hE ▸ same_upd n3
        have e_p3 := (congrFun hE p3).symm.trans upd_same
        clear hE
        refine ⟨_, rfl, _, rfl, _, rfl, (.inr (.inl ⟨_, _, rfl, (.inl (SqL.of e_p3)), fun x dx1 n4 n5 h => ?_⟩))⟩
        have ne_l_dx1 := ne_of_none (((s3.trans s4).trans s5) _ _ hl) n5
        have ne_tl_dx1 := ne_of_none (((s3.trans s4).trans s5) _ _ htl) n5
        have ne_ol_dx1 := ne_of_none (((s3.trans s4).trans s5) _ _ hol) n5
        have ne_p_dx1 := ne_of_none ((s4.trans s5) _ _ hp3) n5
        have ne_p1_dx1 := ne_of_none ((s4.trans s5) _ _ hr3) n5
        have ne_p2_dx1 := ne_of_none (s5 _ _ e_p2) n5
        have ne_p3_dx1 := ne_of_none e_p3 n5
        generalize hE : upd H12 dx1 _ = H13
        have s6 : Same H12 H13 := hE ▸ same_upd n5
        have e_dx1 := (congrFun hE dx1).symm.trans upd_same
        clear hE
        generalize hE : upd H13 x _ = H14
        have b : But x H13 H14 := hE ▸ but_upd
        have s7 : Same H12 H14 := hE ▸ same_own s6 n4
        have s8 : Same H11 H14 := hE ▸ same_own (s5.trans s6) (s5.free n4)
        have s9 : Same H3 H14 := hE ▸ same_own ((s4.trans s5).trans s6) ((s4.trans s5).free n4)
        have s10 : Same H H14 := hE ▸ same_own (((s3.trans s4).trans s5).trans s6) (((s3.trans s4).trans s5).free n4)
        have e_x := (congrFun hE x).symm.trans upd_same
        clear hE
        refine ⟨_, _, _, _, _, rfl, e_x, fun H21 b1 e => ?_⟩
        refine ⟨rfl, _, rfl, (by (show 2 ≤ _; decide)), fun p4 n6 => ?_⟩
        have ne_l_p4 := ne_of_none ((but_new s10 b1 (((s3.trans s4).trans s5).free n4)) _ _ hl) n6
        have ne_tl_p4 := ne_of_none ((but_new s10 b1 (((s3.trans s4).trans s5).free n4)) _ _ htl) n6
        have ne_ol_p4 := ne_of_none ((but_new s10 b1 (((s3.trans s4).trans s5).free n4)) _ _ hol) n6
        have ne_p_p4 := ne_of_none ((but_new s9 b1 ((s4.trans s5).free n4)) _ _ hp3) n6
        have ne_p1_p4 := ne_of_none ((but_new s9 b1 ((s4.trans s5).free n4)) _ _ hr3) n6
        have ne_p2_p4 := ne_of_none ((but_new s8 b1 (s5.free n4)) _ _ e_p2) n6
        have ne_p3_p4 := ne_of_none ((but_new s7 b1 n4) _ _ e_p3) n6
        have ne_x_p4 := ne_of_none e n6
        generalize hE : upd H21 p4 _ = H15
        have s11 : Same H21 H15 := hE ▸ same_upd n6
        have e_p4 := (congrFun hE p4).symm.trans upd_same
        clear hE
        have hn3 : H p3 = none := by
          exact ((s3.trans s4).free n3)
        have hn4 : H p4 = none := by
          exact ((but_new s10 b1 (((s3.trans s4).trans s5).free n4)).free n6)
        have hn1 : H p1 = none := by
          exact (sH1.free n1)
        have sF : Same H H15 := by
          exact ((but_new s10 b1 (((s3.trans s4).trans s5).free n4)).trans s11)
        refine q p4 x p1 H15 hn4 sF e_p4 ?_ hn1 (fun z => absurd z hnew) fun _ => ?_
        · exact (s11 _ _ (b1 _ _ (ne_of_none (s5 _ _ (s4 _ _ hr3)) n4) (s9 _ _ hr3)))
        · have hpF : H15 p = some (.lst (xs3.map V.ref)) := by
            exact (s11 _ _ (b1 _ _ (ne_of_none (s5 _ _ (s4 _ _ hp3)) n4) (s9 _ _ hp3)))
          have hop3 : H15 p3 = some (.lst ((as0.take d ++ as).map V.ref)) := by
            rw [List.map_append, ← cut_refs, ← List.append_nil (as.map V.ref)]
            exact (s11 _ _ (b1 _ _ (ne_of_none e_p3 n4) (s7 _ _ e_p3)))
          have hxF : TxsAt K H15 xs3 (sts.take (d + 1) ++ runs st new) := by
            exact (hx3.same ((but_new s9 b1 ((s4.trans s5).free n4)).trans s11))
          have hlF : (cutV (as0.map V.ref) none (some (d : Int)) ++ (as.map V.ref ++ [])).length = d + new.length := by
            rw [cut_refs, List.append_nil, List.length_append, List.length_map, List.length_map, List.length_take, hal, hop.len]
            omega
          refine ⟨⟨dx1, p, p3, xs3, as0.take d ++ as, ?_, hpF, hop3, hxF, ((hop.take d).app has).same sF, fun r hr => ?_⟩, ?_, ?_, ?_⟩
          · rw [← hlF]
            exact s11 _ _ e
          · obtain ⟨o, ho⟩ := hN r hr
            exact ⟨(ne_of_none ho n0).symm, (ne_of_none ho hn3).symm⟩
          · rw [List.length_append, runs_len, List.length_append, hsl, List.length_take]
            omega
          · rw [List.length_append, List.length_take]
            omega
          · rw [List.length_append, List.length_take]
            omega
end
end KL
namespace KL
open PySem PySem.Spec PyProof.Rows L2 Pk He
/-- Text( *x) -/
theorem pe_textS {X : Cx} {x : Str} {e : Expr} {te : TE} {p pos sp_ : Pos} {k : Nat} {f : Addr} (csct : CS X.K ≠ CT X.K) (M : Mk X.K (CT X.K) f) (F : FnR X.prog X.w X.K X.mg X.base CX0 k f (spInit5 X.K)) (hr : Room (k + 1) X.A) (hm : X.mg x = some (.ref (CT X.K))) (he : PE X e te) (hg : Gl X x := by rfl) (hd : (x == ("__debug__" : Str)) = false := by decide)
    (hst : starEach [.Starred e sp_] X.env = [(true, eval e X.env)] := by rfl) : PE X (.Call (.Name x p) [.Starred e sp_] [] pos) (fun σ H Q => te σ H fun y H1 => ∃ a as st, y = V.ref a ∧ (SqT X.K H1 a (as.map V.ref) ∨ SqL X.K H1 a (as.map V.ref)) ∧ StepsAt X.K H1 as st ∧ Goes most 0 st ∧ st.length ≤ 30 ∧
      ∀ z H2, H1 z = none → Same H1 H2 → TA_ X.K H2 z st → Q (.ref z) H2) := ⟨fun pins s σ H Q I h => by
  refine wpAny_Call_Name_kw (ld_glob I hg hm ?_ hd)
  refine PySem.W.callWith_S (h₀ := X.base) I.ok.mod.kin M.kp (thn (he.run pins s σ H _ I h) fun v s1 ⟨y, H1, I1, ry, a, as, st, ey, hxs, hsa, good, few, q⟩ => ?_) hst
  subst ey
  cases ry
  exact StX.star_any I1 hxs fun us s2 I2 rv => ⟨I2.kIn, StX.run_makeR M F hr pass0 I2 rv (make_text csct hsa good few q)⟩⟩
end KL
namespace KL
open PySem PySem.Spec PyProof.Rows L2 Pk He
theorem text_butI {K : Fr} {H H2 : Hp} {r C d x : Addr} {fs : List (Str × V)} {st : List Stp} (hr : H r = some (.ins C d fs)) (n1 : CT K ≠ C) (n2 : CS K ≠ C) (b : But r H H2) (h : TA_ K H x st) : TA_ K H2 x st := by
  obtain ⟨dx, ts, sp, as, ss, h1, h2, h3, h4, h5⟩ := h.obj
  have hxr : x ≠ r := ne_of h1 hr (by intro z; injection z with z; exact n1 z)
  exact ⟨h.good, h.few, dx, ts, sp, as, ss, b _ _ hxr h1, sqT_but hr b h2, steps_but hr b h3, sqT_but hr b h4, spans_but n2 hr b h5⟩
theorem TxsAt.butI {K : Fr} {H H2 : Hp} {r C d : Addr} {fs : List (Str × V)} {xs : List Addr} {ts : List (List Stp)} (hr : H r = some (.ins C d fs)) (n1 : CT K ≠ C) (n2 : CS K ≠ C) (b : But r H H2) (h : TxsAt K H xs ts) : TxsAt K H2 xs ts := ⟨h.len, fun i st hi => let ⟨x, h1, h2⟩ := h.at_ i st hi; ⟨x, h1, text_butI hr n1 n2 b h2⟩⟩
theorem OpsAt.butI {K : Fr} {H H2 : Hp} {r C d : Addr} {fs : List (Str × V)} {as : List Addr} {ops : List Op} (hr : H r = some (.ins C d fs)) (b : But r H H2) (h : OpsAt K H as ops) : OpsAt K H2 as ops := ⟨h.len, fun i o ho => let ⟨x, h1, h2⟩ := h.at_ i o ho; ⟨x, h1, sqT_but hr b h2⟩⟩
theorem LogAt.butI {K : Fr} {H H2 : Hp} {r C dr l : Addr} {fs : List (Str × V)} {N : List Addr} {ops : List Op} {sts : List (List Stp)} {d : Nat} (hr : H r = some (.ins C dr fs)) (n1 : CT K ≠ C) (n2 : CS K ≠ C) (n3 : CLo K ≠ C) (b : But r H H2) (h : LogAt K H l N ops sts d) : LogAt K H2 l N ops sts d := by
  obtain ⟨dx, tl, ol, xs, as, h1, h2, h3, h4, h5, h6⟩ := h.obj
  exact ⟨⟨dx, tl, ol, xs, as, b _ _ (ne_of h1 hr (by intro z; injection z with z; exact n3 z)) h1, b _ _ (ne_of h2 hr (by intro z; cases z)) h2, b _ _ (ne_of h3 hr (by intro z; cases z)) h3, h4.butI hr n1 n2 b, h5.butI hr b, h6⟩, h.len, h.few, h.done⟩
theorem RowAt.butI {K : Fr} {S : Addr × List Int} {H H2 : Hp} {e r C d : Addr} {fs : List (Str × V)} (he : H e = some (.ins C d fs)) (b : But e H H2) (h : RowAt K S H r) : RowAt K S H2 r := by
  obtain ⟨i, sd, hd, b1, b2, b3⟩ := h
  refine ⟨i, sd, hd, b _ _ (ne_of b1 he (by intro z; cases z)) b1, ?_, b3⟩
  rcases b2 with (h | ⟨u, h⟩) | h
  · exact .inl (.inl (b _ _ (ne_of h he (by intro z; cases z)) h))
  · exact .inl (.inr ⟨u, b _ _ (ne_of h he (by intro z; cases z)) h⟩)
  · exact .inr h
def edF (lg : Addr) : List (Str × V) := [("_log", .ref lg), ("_kept", .non)]
structure EdAt (K : Fr) (H : Hp) (e : Addr) (N : List Addr) (ops : List Op) (sts : List (List Stp)) (d : Nat) : Prop where
  obj : ∃ dx lg, H e = some (.ins (CEd K) dx (edF lg)) ∧ LogAt K H lg N ops sts d
theorem EdAt.same {K : Fr} {H H2 : Hp} {e : Addr} {N : List Addr} {ops : List Op} {sts : List (List Stp)} {d : Nat} (h : EdAt K H e N ops sts d) (s : Same H H2) : EdAt K H2 e N ops sts d := by
  obtain ⟨dx, lg, h1, h2⟩ := h.obj
  exact ⟨dx, lg, s _ _ h1, h2.same s⟩
theorem put_e1 (a : V) : putF "_log" a ([] : List (Str × V)) = ([("_log", a)] : List (Str × V)) := rfl
theorem put_e2 (a b : V) : putF "_kept" b ([("_log", a)] : List (Str × V)) = ([("_log", a), ("_kept", b)] : List (Str × V)) := (putF_new (f := "_kept") (ns := ["_log"]) rfl (by decide +kernel)).trans rfl
theorem put_e3 (lg : Addr) (a : V) : putF "_log" a (edF lg) = ([("_log", a), ("_kept", .non)] : List (Str × V)) := rfl
def spEdInit (K : Fr) : Sp := fun vs H Q _ => ∃ (e dx ts : Addr) (N : List Addr) (as : List Addr) (st : List Stp), vs = [.ref e, .ref ts] ∧ H e = some (.ins (CEd K) dx []) ∧ (∀ r ∈ N, ∃ o, H r = some o) ∧ SqT K H ts (as.map V.ref) ∧ StepsAt K H as st ∧ Goes most 0 st ∧ st.length ≤ 30 ∧
  ∀ H2, But e H H2 → EdAt K H2 e N [] [st] 0 → Q .non H2
def spStar (sp : Sp) : Sp := fun vs H Q E => ∃ ws rest, vs = ws ++ rest ∧ ws.length = ([("self" : Str)] : List Str).length ∧ rest.length ≤ sizeLine ∧ ∀ p, H p = none → sp (ws ++ [V.ref p]) (upd H p (.tup rest)) Q E
section
variable {P : Program} {w : World} {K : Fr} {mg : Str → Option Value} {base : Heap} {f : Addr}
theorem ok_Editor_init (D : Df K "__init__" "Editor.__init__" s_Editor_init (ma K (CEd K) "__init__")) (T : Tc w K mg) (G_Text_init : FnR P w K mg base CX0 5 (ma K (CT K) "__init__") (spInit5 K)) (G_Log_init : Kp P w K mg base 2 (ma K (CLo K) "__init__") (spLogInit K)) :
    FnR P w K mg base CX0 10 (ma K (CEd K) "__init__") (spStar (spEdInit K)) := by
  obtain ⟨fd, F⟩ := D
  obtain ⟨oc, od, kV, doc, pm, an, cdv, ct, osl, rfl, lk, hcd⟩ := (He5.fun_of F).ex
  refine StX.fn_star (ps := ["self"]) (pv := "steps") (sp := spEdInit K) lk hcd sc_Editor_init StX.cxUp_none (StX.bind_star1 (B := fun l => bindArgs (PySem.W.fnOf "__init__" "Editor.__init__" (defArgs s_Editor_init) (defBody s_Editor_init) (defScope s_Editor_init) .none kV doc pm an cdv ct) ⟨l, []⟩) (fun _ => rfl) fun _ _ _ => rfl) fun A outer s H vs Q E hr h => ?_
  obtain ⟨e, dx, ts, N, as, st, rfl, he, hN, hts, hst, good, few, q⟩ := h
  refine ⟨_, PSs.nox (pss_cons (ps_fld (pv 0) (StX.pe_makeR T.mkLog G_Log_init.fnR (hr.mono (by omega)) rfl T.g_Log pass0 (pa_cons (pe_lst (pa_cons (pe_textS T.csct T.mkT G_Text_init (hr.mono (by omega)) T.gText (pv 1)) pa_nil)) (pa_cons (pe_lst pa_nil) (pa_cons pe_int pa_nil)))) rfl) (pss_one (ps_fld (pv 0) pe_non rfl))), ?_⟩
  refine ⟨_, rfl, _, _, _, rfl, (.inl (same_sqT (Same.refl _) hts)), (StepsAt.same hst (Same.refl _)), good, (by omega), fun z H2 n s1 t => ?_⟩
  have ne_e_z := ne_of_none he n
  obtain ⟨dx_z, ts_z, sp_z, as_z, ss_z, hx_z, hts_z, hst_z, hsp_z, hss_z⟩ := t.obj
  have hty_z := typed_small t
  have hnk_z := text_nk t
  have hg_z := t.good
  refine ⟨(by (show 1 ≤ _; decide)), fun p n1 => ?_⟩
  have ne_e_p := ne_of_none (s1 _ _ he) n1
  have ne_z_p := ne_of_none hx_z n1
  generalize hE : upd H2 p _ = H1
  have s2 : Same H2 H1 := hE ▸ same_upd n1
  have e_p := (congrFun hE p).symm.trans upd_same
  clear hE
  refine ⟨(by (show 0 ≤ _; decide)), fun p1 n2 x dx1 n3 n4 h => ?_⟩
  have ne_e_dx1 := ne_of_none ((same_own (s1.trans s2) ((s1.trans s2).free n2)) _ _ he) n4
  have ne_z_dx1 := ne_of_none ((same_own s2 (s2.free n2)) _ _ hx_z) n4
  have ne_p_dx1 := ne_of_none ((same_upd n2) _ _ e_p) n4
  refine ⟨_, _, _, _, _, rfl, upd_same, fun H21 b e1 => ?_⟩
  refine ⟨rfl, _, rfl, _, _, _, _, rfl, (b _ _ (ne_of_none (same_upd n2 _ _ (s2 _ _ (s1 _ _ he))) n3) (at_upd (ne_of_none (same_upd n2 _ _ (s2 _ _ (s1 _ _ he))) n3) (same_upd n4 _ _ (same_upd n2 _ _ (s2 _ _ (s1 _ _ he)))))), T.clEditor, T.n_Editor_log, (by (show 0 < _; decide)), ?_⟩
  rw [put_e1]
  generalize hE : upd H21 e _ = H11
  have b1 : But e H21 H11 := hE ▸ but_upd
  have e_e := (congrFun hE e).symm.trans upd_same
  clear hE
  refine ⟨_, rfl, _, _, _, _, rfl, e_e, T.clEditor, T.n_Editor_kept, (by (show 1 < _; decide)), ?_⟩
  rw [put_e2]
  generalize hE : upd H11 e _ = H12
  have b2 : But e H11 H12 := hE ▸ but_upd
  have e_e1 := (congrFun hE e).symm.trans upd_same
  clear hE
  have sA : Same H1 H21 := (same_upd n2).trans (but_new (same_own (same_upd n4) n3) b n3)
  have hxe : x ≠ e := (ne_of_none (same_upd n2 _ _ (s2 _ _ (s1 _ _ he))) n3).symm
  have bE : But e H H12 := (Same.but (s1.trans (s2.trans sA))).trans (b1.trans b2)
  have hp0 : H p = none := by
    exact (s1.free n1)
  have hp1 : H p1 = none := by
    exact ((s1.trans s2).free n2)
  have nc1 := T.ne_Text_Editor
  have nc2 := T.ne_Span_Editor
  have he21 : H21 e = some (.ins (CEd K) dx []) := by
    exact (sA _ _ (s2 _ _ (s1 _ _ he)))
  have tz21 : TA_ K H21 z st := by
    exact (TextAt.same t (s2.trans sA))
  have hp21 : H21 p = some (.lst [.ref z]) := by
    exact (sA _ _ e_p)
  have hq21 : H21 p1 = some (.lst []) := by
    exact (b _ _ (ne_of_none upd_same n3) (at_upd (ne_of_none upd_same n3) (same_upd n4 _ _ upd_same)))
  have nep : p ≠ e := ne_of hp21 he21 (by intro z; cases z)
  have neq : p1 ≠ e := ne_of hq21 he21 (by intro z; cases z)
  refine q H12 bE ⟨dx, x, e_e1, ⟨dx1, p, p1, [z], [], b2 _ _ hxe (b1 _ _ hxe e1), b2 _ _ nep (b1 _ _ nep hp21), b2 _ _ neq (b1 _ _ neq hq21), ?_, OpsAt.nil, fun r hr => ?_⟩, rfl, Nat.zero_le _, Nat.le_refl _⟩
  · exact (TxsAt.nil (K := K)).snoc (text_butI e_e nc1 nc2 b2 (text_butI he21 nc1 nc2 b1 tz21))
  · obtain ⟨o, ho⟩ := hN r hr
    exact ⟨(ne_of_none ho hp0).symm, (ne_of_none ho hp1).symm⟩
def spApply (K : Fr) : Sp := fun vs H Q _ => ∃ (e t : Addr) (N : List Addr) (ops : List Op) (sts : List (List Stp)) (d : Nat) (as : List Addr) (new : List Op) (st : List Stp), vs = [.ref e, .ref t] ∧ EdAt K H e N ops sts d ∧ (∀ r ∈ N, ∃ o, H r = some o) ∧
  SqT K H t (as.map V.ref) ∧ OpsAt K H as new ∧ sts[d]? = some st ∧ okOps st new ∧ d + new.length ≤ 1000 ∧ (new = [] → d = ops.length) ∧
  ∀ (rl : Addr) H2, H rl = none → But e H H2 → H2 rl = some (.lst ((ress st new).map V.int)) → EdAt K H2 e N (ops.take d ++ new) (sts.take (d + 1) ++ runs st new) (d + new.length) → Q (.ref rl) H2
theorem ok_Editor_apply (D : Df K "apply" "Editor.apply" s_Editor_apply (ma K (CEd K) "apply")) (T : Tc w K mg) (G_Log_after : Kp P w K mg base 18 (ma K (CLo K) "after") (spAfter K)) :
    FnR P w K mg base CX0 20 (ma K (CEd K) "apply") (spStar (spApply K)) := by
  obtain ⟨fd, F⟩ := D
  obtain ⟨oc, od, kV, doc, pm, an, cdv, ct, osl, rfl, lk, hcd⟩ := (He5.fun_of F).ex
  refine StX.fn_star (ps := ["self"]) (pv := "operations") (sp := spApply K) lk hcd sc_Editor_apply StX.cxUp_none (StX.bind_star1 (B := fun l => bindArgs (PySem.W.fnOf "apply" "Editor.apply" (defArgs s_Editor_apply) (defBody s_Editor_apply) (defScope s_Editor_apply) .none kV doc pm an cdv ct) ⟨l, []⟩) (fun _ => rfl) fun _ _ _ => rfl) fun A outer s H vs Q E hr h => ?_
  obtain ⟨e, t, N, ops, sts, d, as, new, st, rfl, hed, hN, ht, has, hst, hok, hd, hnn, q⟩ := h
  obtain ⟨dx, lg, he, hlog⟩ := hed.obj
  obtain ⟨dl, tl, ol, xs, as0, hl, hlr⟩ := hlog.obj
  clear hlr
  refine ⟨_, PSs.nox (pss_cons (ps_asg (pe_methR (fldK K (pv 0)) T.clLog T.m_Log_after G_Log_after.fnR (hr.mono (by omega)) pass0 (pa_cons (pv 1) pa_nil)) (pg_tup rfl (pgs_cons (pg_fld (pv 0)) (pgs_cons (pg_name (i := 2) sc_Editor_apply.nd rfl (Or.inl rfl)) pgs_nil)))) (pss_one (ps_ret (pv 2)))), ?_⟩
  refine ⟨_, rfl, _, _, _, _, _, rfl, he, T.clEditor, T.n_Editor_log, rfl, _, _, _, rfl, hl, rfl, _, rfl, _, _, _, _, _, _, _, _, _, rfl, hlog, hN, ht, has, hst, hok, (by omega), fun p l2 rl H2 n s1 e1 e2 n1 h h1 => ?_⟩
  have ne_e_rl := ne_of_none he n1
  have ne_lg_rl := ne_of_none hl n1
  refine ⟨_, _, rfl, (SqT.of e1), rfl, _, _, rfl, _, rfl, _, _, _, _, rfl, (s1 _ _ he), T.clEditor, T.n_Editor_log, (by (show 2 < _; decide)), ?_⟩
  rw [put_e3]
  generalize hE : upd H2 e _ = H1
  have b : But e H2 H1 := hE ▸ but_upd
  have e_e := (congrFun hE e).symm.trans upd_same
  clear hE
  refine ⟨_, _, rfl, rfl, _, rfl, ?_⟩
  have hlg2 : LogAt K H2 l2 N (ops.take d ++ new) (sts.take (d + 1) ++ runs st new) (d + new.length) := by
    by_cases hz : new = []
    · have hll := hlog.len
      subst hz
      rw [h rfl, hnn rfl, List.take_length, List.append_nil, List.take_of_length_le (by omega)]
      show LogAt K H2 lg N ops (sts ++ []) (ops.length + 0)
      rw [List.append_nil, Nat.add_zero, ← hnn rfl]
      exact hlog.same s1
    · exact h1 hz
  have he2 : H2 e = some (.ins (CEd K) dx (edF lg)) := s1 _ _ he
  exact q rl H1 n1 ((Same.but s1).trans b) (b _ _ ne_e_rl.symm e2) ⟨dx, l2, e_e, hlg2.butI he2 T.ne_Text_Editor T.ne_Span_Editor T.ne_Log_Editor b⟩
def spPresent (K : Fr) : Sp := fun vs H Q _ => ∃ (e : Addr) (N : List Addr) (ops : List Op) (sts : List (List Stp)) (d : Nat) (st : List Stp), vs = [.ref e] ∧ EdAt K H e N ops sts d ∧ sts[d]? = some st ∧ ∀ x, TA_ K H x st → Q (.ref x) H
def spHistory (K : Fr) : Sp := fun vs H Q _ => ∃ (e : Addr) (N : List Addr) (ops : List Op) (sts : List (List Stp)) (d : Nat), vs = [.ref e] ∧ EdAt K H e N ops sts d ∧ ∀ (l : Addr) (as : List Addr) H2, H l = none → Same H H2 → H2 l = some (.lst (as.map V.ref)) → OpsAt K H2 as (ops.take d) → Q (.ref l) H2
def spEdLen (K : Fr) : Sp := fun vs H Q _ => ∃ (e : Addr) (N : List Addr) (ops : List Op) (sts : List (List Stp)) (d : Nat), vs = [.ref e] ∧ EdAt K H e N ops sts d ∧ ∀ H2, Same H H2 → Q (.int d) H2
def spMoved2 (K : Fr) : Sp := fun vs H Q _ => ∃ (l : Addr) (N : List Addr) (ops : List Op) (sts : List (List Stp)) (d : Nat) (k : Int), vs = [.ref l, .int k] ∧ LogAt K H l N ops sts d ∧ 0 ≤ (d : Int) + k ∧ (d : Int) + k ≤ ops.length ∧
  ∀ l2 H2, H l2 = none → Same H H2 → LogAt K H2 l2 N ops sts ((d : Int) + k).toNat → Q (.ref l2) H2
def spUndo (K : Fr) : Sp := fun vs H Q _ => ∃ (e : Addr) (N : List Addr) (ops : List Op) (sts : List (List Stp)) (d : Nat), vs = [.ref e] ∧ EdAt K H e N ops sts d ∧ (d = 0 → Q (.bl false) H) ∧ (0 < d → ∀ H2, But e H H2 → EdAt K H2 e N ops sts (d - 1) → Q (.bl true) H2)
def spRedo (K : Fr) : Sp := fun vs H Q _ => ∃ (e : Addr) (N : List Addr) (ops : List Op) (sts : List (List Stp)) (d : Nat), vs = [.ref e] ∧ EdAt K H e N ops sts d ∧ (d = ops.length → Q (.bl false) H) ∧ (d < ops.length → ∀ H2, But e H H2 → EdAt K H2 e N ops sts (d + 1) → Q (.bl true) H2)
def spExe (K : Fr) : Sp := fun vs H Q _ => ∃ (e a : Addr) (N : List Addr) (ops : List Op) (sts : List (List Stp)) (d : Nat) (o : Op) (st : List Stp), vs = [.ref e, .ref a] ∧ EdAt K H e N ops sts d ∧ (∀ r ∈ N, ∃ o, H r = some o) ∧ SqT K H a (opV o) ∧ sts[d]? = some st ∧ okOp st o ∧ d < 1000 ∧
  ∀ H2, But e H H2 → EdAt K H2 e N (ops.take d ++ [o]) (sts.take (d + 1) ++ [run1 st o]) (d + 1) → Q (.int (res1 st o)) H2
def spRetype (K : Fr) : Sp := fun vs H Q _ => ∃ (e : Addr) (N : List Addr) (ops : List Op) (sts : List (List Stp)) (d p c : Nat) (st : List Stp), vs = [.ref e, .int (p : Nat), .str (sL [c])] ∧ EdAt K H e N ops sts d ∧ (∀ r ∈ N, ∃ o, H r = some o) ∧ sts[d]? = some st ∧ p < sz st ∧ isLet c = true ∧ d < 1000 ∧
  ∀ H2, But e H H2 → EdAt K H2 e N (ops.take d ++ [.re p c]) (sts.take (d + 1) ++ [run1 st (.re p c)]) (d + 1) → Q (.int (res1 st (.re p c))) H2
theorem ok_Editor_present_text (D : Df K "present_text" "Editor.present_text" s_Editor_present_text (pgA K (ga K "Editor") "present_text")) (T : Tc w K mg) : Kp P w K mg base 2 (pgA K (ga K "Editor") "present_text") (spPresent K) := by
  refine kp_of D sc_Editor_present_text (fun _ _ _ _ _ _ us hl => match us, hl with | [_], _ => rfl) ?_ (fun cdv A outer s H vs Q E hr h => ?_)
  · rintro vs H Q E ⟨e, N, ops, sts, d, st, rfl, _⟩
    rfl
  · obtain ⟨e, N, ops, sts, d, st, rfl, hed, hst, q⟩ := h
    obtain ⟨dx, lg, he, hlog⟩ := hed.obj
    obtain ⟨dl, tl, ol, xs, as0, hl, htl, hol, htx, hop, hne⟩ := hlog.obj
    obtain ⟨x, hx, tx⟩ := htx.at_ d st hst
    have hat : atI (xs.map V.ref) (d : Int) = some (.ref x) := atI_nat (by rw [List.getElem?_map, hx]; rfl)
    refine ⟨_, (pss_one (ps_ret (pe_ix (ixS K) (fldK K (fldK K (pv 0))) (fldK K (fldK K (pv 0))) (fun _ _ => rfl)))), ?_⟩
    obtain ⟨dx_x, ts_x, sp_x, as_x, ss_x, hx_x, hts_x, hst_x, hsp_x, hss_x⟩ := tx.obj
    have hty_x := typed_small tx
    have hnk_x := text_nk tx
    have hg_x := tx.good
    refine ⟨_, rfl, _, _, _, _, _, rfl, he, T.clEditor, T.n_Editor_log, rfl, _, _, _, _, _, rfl, hl, T.clLog, T.n_Log_texts, rfl, _, rfl, _, _, _, _, _, rfl, he, T.clEditor, T.n_Editor_log, rfl, _, _, _, _, _, rfl, hl, T.clLog, T.n_Log_done, rfl, (.inl ⟨_, _, _, _, rfl, rfl, (SqL.of htl), hat, ?_⟩)⟩
    exact q _ tx
theorem ok_Editor_history (D : Df K "history" "Editor.history" s_Editor_history (pgA K (ga K "Editor") "history")) (T : Tc w K mg) : Kp P w K mg base 2 (pgA K (ga K "Editor") "history") (spHistory K) := by
  refine kp_of D sc_Editor_history (fun _ _ _ _ _ _ us hl => match us, hl with | [_], _ => rfl) ?_ (fun cdv A outer s H vs Q E hr h => ?_)
  · rintro vs H Q E ⟨e, N, ops, sts, d, rfl, _⟩
    rfl
  · obtain ⟨e, N, ops, sts, d, rfl, hed, q⟩ := h
    obtain ⟨dx, lg, he, hlog⟩ := hed.obj
    obtain ⟨dl, tl, ol, xs, as0, hl, htl, hol, htx, hop, hne⟩ := hlog.obj
    refine ⟨_, (pss_one (ps_ret (pe_slice (slA K) (fldK K (fldK K (pv 0))) po_none (po_some (fldK K (fldK K (pv 0))))))), ?_⟩
    refine ⟨_, rfl, _, _, _, _, _, rfl, he, T.clEditor, T.n_Editor_log, rfl, _, _, _, _, _, rfl, hl, T.clLog, T.n_Log_operations, rfl, _, rfl, _, _, _, _, _, rfl, he, T.clEditor, T.n_Editor_log, rfl, _, _, _, _, _, rfl, hl, T.clLog, T.n_Log_done, rfl, _, rfl, (.inl ⟨_, _, rfl, (SqL.of hol), fun p n => ?_⟩)⟩
    have ne_e_p := ne_of_none he n
    have ne_lg_p := ne_of_none hl n
    have ne_tl_p := ne_of_none htl n
    have ne_ol_p := ne_of_none hol n
    generalize hE : upd H p _ = H1
    have s1 : Same H H1 := hE ▸ same_upd n
    have e_p := (congrFun hE p).symm.trans upd_same
    clear hE
    rw [cut_refs] at e_p
    exact q p (as0.take d) H1 n s1 e_p ((hop.take d).same s1)
theorem ok_Editor_len (D : Df K "__len__" "Editor.__len__" s_Editor_len (ma K (ga K "Editor") "__len__")) (T : Tc w K mg) (G_Editor_history : Kp P w K mg base 2 (pgA K (ga K "Editor") "history") (spHistory K)) : Kp P w K mg base 4 (ma K (ga K "Editor") "__len__") (spEdLen K) := by
  refine kp_of D sc_Editor_len (fun _ _ _ _ _ _ us hl => match us, hl with | [_], _ => rfl) ?_ (fun cdv A outer s H vs Q E hr h => ?_)
  · rintro vs H Q E ⟨e, N, ops, sts, d, rfl, _⟩
    rfl
  · obtain ⟨e, N, ops, sts, d, rfl, hed, q⟩ := h
    obtain ⟨dx, lg, he, hlog⟩ := hed.obj
    have hfew := hlog.few
    have hdn := hlog.done
    refine ⟨_, (pss_one (ps_ret (pk_b1 (lenA K) T.len b_len (pk_prop (pv 0) T.clEditor T.p_Editor_history G_Editor_history (hr.mono (by omega)))))), ?_⟩
    refine ⟨_, rfl, _, _, _, rfl, he, _, _, _, _, _, rfl, hed, fun l as H2 n s1 e1 h => ?_⟩
    have ne_e_l := ne_of_none he n
    refine (.inr (.inl ⟨_, _, rfl, (.inl (SqL.of e1)), ?_⟩))
    refine qInt (q _ s1) ?_
    rw [List.length_map, h.len, List.length_take, Nat.min_eq_left hdn]
theorem ok_Log_moved (D : Df K "moved" "Log.moved" s_Log_moved (ma K (ga K "Log") "moved")) (T : Tc w K mg) (G_Log_init : Kp P w K mg base 2 (ma K (ga K "Log") "__init__") (spLogInit K)) : Kp P w K mg base 4 (ma K (ga K "Log") "moved") (spMoved2 K) := by
  refine kp_of D sc_Log_moved (fun _ _ _ _ _ _ us hl => match us, hl with | [_, _], _ => rfl) ?_ (fun cdv A outer s H vs Q E hr h => ?_)
  · rintro vs H Q E ⟨l, N, ops, sts, d, k, rfl, _⟩
    rfl
  · obtain ⟨l, N, ops, sts, d, k, rfl, hlog, h0, h1, q⟩ := h
    obtain ⟨dl, tl, ol, xs, as0, hl, htl, hol, htx, hop, hne⟩ := hlog.obj
    refine ⟨_, (pss_one (ps_ret (StX.pe_makeR T.mkLog G_Log_init.fnR (hr.mono (by omega)) rfl T.g_Log pass0 (pa_cons (fldK K (pv 0)) (pa_cons (fldK K (pv 0)) (pa_cons (pe_op (addA K) (fldK K (pv 0)) (pv 1)) pa_nil)))))), ?_⟩
    refine ⟨_, rfl, _, _, _, _, _, rfl, hl, T.clLog, T.n_Log_texts, rfl, _, rfl, _, _, _, _, _, rfl, hl, T.clLog, T.n_Log_operations, rfl, _, rfl, _, _, _, _, _, rfl, hl, T.clLog, T.n_Log_done, rfl, _, rfl, (.inl ⟨_, _, rfl, rfl, fun x dx n n1 h => ?_⟩)⟩
    have ne_l_dx := ne_of_none hl n1
    have ne_tl_dx := ne_of_none htl n1
    have ne_ol_dx := ne_of_none hol n1
    generalize hE : upd H dx _ = H1
    have s1 : Same H H1 := hE ▸ same_upd n1
    have e_dx := (congrFun hE dx).symm.trans upd_same
    clear hE
    generalize hE : upd H1 x _ = H11
    have b : But x H1 H11 := hE ▸ but_upd
    have s2 : Same H H11 := hE ▸ same_own s1 n
    have e_x := (congrFun hE x).symm.trans upd_same
    clear hE
    refine ⟨_, _, _, _, _, rfl, e_x, fun H2 b1 e => ?_⟩
    refine ⟨rfl, ?_⟩
    have hx0 : H x = none := by
      exact n
    have sF : Same H H2 := by
      exact (but_new s2 b1 hx0)
    refine q x H2 hx0 sF ⟨⟨dx, tl, ol, xs, as0, ?_, sF _ _ htl, sF _ _ hol, htx.same sF, hop.same sF, hne⟩, hlog.len, hlog.few, by omega⟩
    rw [Int.toNat_of_nonneg h0]
    exact e
theorem ok_Editor_execute (D : Df K "_execute" "Editor._execute" s_Editor_execute (ma K (ga K "Editor") "_execute")) (T : Tc w K mg) (G_Editor_apply : FnR P w K mg base CX0 20 (ma K (ga K "Editor") "apply") (spStar (spApply K))) : Kp P w K mg base 22 (ma K (ga K "Editor") "_execute") (spExe K) := by
  refine kp_of D sc_Editor_execute (fun _ _ _ _ _ _ us hl => match us, hl with | [_, _], _ => rfl) ?_ (fun cdv A outer s H vs Q E hr h => ?_)
  · rintro vs H Q E ⟨e, a, N, ops, sts, d, o, st, rfl, _⟩
    rfl
  · obtain ⟨e, a, N, ops, sts, d, o, st, rfl, hed, hN, ha, hst, hok, hd, q⟩ := h
    obtain ⟨dx, lg, he, hlog⟩ := hed.obj
    refine ⟨_, (pss_cons (ps_set (i := 2) sc_Editor_execute.nd rfl (Or.inl rfl) (pe_methR (pv 0) T.clEditor T.m_Editor_apply G_Editor_apply (hr.mono (by omega)) pass0 (pa_cons (pv 1) pa_nil))) (pss_one (ps_ret (pe_ix (ixS K) (pv 2) pe_int (fun _ _ => rfl))))), ?_⟩
    refine ⟨_, rfl, _, _, _, rfl, he, rfl, _, rfl, ?_⟩
    refine ⟨[.ref e], [.ref a], rfl, rfl, (by show 1 ≤ sizeLine; decide), fun p hp => ?_⟩
    have s1 : Same H (upd H p (.tup [.ref a])) := same_upd hp
    have e1 : (upd H p (.tup [.ref a])) p = some (.tup [.ref a]) := upd_same
    generalize upd H p (.tup [.ref a]) = H1 at s1 e1
    refine ⟨e, p, N, ops, sts, d, [a], [o], st, rfl, hed.same s1, fun r hr => ?_, SqT.of e1, ⟨rfl, fun i u hu => ?_⟩, hst, ⟨hok, trivial⟩, by simp; omega, (fun z => nomatch z), fun rl H2 hrl b e2 hed2 => ?_⟩
    · obtain ⟨o9, ho⟩ := hN r hr
      exact ⟨o9, s1 _ _ ho⟩
    · cases i with
      | zero => cases hu; exact ⟨a, rfl, same_sqT s1 ha⟩
      | succ i => simp at hu
    · have hq := q H2 ((Same.but s1).trans b) hed2
      have hat : atI ((ress st [o]).map V.int) 0 = some (.int (res1 st o)) := rfl
      refine ⟨_, rfl, (.inl ⟨_, _, _, _, rfl, rfl, (SqL.of e2), rfl, ?_⟩)⟩
      have ne_e_rl := ne_of_none (s1 _ _ he) hrl
      exact hq
theorem ok_Editor_retype (D : Df K "retype" "Editor.retype" s_Editor_retype (ma K (ga K "Editor") "retype")) (T : Tc w K mg) (G_Editor_execute : Kp P w K mg base 22 (ma K (ga K "Editor") "_execute") (spExe K)) : Kp P w K mg base 24 (ma K (ga K "Editor") "retype") (spRetype K) := by
  refine kp_of D sc_Editor_retype (fun _ _ _ _ _ _ us hl => match us, hl with | [_, _, _], _ => rfl) ?_ (fun cdv A outer s H vs Q E hr h => ?_)
  · rintro vs H Q E ⟨e, N, ops, sts, d, p, c, st, rfl, _⟩
    rfl
  · obtain ⟨e, N, ops, sts, d, p, c, st, rfl, hed, hN, hst, hp, hc, hd, q⟩ := h
    obtain ⟨dx, lg, he, hlog⟩ := hed.obj
    refine ⟨_, (pss_one (ps_ret (pe_methR (pv 0) T.clEditor T.m_Editor_execute G_Editor_execute.fnR (hr.mono (by omega)) pass0 (pa_cons (pe_tup (pa_cons pe_str (pa_cons (pv 1) (pa_cons (pv 2) pa_nil)))) pa_nil)))), ?_⟩
    refine ⟨_, rfl, _, _, _, rfl, he, rfl, _, rfl, _, rfl, (by (show 3 ≤ _; decide)), fun p1 n => ?_⟩
    have ne_e_p1 := ne_of_none he n
    generalize hE : upd H p1 _ = H1
    have s1 : Same H H1 := hE ▸ same_upd n
    have e_p1 := (congrFun hE p1).symm.trans upd_same
    clear hE
    refine ⟨e, p1, N, ops, sts, d, .re p c, st, rfl, hed.same s1, fun r hr => ?_, SqT.of e_p1, hst, ⟨hp, hc⟩, hd, ?_⟩
    · obtain ⟨o, ho⟩ := hN r hr
      exact ⟨o, s1 _ _ ho⟩
    · intro H2 b hed2
      exact q H2 ((Same.but s1).trans b) hed2
theorem make_ed {H1 : Hp} {N : List Addr} {as : List Addr} {st : List Stp} {Q : Addr → Hp → Prop} (hN : ∀ r ∈ N, ∃ o, H1 r = some o) (hst : StepsAt K H1 as st) (good : Goes most 0 st) (few : st.length ≤ 30) (q : ∀ e H2, H1 e = none → Same H1 H2 → EdAt K H2 e N [] [st] 0 → Q e H2) :
    ∀ x dx, H1 x = none → H1 dx = none → dx ≠ x → spStar (spEdInit K) (V.ref x :: as.map V.ref) (upd (upd H1 dx (.own x)) x (.ins (CEd K) dx [])) (fun v H2 => v = .non ∧ Q x H2) E0 := by
  intro x dx hx hdx hne
  have hal := hst.len
  refine ⟨[V.ref x], as.map V.ref, rfl, rfl, by rw [List.length_map]; exact small_ok (by omega), fun p hp => ?_⟩
  have hx1 : (upd H1 dx (.own x)) x = none := by rw [upd_ne hne.symm]; exact hx
  have s1 : Same H1 (upd (upd H1 dx (.own x)) x (.ins (CEd K) dx [])) := (same_upd hdx).trans (same_upd hx1)
  have ex : (upd (upd H1 dx (.own x)) x (.ins (CEd K) dx [])) x = some (.ins (CEd K) dx []) := upd_same
  generalize upd (upd H1 dx (.own x)) x (.ins (CEd K) dx []) = H2 at s1 ex hp ⊢
  have s2 : Same H2 (upd H2 p (.tup (as.map V.ref))) := same_upd hp
  refine ⟨x, dx, p, N, as, st, rfl, s2 _ _ ex, fun r hr => ?_, SqT.of upd_same, hst.same (s1.trans s2), good, few, fun H3 b h3 => ⟨rfl, q x H3 hx ?_ h3⟩⟩
  · obtain ⟨o, ho⟩ := hN r hr
    exact ⟨o, s2 _ _ (s1 _ _ ho)⟩
  · exact but_new (s1.trans s2) b hx
def spReplay (K : Fr) : Sp := fun vs H Q _ => ∃ (s o : Addr) (N : List Addr) (as bs : List Addr) (st : List Stp) (new : List Op), vs = [.ref (CEd K), .ref s, .ref o] ∧ (∀ r ∈ N, ∃ o, H r = some o) ∧ SqT K H s (as.map V.ref) ∧ StepsAt K H as st ∧ Goes most 0 st ∧ st.length ≤ 30 ∧
  H o = some (.lst (bs.map V.ref)) ∧ OpsAt K H bs new ∧ okOps st new ∧ new.length ≤ 1000 ∧
  ∀ e H2, H e = none → Same H H2 → EdAt K H2 e N new ([st] ++ runs st new) new.length → Q (.ref e) H2
-- hint: isinstance(steps, (list, tuple)) => (pe_callB call_isiT (by rfl) T.isi boot_isinstance (pa_cons (pv 1) (pa_cons (pe_tup (pa_cons (pe_ty T.lst b_list) (pa_cons (pe_ty T.tup b_tuple) pa_nil))) pa_nil)))
-- hint: isinstance(operations, (list, tuple)) => (pe_callB call_isiT (by rfl) T.isi boot_isinstance (pa_cons (pv 2) (pa_cons (pe_tup (pa_cons (pe_ty T.lst b_list) (pa_cons (pe_ty T.tup b_tuple) pa_nil))) pa_nil)))
-- hint: cls(*steps) => (pe_makeSL T.mkEditor G_Editor_init (hr.mono (by omega)) (i := 0) rfl (Or.inl rfl) pass0 (pv 1))
theorem ok_Editor_replay (D : Df K "replay" "Editor.replay" s_Editor_replay (He5.wf K (ga K "Editor") "classmethod" "replay")) (T : Tc w K mg) (G_Editor_init : FnR P w K mg base CX0 10 (ma K (ga K "Editor") "__init__") (spStar (spEdInit K))) (G_Editor_apply : FnR P w K mg base CX0 20 (ma K (ga K "Editor") "apply") (spStar (spApply K))) : Kp P w K mg base 24 (He5.wf K (ga K "Editor") "classmethod" "replay") (spReplay K) := by
  refine kp_of D sc_Editor_replay (fun _ _ _ _ _ _ us hl => match us, hl with | [_, _, _], _ => rfl) ?_ (fun cdv A outer s H vs Q E hr h => ?_)
  · rintro vs H Q E ⟨s, o, N, as, bs, st, new, rfl, _⟩
    rfl
  · obtain ⟨s0, o0, N, as, bs, st, new, rfl, hN, hs, hst, good, few, ho, hop, hok, hl, q⟩ := h
    refine ⟨_, (pss_cons (ps_if (pt_not (pt_val (pe_callB call_isiT (by rfl) T.isi boot_isinstance (pa_cons (pv 1) (pa_cons (pe_tup (pa_cons (pe_ty T.lst b_list) (pa_cons (pe_ty T.tup b_tuple) pa_nil))) pa_nil))))) pss_never pss_nil) (pss_cons (ps_set (i := 3) sc_Editor_replay.nd rfl (Or.inl rfl) (pe_makeSL T.mkEditor G_Editor_init (hr.mono (by omega)) (i := 0) rfl (Or.inl rfl) pass0 (pv 1))) (pss_cons (ps_if (pt_not (pt_val (pe_callB call_isiT (by rfl) T.isi boot_isinstance (pa_cons (pv 2) (pa_cons (pe_tup (pa_cons (pe_ty T.lst b_list) (pa_cons (pe_ty T.tup b_tuple) pa_nil))) pa_nil))))) pss_never pss_nil) (pss_cons (ps_expr (pe_methSA (pv 3) T.clEditor T.bm_Editor_apply G_Editor_apply (hr.mono (by omega)) pass0 (pv 2))) (pss_one (ps_ret (pv 3))))))), ?_⟩
    refine ⟨_, rfl, (by (show 2 ≤ _; decide)), fun p n => ?_⟩
    have ne_o0_p := ne_of_none ho n
    generalize hE : upd H p _ = H1
    have s1 : Same H H1 := hE ▸ same_upd n
    have e_p := (congrFun hE p).symm.trans upd_same
    clear hE
    refine ⟨.ref s0, p, [.ty "list", .ty "tuple"], .type "tuple", [.type "list", .type "tuple"], true, rfl, e_p, .cons (.ty _) (.cons (.ty _) .nil), sqT_ty (same_sqT s1 hs), ?_, true, rfl, ?_⟩
    · exact kitAny_cons (b := false) (kit_ty rfl) (fun _ => kitAny_cons (b := true) (kit_ty rfl) (fun z => by cases z) fun _ => rfl) fun z => by cases z
    refine iteF ?_
    refine ⟨rfl, _, rfl, s0, _, rfl, .inl (same_sqT s1 hs), ?_⟩
    refine make_ed (N := N) (fun r hr => ?_) (hst.same s1) good few fun e H2 he0 s2 hed => ?_
    · obtain ⟨o, ho⟩ := hN r hr
      exact ⟨o, s1 _ _ ho⟩
    refine ⟨_, rfl, (by (show 2 ≤ _; decide)), fun p1 n1 => ?_⟩
    have ne_o0_p1 := ne_of_none ((s1.trans s2) _ _ ho) n1
    generalize hE : upd H2 p1 _ = H11
    have s3 : Same H2 H11 := hE ▸ same_upd n1
    have e_p1 := (congrFun hE p1).symm.trans upd_same
    clear hE
    have sF : Same H H11 := (s1.trans s2).trans s3
    refine ⟨.ref o0, p1, [.ty "list", .ty "tuple"], .type "list", [.type "list", .type "tuple"], true, rfl, e_p1, .cons (.ty _) (.cons (.ty _) .nil), .base (.lst (sF _ _ ho)), ?_, true, rfl, ?_⟩
    · exact kitAny_cons (b := true) (kit_ty rfl) (fun z => by cases z) (fun _ => rfl)
    refine iteF ?_
    have hed2 := hed.same s3
    obtain ⟨dx, lg, hee, hlog⟩ := hed2.obj
    refine ⟨_, rfl, e, dx, edF lg, rfl, hee, rfl, fun q1 hq1 => ?_⟩
    have s4 : Same H11 (upd H11 q1 (.met (ma K (ga K "Editor") "apply") e)) := same_upd hq1
    have e4 : (upd H11 q1 (.met (ma K (ga K "Editor") "apply") e)) q1 = some (.met (ma K (ga K "Editor") "apply") e) := upd_same
    generalize upd H11 q1 (.met (ma K (ga K "Editor") "apply") e) = H12 at s4 e4
    have hbl := hop.len
    refine ⟨_, rfl, o0, _, rfl, .inr (SqL.of (s4 _ _ (sF _ _ ho))), e4, ?_⟩
    refine ⟨[.ref e], bs.map V.ref, rfl, rfl, by rw [List.length_map]; exact small_ok (by omega), fun p9 hp9 => ?_⟩
    have s5 : Same H12 (upd H12 p9 (.tup (bs.map V.ref))) := same_upd hp9
    have e5 : (upd H12 p9 (.tup (bs.map V.ref))) p9 = some (.tup (bs.map V.ref)) := upd_same
    generalize upd H12 p9 (.tup (bs.map V.ref)) = H13 at s5 e5
    have sG : Same H H13 := (sF.trans s4).trans s5
    refine ⟨e, p9, N, [], [st], 0, bs, new, st, rfl, hed2.same (s4.trans s5), fun r hr => ?_, SqT.of e5, hop.same sG, rfl, hok, by omega, fun _ => rfl, fun rl H2 hrl b e2 hed3 => ?_⟩
    · obtain ⟨o, ho⟩ := hN r hr
      exact ⟨o, sG _ _ ho⟩
    · have heH : H e = none := s1.free he0
      have sZ : Same H H2 := but_new sG b heH
      have hq := q e H2 heH sZ (by have e9 : 0 + new.length = new.length := Nat.zero_add _; rw [e9] at hed3; simpa using hed3)
      refine ⟨_, rfl, ?_⟩
      have ne_o0_e := ne_of_none ho heH
      exact hq
end
end KL
namespace KL
open PySem PySem.Spec PyProof.Rows L2 Pk He
def spKeysD (K : Fr) : Sp := fun vs H Q _ => ∃ (a : Addr) (as : List Addr) (st : List Stp), vs = [.ref a] ∧ H a = some (.lst (as.map V.ref)) ∧ StepsAt K H as st ∧ Goes most 0 st ∧ st.length ≤ 30 ∧ sz st ≤ 2000 ∧
  ∀ p L H2, Same H H2 → H L = none → H2 p = some (.tup [.str (sL (typed st)), .ref L]) → H2 L = some (.lst (nV (ex st))) → Q (.ref p) H2
theorem rgV_nV (n m : Nat) : rgV (n : Int) ((n + m : Nat) : Int) = nV (List.range' n m) := by
  unfold rgV nV
  have e : (((n + m : Nat) : Int) - (n : Int)).toNat = m := by omega
  rw [e]
  refine List.ext_getElem (by simp) fun i h1 h2 => ?_
  simp
theorem cut_nV (E : List Nat) (f l : Nat) : cutV (nV E) (some (f : Int)) (some ((l : Int) + 1)) = nV ((E.drop f).take (l + 1 - f)) := by
  unfold cutV
  rw [HT.sIx_nat, show ((l : Int) + 1) = ((l + 1 : Nat) : Int) by omega, HT.sIx_nat, nV_len]
  unfold nV
  rw [← List.map_drop, ← List.map_take]
  congr 1
  rcases Nat.le_total f E.length with h | h
  · rw [Nat.min_eq_left h, List.take_eq_take_iff, List.length_drop]
    omega
  · rw [Nat.min_eq_right h, List.drop_of_length_le (Nat.le_refl _), List.drop_of_length_le h]
    simp
theorem rep_nV (t : Nat) (E : List Nat) : (List.replicate t (nV E)).flatten = nV (List.replicate t E).flatten := by
  unfold nV
  rw [List.map_flatten, List.map_replicate]
theorem ex_take_s {st : List Stp} {i : Nat} {x : Stp} (h : st[i]? = some x) : ex (st.take (i + 1)) = ex1 (ex (st.take i)) (nk (st.take i)) x := by
  rw [take_succ h, ex_snoc]
theorem sz_take_le {st : List Stp} (i : Nat) : sz (st.take i) ≤ sz st := by
  have e : st = st.take i ++ st.drop i := (List.take_append_drop _ _).symm
  have e2 := congrArg sz e
  rw [sz_app] at e2
  omega
section
variable {P : Program} {w : World} {K : Fr} {mg : Str → Option Value} {base : Heap} {f : Addr}
theorem ok_law_keys (D : Df K "_law_keys" "_law_keys" sKeys (ga K "_law_keys")) (T : Tc w K mg) : Kp P w K mg base 1 (ga K "_law_keys") (spKeysD K) := by
  refine kp_of D sc_law_keys (fun _ _ _ _ _ _ us hl => match us, hl with | [_], _ => rfl) ?_ (fun cdv A outer s H vs Q E hr h => ?_)
  · rintro vs H Q E ⟨a, as, st, rfl, _⟩
    rfl
  · obtain ⟨a, as, st, rfl, ha, hst, good, few, hsz, q⟩ := h
    have hn : (as.map V.ref).length = st.length := by rw [List.length_map, hst.len]
    refine ⟨_, (pss_cons (ps_asg (pe_tup (pa_cons pe_str (pa_cons (pe_lst pa_nil) pa_nil))) (pg_tup rfl (pgs_cons (pg_name (i := 1) sc_law_keys.nd rfl (Or.inr rfl)) (pgs_cons (pg_name (i := 2) sc_law_keys.nd rfl (Or.inl rfl)) pgs_nil)))) (pss_cons (ps_for PassesOwn.never rfl (pi_list (pv 0)) (pg_name (i := 3) sc_law_keys.nd rfl (Or.inl rfl)) (pss_one (ps_if (pt_cmpR (eqB K hr.units) (pe_ix (ixS K) (pv 3) pe_int (fun _ _ => rfl)) pe_str (nomark _)) (pss_cons (ps_set (i := 2) sc_law_keys.nd rfl (Or.inl rfl) (pe_op (addA K) (pv 2) (pe_lc (own := [("_law_k", 4)]) (g := gName 4) (tt := tYes) rfl sc_law_keys.nd (pi_range1 (by rfl) T.rng (pa_cons (pk_b1 (lenA K) T.len b_len (pe_ix (ixS K) (pv 3) pe_int (fun _ _ => rfl))) pa_nil)) (blkOk_by (N := ["_law_steps_here", "_law_typed", "_law_row", "_law_step", "_law_k"]) (sc := defScope sKeys) (by decide +kernel)) (fun _ _ _ _ _ => (pg_name (i := 4) sc_law_keys.nd rfl (Or.inl rfl))) (fun _ _ _ _ _ => pts_nil) (fun _ _ _ _ _ => (pe_op (addA K) (pk_b1 (lenA K) T.len b_len (pv 1)) (pv 4)))))) (pss_one (ps_set (i := 1) sc_law_keys.nd rfl (Or.inr rfl) (pe_op (addA K) (pv 1) (pe_ix (ixS K) (pv 3) pe_int (fun _ _ => rfl)))))) (pss_one (ps_set (i := 2) sc_law_keys.nd rfl (Or.inl rfl) (pe_op (addA K) (pv 2) (pe_op mulB (pe_slice (slA K) (pv 2) (po_some (pe_ix (ixS K) (pv 3) pe_int (fun _ _ => rfl))) (po_some (pe_op (addA K) (pe_ix (ixS K) (pv 3) pe_int (fun _ _ => rfl)) pe_int))) (pe_ix (ixS K) (pv 3) pe_int (fun _ _ => rfl))))))))) (pss_one (ps_ret (pe_tup (pa_cons (pv 1) (pa_cons (pv 2) pa_nil))))))), ?_⟩
    refine ⟨(by (show 0 ≤ _; decide)), fun p n => ?_⟩
    have ne_a_p := ne_of_none ha n
    generalize hE : upd H p _ = H1
    have s1 : Same H H1 := hE ▸ same_upd n
    have e_p := (congrFun hE p).symm.trans upd_same
    clear hE
    refine ⟨(by (show 2 ≤ _; decide)), fun p1 n1 => ?_⟩
    have ne_a_p1 := ne_of_none (s1 _ _ ha) n1
    have ne_p_p1 := ne_of_none e_p n1
    generalize hE : upd H1 p1 _ = H11
    have s2 : Same H1 H11 := hE ▸ same_upd n1
    have e_p1 := (congrFun hE p1).symm.trans upd_same
    clear hE
    refine ⟨_, _, rfl, (SqT.of e_p1), rfl, _, _, rfl, _, _, rfl, rfl, _, rfl, _, rfl, ⟨_, (SqL.of (s2 _ _ (s1 _ _ ha)))⟩, ?_⟩
    generalize hσ : List.set _ _ _ = σ1
    simp only [L2.start, List.set_cons_zero, List.set_cons_succ, List.map_cons, List.map_nil, List.length_cons, List.length_nil, List.replicate_succ, List.replicate_zero, List.cons_append, List.nil_append, Nat.reduceAdd, Nat.reduceSub] at hσ
    subst hσ
    refine for_list (xs := as.map V.ref) (fun i σ HB => ∃ (L : Addr) (v3 : Option V), σ = [some (.ref a), some (.str (sL (typed (st.take i)))), some (.ref L), v3, none] ∧ (Same H HB ∧ H L = none) ∧ HB L = some (.lst (nV (ex (st.take i))))) ⟨p, none, rfl, ⟨s1.trans s2, n⟩, s2 _ _ e_p⟩ ?_ ?_ ?_
    · rintro i σ HB _ ⟨L, v3, _, ⟨sB, _⟩, _⟩
      exact SqL.of (sB _ _ ha)
    · rintro i v σ HB hv ⟨L, v3, rfl, ⟨sB, nL⟩, eL⟩
      have hi : i < st.length := by
        have := (List.getElem?_eq_some_iff.mp hv).1
        rwa [hn] at this
      obtain ⟨x, hx⟩ : ∃ x, st[i]? = some x := ⟨st[i], List.getElem?_eq_getElem hi⟩
      obtain ⟨c, hc, hcx⟩ := hst.at_ i x hx
      obtain ⟨ok, lim⟩ := goes_at good hx
      have ev : v = .ref c := map_at hc hv
      subst ev
      have hcB := same_sqT sB hcx
      have hlex := ex_len _ (goes_take good i)
      have hlex2 := ex_len _ (goes_take good (i + 1))
      have hs1 := sz_take_le (st := st) (i + 1)
      have hs0 := sz_take_le (st := st) i
      have hstep := ex_take_s hx
      have htl := typed_len (st.take i)
      have hnk := nk_le (goes_take good i)
      have hti : (st.take i).length ≤ 30 := by rw [List.length_take]; omega
      have hnkb : nk (st.take i) ≤ 600 := by omega
      have hzl : (sL (typed (st.take i))).length ≤ sizeLine := by
        rw [sL_len, htl]
        exact Nat.le_trans hnkb (by decide)
      have e1 : ((sL (typed (st.take i))).length : Int) = (nk (st.take i) : Nat) := by rw [sL_len, htl]
      clear hst
      cases x with
      | wr wd =>
        simp only [Stp.ok, Bool.and_eq_true, decide_eq_true_eq] at ok
        have hcB : SqT K HB c [.str "write", .str (sL wd)] := hcB
        have hw : (sL wd).length ≤ sizeLine := by
          rw [sL_len]
          exact Nat.le_trans ok.1.2 (by decide)
        have e2 : (((sL wd).length : Int)).toNat = wd.length := by rw [sL_len]; rfl
        refine ⟨_, rfl, (.inr (.inl ⟨_, _, _, _, rfl, rfl, hcB, rfl, (.inl ⟨rfl, _, rfl, ?_⟩)⟩))⟩
        have ne_a_L := ne_of_none ha nL
        refine iT (sT rfl) ?_
        refine ⟨_, rfl, _, rfl, (.inr (.inl ⟨_, _, _, _, rfl, rfl, hcB, rfl, (.inl ⟨_, rfl, (by omega), _, rfl, (by omega), (by omega), fun D1 n2 => ?_⟩)⟩))⟩
        have ne_a_D1 := ne_of_none (sB _ _ ha) n2
        have ne_L_D1 := ne_of_none eL n2
        rw [e2]
        refine lc_map (walk_range (lo := 0) (n := wd.length)) n2 (fun j => V.int ((nk (st.take i) + j : Nat))) (small_ok (by omega)) (fun _ _ => trivial) ?_ ?_
        · rintro j v HC HD N hj sC ⟨rfl, rfl⟩ hN
          refine ⟨rfl, _, rfl, (.inl ⟨_, rfl, (by omega), _, rfl, (.inl ⟨_, _, rfl, rfl, ?_⟩)⟩)⟩
          refine qInt (hN _ (Same.refl _)) ?_
          exact (by omega)
        · intro HC sC eD
          have hD9 : (List.range wd.length).map (fun j => V.int ((nk (st.take i) + j : Nat))) = nV (List.range' (nk (st.take i)) wd.length) := by
            unfold nV
            rw [List.range'_eq_map_range, List.map_map]
            rfl
          rw [hD9] at eD
          have hl9 : (nV (ex (List.take i st))).length + (nV (List.range' (nk (st.take i)) wd.length)).length ≤ sizeLine := by
            rw [nV_len, nV_len, List.length_range', hlex]
            exact Nat.le_trans (show sz (st.take i) + wd.length ≤ 2100 by omega) (by decide)
          refine (.inr (.inr (.inl ⟨_, _, _, _, rfl, rfl, (sC _ _ eL), eD, (by omega), fun p2 n3 => ?_⟩)))
          have ne_a_p2 := ne_of_none ((sB.trans sC) _ _ ha) n3
          have ne_L_p2 := ne_of_none (sC _ _ eL) n3
          have ne_D1_p2 := ne_of_none eD n3
          generalize hE : upd HC p2 _ = H12
          have s3 : Same HC H12 := hE ▸ same_upd n3
          have e_p2 := (congrFun hE p2).symm.trans upd_same
          clear hE
          refine ⟨_, rfl, _, rfl, (.inr (.inl ⟨_, _, _, _, rfl, rfl, (same_sqT (sC.trans s3) hcB), rfl, (.inr (.inl ⟨_, _, rfl, rfl, (by exact small_ok (by omega)), ?_⟩))⟩))⟩
          generalize hσ : List.set _ _ _ = σ1
          simp only [L2.start, List.set_cons_zero, List.set_cons_succ, List.map_cons, List.map_nil, List.length_cons, List.length_nil, List.replicate_succ, List.replicate_zero, List.cons_append, List.nil_append, Nat.reduceAdd, Nat.reduceSub] at hσ
          subst hσ
          refine ⟨p2, some (.ref c), ?_, ⟨(sB.trans sC).trans s3, (sB.trans sC).free n3⟩, ?_⟩
          · rw [take_succ hx, typed_app, ← sL_app]
            simp [typed, Stp.ty]
          · rw [e_p2, nV_app, hstep]
            rfl
      | pa f0 l t =>
        simp only [Stp.ok, Bool.and_eq_true, decide_eq_true_eq] at ok
        have hcB : SqT K HB c [.str "paste", .int (f0 : Nat), .int (l : Nat), .int (t : Nat)] := hcB
        refine ⟨_, rfl, (.inr (.inl ⟨_, _, _, _, rfl, rfl, hcB, rfl, (.inl ⟨rfl, _, rfl, ?_⟩)⟩))⟩
        have ne_a_L := ne_of_none ha nL
        refine iF (by decide +kernel) ?_
        refine ⟨_, rfl, _, rfl, _, rfl, (.inr (.inl ⟨_, _, _, _, rfl, rfl, hcB, rfl, _, rfl, _, rfl, (.inr (.inl ⟨_, _, _, _, rfl, rfl, hcB, rfl, (.inl ⟨_, _, rfl, rfl, _, rfl, (.inl ⟨_, _, rfl, (SqL.of eL), fun p2 n2 => ?_⟩)⟩)⟩))⟩))⟩
        have ne_a_p2 := ne_of_none (sB _ _ ha) n2
        have ne_L_p2 := ne_of_none eL n2
        generalize hE : upd HB p2 _ = H12
        have s3 : Same HB H12 := hE ▸ same_upd n2
        have e_p2 := (congrFun hE p2).symm.trans upd_same
        clear hE
        refine ⟨_, rfl, (.inr (.inl ⟨_, _, _, _, rfl, rfl, (same_sqT s3 hcB), rfl, ?_⟩))⟩
        rw [cut_nV] at e_p2
        have hseg : (((ex (st.take i)).drop f0).take (l + 1 - f0)).length = l + 1 - f0 := by
          rw [List.length_take, List.length_drop, hlex]
          omega
        have hgr : (l + 1 - f0) * t ≤ 2000 := by
          have h9 := hs1
          rw [take_succ hx, sz_app, sz_cons] at h9
          have : (Stp.pa f0 l t).gr = (l + 1 - f0) * t := rfl
          omega
        refine .inr (.inl ⟨p2, _, _, rfl, rfl, e_p2, by omega, by omega, ?_, fun R hR => ?_⟩)
        · rw [nV_len, hseg, Int.toNat_natCast]
          exact Nat.le_trans hgr (by decide)
        · rw [Int.toNat_natCast, rep_nV]
          have s4 : Same H12 (upd H12 R (.lst (nV (List.replicate t (((ex (st.take i)).drop f0).take (l + 1 - f0))).flatten))) := same_upd hR
          have eR : (upd H12 R (.lst (nV (List.replicate t (((ex (st.take i)).drop f0).take (l + 1 - f0))).flatten))) R = some (.lst (nV (List.replicate t (((ex (st.take i)).drop f0).take (l + 1 - f0))).flatten)) := upd_same
          generalize upd H12 R (.lst (nV (List.replicate t (((ex (st.take i)).drop f0).take (l + 1 - f0))).flatten)) = H13 at s4 eR
          have hl9 : (nV (ex (List.take i st))).length + (nV (List.replicate t (((ex (st.take i)).drop f0).take (l + 1 - f0))).flatten).length ≤ sizeLine := by
            have h8 : (ex (st.take (i + 1))).length = (ex (st.take i)).length + ((List.replicate t (((ex (st.take i)).drop f0).take (l + 1 - f0))).flatten).length := by
              rw [hstep]
              exact List.length_append ..
            rw [nV_len, nV_len, ← h8, hlex2]
            exact Nat.le_trans (Nat.le_trans hs1 hsz) (by decide)
          refine (.inr (.inr (.inl ⟨_, _, _, _, rfl, rfl, (s4 _ _ (s3 _ _ eL)), eR, (by omega), fun p3 n3 => ?_⟩)))
          have ne_a_p3 := ne_of_none (((sB.trans s3).trans s4) _ _ ha) n3
          have ne_L_p3 := ne_of_none ((s3.trans s4) _ _ eL) n3
          have ne_p2_p3 := ne_of_none (s4 _ _ e_p2) n3
          have ne_R_p3 := ne_of_none eR n3
          generalize hE : upd H13 p3 _ = H14
          have s5 : Same H13 H14 := hE ▸ same_upd n3
          have e_p3 := (congrFun hE p3).symm.trans upd_same
          clear hE
          refine ⟨p3, some (.ref c), ?_, ⟨((sB.trans s3).trans s4).trans s5, ((sB.trans s3).trans s4).free n3⟩, ?_⟩
          · rw [take_succ hx, typed_app]
            simp [typed, Stp.ty]
          · rw [e_p3, nV_app, hstep]
            rfl
    · rintro σ HB ⟨L, v3, rfl, ⟨sB, nL⟩, eL⟩
      rw [hn, List.take_length] at eL ⊢
      refine ⟨_, rfl, _, rfl, (by (show 2 ≤ _; decide)), fun p2 n2 => ?_⟩
      have ne_a_p2 := ne_of_none (sB _ _ ha) n2
      have ne_L_p2 := ne_of_none eL n2
      generalize hE : upd HB p2 _ = H12
      have s3 : Same HB H12 := hE ▸ same_upd n2
      have e_p2 := (congrFun hE p2).symm.trans upd_same
      clear hE
      have sZ : Same HB H12 := by assumption
      exact q p2 L H12 (sB.trans sZ) nL (by assumption) (sZ _ _ eL)
end
end KL
/-! ## lambdas as values: made at one place, called by another def -/
namespace Pk
open PySem PySem.Spec PyProof.Rows L2 LamX
/-- at f: a lambda of the code object at c', its cells cl -/
def LamO (q : Str) (params : Arguments) (body : Expr) (scope : Scope) (cl : List (Str × Addr)) (c' f : Addr) : HO := .ext fun h => ∃ pm ctv : Value, h.get? f = some (PySem.W.kla_obj "<lambda>" q params body scope cl pm c' ctv)
theorem lamO_tbl {q : Str} {params : Arguments} {body : Expr} {scope : Scope} {cl : List (Str × Addr)} {c' f : Addr} : NT (LamO q params body scope cl c' f) := fun ps z => by
  unfold LamO at z
  cases z
section
variable {X : Cx} {pins : List (Addr × Obj)} {σ : L2.St} {H : Hp} {s : Shared}
theorem lamO_ok {P : Program} {w : World} {H : Hp} {h : Heap} {q : Str} {params : Arguments} {body : Expr} {scope : Scope} {cl : List (Str × Addr)} {c' f : Addr} {pm ctv : Value} (e : h.get? f = some (PySem.W.kla_obj "<lambda>" q params body scope cl pm c' ctv)) : ObjOk P w H h f (LamO q params body scope cl c' f) :=
  ⟨⟨pm, ctv, e⟩, ⟨_, e⟩, fun _ _ a b => let ⟨p, c, z⟩ := a; ⟨p, c, b _ z⟩⟩
/-- the lambda is made, and known -/
theorem lam_new {T : List (Addr × Str)} {c Pt : Addr} {params : Arguments} {body : Expr} {scope : Scope} {pos : Pos} {E Q : Value → Shared → Prop} (I : Inv X pins σ H s) (TB : TabB X.base X.mg c Pt) (hcode : X.env.code = .ref c)
    (hm : (Pt, X.env.qual ++ "<lambda>") ∈ T) (hu : ∀ p ∈ T, p.1 = Pt → p.2 = X.env.qual ++ "<lambda>") (hT : Tabs T H) (hdef : defaultsOf params X.env = ([], [])) (hfree : ∀ y ∈ scope.names, y.2 = .free → ∃ c, X.env.cells.lookup y.1 = some c)
    (h : ∀ (f c' : Addr) (H2 : Hp) (s' : Shared), Inv X pins σ H2 s' → H f = none → ExtN H H2 → Tabs T H2 → H2 f = some (LamO (X.env.qual ++ "<lambda>") params body scope (cloFrom X.env.cells scope.names []) c' f) → H2 c' = some (CodeO c' (X.env.qual ++ "<lambda>")) → Q (.ref f) s') :
    wpAny (model X.prog X.w) X.A (eval (.Lambda params body scope pos) X.env) Q E s := by
  obtain ⟨ps, hP, htr, hall⟩ := hT _ hm
  have onP : s.heap.get? Pt = some { cls := .none, data := .fields ps } := I.hok Pt _ hP
  have bP : s.heap.BuiltinsAt X.mg Pt := TB.bm.keeps I.bk
  refine PySem.W.kla_eval hdef ?_
  cases hfind : codeAmong pos ps.toList with
  | some cv =>
    obtain ⟨c', ec, hco⟩ := hall pos cv hfind
    rw [ec] at hfind
    refine PySem.W.kla_makeFunctionHit (mg := X.mg) (c := c) (P := Pt) (ps := ps) (closure_ok hfree) I.ok.glob (I.mod.glob.keeps I.bk) hcode (TB.code.keeps I.bk) onP htr hfind bP fun ctv h' tk keep hsz => ?_
    have J0 : Inv X pins σ H { s with heap := h', toks := tk } := I.kept keep
    have nf : H h'.objs.size = none := I.hok.fresh hsz
    have J := J0.laid (a := h'.objs.size) (t' := tk) (o := LamO (X.env.qual ++ "<lambda>") params body scope (cloFrom X.env.cells scope.names []) c' h'.objs.size) (h' := h'.push (PySem.W.kla_obj "<lambda>" (X.env.qual ++ "<lambda>") params body scope (cloFrom X.env.cells scope.names []) ((X.mg "__name__").getD .none) c' ctv)) (fun b o e => Heap.get?_push_of_some _ e) (Nat.le_refl _) (lamO_ok (Heap.get?_push_size _ rfl))
    have sm : Same H (upd H h'.objs.size (LamO (X.env.qual ++ "<lambda>") params body scope (cloFrom X.env.cells scope.names []) c' h'.objs.size)) := same_upd nf
    exact h _ c' _ _ J nf (ExtN.same sm) (hT.ext sm) upd_same (sm _ _ hco)
  | none =>
    refine PySem.W.kla_makeFunction (mg := X.mg) (c := c) (P := Pt) (ps := ps) (closure_ok hfree) I.ok.glob (I.mod.glob.keeps I.bk) hcode (TB.code.keeps I.bk) onP htr hfind TB.gP bP fun c' ctv h' tk keep hge hlt hrec htab => ?_
    obtain ⟨c2, oc, vs, t, e2, hoc, hd, hv⟩ := hrec
    obtain rfl : c' = c2 := Value.ref.inj e2
    have nC : H c' = none := I.hok.fresh hge
    have nPC : Pt ≠ c' := ne_of_none hP nC
    have hsz : s.heap.objs.size ≤ h'.objs.size := Nat.le_trans hge (Nat.le_of_lt hlt)
    have nf : H h'.objs.size = none := I.hok.fresh hsz
    have nfc : h'.objs.size ≠ c' := Nat.ne_of_gt hlt
    have nfP : h'.objs.size ≠ Pt := Nat.ne_of_gt (Nat.lt_of_lt_of_le (Heap.lt_size onP) hsz)
    have J0 := inv_table (t' := tk) (more := #[rawInt pos.line, rawInt pos.col, .ref c']) (h' := h') (q := X.env.qual ++ "<lambda>") I hP (fun b o hb e => keep b o hb e) htab hge ⟨oc, vs, t, hoc, hd, hv⟩
    have J := J0.laid (a := h'.objs.size) (t' := tk) (o := LamO (X.env.qual ++ "<lambda>") params body scope (cloFrom X.env.cells scope.names []) c' h'.objs.size) (h' := h'.push (PySem.W.kla_obj "<lambda>" (X.env.qual ++ "<lambda>") params body scope (cloFrom X.env.cells scope.names []) ((X.mg "__name__").getD .none) c' ctv)) (fun b o e => Heap.get?_push_of_some _ e) (Nat.le_refl _) (lamO_ok (Heap.get?_push_size _ rfl))
    have n2 : (upd (upd H Pt (.tbl (ps ++ #[rawInt pos.line, rawInt pos.col, .ref c']))) c' (CodeO c' (X.env.qual ++ "<lambda>"))) h'.objs.size = none := by rw [upd_ne nfc, upd_ne nfP]; exact nf
    have sm : Same (upd (upd H Pt (.tbl (ps ++ #[rawInt pos.line, rawInt pos.col, .ref c']))) c' (CodeO c' (X.env.qual ++ "<lambda>"))) _ := same_upd (o := LamO (X.env.qual ++ "<lambda>") params body scope (cloFrom X.env.cells scope.names []) c' h'.objs.size) n2
    have hx : ExtN H (upd (upd H Pt (.tbl (ps ++ #[rawInt pos.line, rawInt pos.col, .ref c']))) c' (CodeO c' (X.env.qual ++ "<lambda>"))) := fun b o e n => by
      rw [upd_ne (ne_of_none e nC), upd_ne (fun z => by rw [z, hP] at e; exact n ps (Option.some.inj e).symm)]
      exact e
    have eL : (ps ++ #[rawInt pos.line, rawInt pos.col, .ref c']).toList = ps.toList ++ [rawInt pos.line, rawInt pos.col, .ref c'] := by simp
    have tb : Tabs T (upd (upd H Pt (.tbl (ps ++ #[rawInt pos.line, rawInt pos.col, .ref c']))) c' (CodeO c' (X.env.qual ++ "<lambda>"))) := fun p hp => by
      by_cases hb : p.1 = Pt
      · have e3 := hu p hp hb
        rw [hb, e3]
        refine ⟨_, by rw [upd_ne nPC, upd_same], by rw [eL]; exact PySem.TriplesOk_snoc _ _ _ _ htr, fun p9 cv hcv => ?_⟩
        rw [eL] at hcv
        rcases among_app _ htr hcv with z | z
        · obtain ⟨c9, e1, e2⟩ := hall p9 cv z
          exact ⟨c9, e1, hx _ _ e2 codeO_ne⟩
        · exact ⟨c', z, upd_same⟩
      · obtain ⟨qs, a1, a2, a3⟩ := hT p hp
        refine ⟨qs, by rw [upd_ne (ne_of_none a1 nC), upd_ne hb]; exact a1, a2, fun p9 cv hcv => ?_⟩
        obtain ⟨c9, e1, e2⟩ := a3 p9 cv hcv
        exact ⟨c9, e1, hx _ _ e2 codeO_ne⟩
    exact h _ c' _ _ J nf (hx.trans (ExtN.same sm)) (tb.ext sm) upd_same (sm _ _ upd_same)
/-- lambda: body, as a value -/
def tLamV (T : List (Addr × Str)) (O : Addr → Addr → HO) (q : Str) : TE := fun σ H Q => TbAt T H ∧ ∀ (f c' : Addr) (H2 : Hp), H f = none → ExtN H H2 → TbAt T H2 → H2 f = some (O c' f) → H2 c' = some (CodeO c' q) → Q (.ref f) H2
theorem pe_lamV {T : List (Addr × Str)} {c Pt : Addr} {params : Arguments} {body : Expr} {scope : Scope} {pos : Pos} (TB : TabB X.base X.mg c Pt) (hcode : X.env.code = .ref c) (hm : (Pt, X.env.qual ++ "<lambda>") ∈ T) (hu : ∀ p ∈ T, p.1 = Pt → p.2 = X.env.qual ++ "<lambda>")
    (L : LamS X.env.scope scope) (hdef : defaultsOf params X.env = ([], [])) :
    PE X (.Lambda params body scope pos) (tLamV T (fun c' f => LamO (X.env.qual ++ "<lambda>") params body scope (cloFrom X.env.cells scope.names []) c' f) (X.env.qual ++ "<lambda>")) := by
  refine ⟨fun pins s σ H Q I h => ?_⟩
  obtain ⟨hT, h⟩ := h
  refine lam_new I TB hcode hm hu hT hdef (L.has I.ok) fun f c' H2 s' I2 nf xN t2 hf hc => ?_
  exact ⟨.ref f, H2, I2, rfl, h f c' H2 nf xN t2 hf hc⟩
end
/-! ### a lambda is called, in the def that got it -/
section
variable {X : Cx} {pins : List (Addr × Obj)} {σ : L2.St} {H : Hp} {s : Shared}
/-- x(), in the def that got the lambda: Z is that def's context, entered at s -/
theorem pe_actT {CXg : CXT} {Eg : XK} {Ng : List Str} {qg : Str} {sg : Scope} {g f c' : Addr} {cdg : Value} {params : Arguments} {body : Expr} {scope : Scope} {k i : Nat} {a : Str} {pn : List (Addr × Obj)} {xe : Value → Shared → Prop} {W : WX} {E : XK} {tb : TE} {p1 p2 : Pos}
    (I : Inv X pins σ H s) (L : LamS X.env.scope scope)
    (hbind : ∀ pm ctv : Value, bindArgs (PySem.W.kla_fn "<lambda>" (X.env.qual ++ "<lambda>") params body scope (cloFrom X.env.cells scope.names []) pm (.ref c') ctv) ⟨[], []⟩ = pure [])
    (tk : Takes ((cxOf CXg X.prog X.w X.K X.mg X.base Ng qg sg g cdg X.A X.stack s H Eg).tr pn xe) W) (hW : ∀ cls d σ' H', E cls d H' → W cls d σ' H') (hr : Room (k + 1) (X.A.deeper (envOfC qg sg s.heap.objs.size g cdg)))
    (hbody : ∀ (A : Around) (outer : List Env) (s : Shared) (H : Hp), Room k (A.deeper (lamEnv X scope s.heap.objs.size f c')) → PE (lamCx X A outer s H E scope f c') body tb)
    (hN : Ng[i]? = some a) (hv : Vis sg a) (hd : (a == ("__debug__" : Str)) = false := by decide) (hcd : (a == ("__classdict__" : Str)) = false := by decide) :
    PE ((cxOf CXg X.prog X.w X.K X.mg X.base Ng qg sg g cdg X.A X.stack s H Eg).tr pn xe) (.Call (.Name a p1) [] [] p2)
      (fun σZ HZ Q => σZ[i]? = some (some (.ref f)) ∧ HZ f = some (LamO (X.env.qual ++ "<lambda>") params body scope (cloFrom X.env.cells scope.names []) c' f) ∧ HZ c' = some (CodeO c' (X.env.qual ++ "<lambda>")) ∧ tb σ HZ Q) := by
  refine ⟨fun pinsZ sZ σZ HZ Q IZ h => ?_⟩
  obtain ⟨hs, hf, hc, ht⟩ := h
  refine wpAny_Call_Name_kw (thn ((pe_var (pos := p1) (i := i) hN hv hd hcd).run pinsZ sZ σZ HZ (fun v H1 => v = .ref f ∧ H1 = HZ) IZ ⟨.ref f, hs, rfl, rfl⟩) fun u s1 ⟨v, H1, I1, r1, q1⟩ => ?_)
  obtain ⟨ev, eH⟩ := q1
  subst ev
  rw [eH] at I1
  obtain rfl : u = Value.ref f := r1
  obtain ⟨⟨pm, ctv, onF⟩, _, _⟩ := I1.hok f _ hf
  refine PySem.W.callWith_F0 ⟨_, _, _, _, onF⟩ ?_
  have un : Un (frs X.stack) [] H HZ s.heap s1.heap := I1.base
  obtain ⟨⟨oc, vs, t, hoc, hdc, hvc⟩, _, _⟩ := I1.hok c' _ hc
  have rc : codeAny (model X.prog X.w) (X.A.deeper (envOfC qg sg s.heap.objs.size g cdg)) (.call (.ref f) ⟨[], []⟩) (CR (L2.CX X.prog X.w) (envOfC qg sg s.heap.objs.size g cdg :: X.stack) X.prog X.w HZ s1 Q E) s1 := by
    refine PySem.W.kla_callFunE hr.depth onF rfl L.co L.gen rfl ⟨c', oc, vs, t, rfl, hoc, hdc, hvc⟩ ?_
    rw [hbind]
    refine wpAny_pure (wpAny_newFunctionEnv (fun y hy => (L.own y hy).2) (fun y hy => absurd hy (by simp)) (fun h₁ hns hsb => ⟨I1.nolimit.fresh _ hsb, ?_⟩) L.kind)
    show codeAny _ _ (.expr body (lamEnv X scope s1.heap.objs.size f c')) _ _
    have kp : ∀ b o, s1.heap.get? b = some o → h₁.get? b = some o := fun b o e => hsb.extBut b o (Nat.ne_of_lt (Heap.lt_size e)) (Heap.get?_push_of_some _ e)
    have J : Inv (lamCx X (X.A.deeper (envOfC qg sg s.heap.objs.size g cdg)) (envOfC qg sg s.heap.objs.size g cdg :: X.stack) s1 HZ E scope f c') [] σ HZ { s1 with heap := h₁, toks := s1.toks + ([] : List (Str × Value)).length } :=
      lam_start2 I L I1.env0 hr.hd un hns kp
    refine PySem.W.kla_codeExpr (wpAny_mono ((hbody _ _ s1 HZ (hr.deeper _)).run [] _ _ HZ Q J ht) (fun v s' hq => ?_) fun e s' hq => hq)
    obtain ⟨w', H', J', rv, q⟩ := hq
    exact ⟨w', H', J'.os, J'.bare, J'.base, J'.hok, rv, q⟩
  have hx : Passes (L2.CX X.prog X.w) ((cxOf CXg X.prog X.w X.K X.mg X.base Ng qg sg g cdg X.A X.stack s H Eg).tr pn xe) E := passes_call tk hW
  refine wpAny_call (codeAny_mono rc fun r s' hq => ?_)
  cases r with
  | error e => exact hx pinsZ σZ HZ s1 e s' I1 hq
  | ok fl =>
    cases fl with
    | ret u => exact I1.after hq
    | next => exact False.elim hq
    | brk => exact False.elim hq
    | cont => exact False.elim hq
/-- the def that calls what it got, told of a known lambda: TT, what it makes of the lambda's reading -/
def GivesT (X : Cx) (Ng : List Str) (x : Str) (sg : Scope) (g : Addr) (cdg : Value) (bg : List Stmt) (a : Str) (TT : (XK → Hp → VK → Prop) → Hp → VK → Prop) : Prop :=
  ∀ (f c' : Addr) (s : Shared) (H : Hp) (Q : VK) (O u : HO) (tl : XK → Hp → VK → Prop),
    (∀ (W : WX) (pn : List (Addr × Obj)) (xe : Value → Shared → Prop) (E : XK) (p1 p2 : Pos), Takes ((cxOf C8.CX0 X.prog X.w X.K X.mg X.base Ng x sg g cdg X.A X.stack s H C8.E0).tr pn xe) W → (∀ cls d σ' H', E cls d H' → W cls d σ' H') →
      PE ((cxOf C8.CX0 X.prog X.w X.K X.mg X.base Ng x sg g cdg X.A X.stack s H C8.E0).tr pn xe) (.Call (.Name a p1) [] [] p2) (fun σZ HZ Q => σZ[0]? = some (some (.ref f)) ∧ HZ f = some O ∧ HZ c' = some u ∧ tl E HZ Q)) →
    H f = some O → H c' = some u → NT O → NT u → Room 1 (X.A.deeper (envOfC x sg s.heap.objs.size g cdg)) → TT tl H Q →
    ∃ t, PSs (cxOf C8.CX0 X.prog X.w X.K X.mg X.base Ng x sg g cdg X.A X.stack s H C8.E0).nox bg t ∧ t { nx := fun _ H' => Q .non H', rt := Q } (L2.start Ng [.ref f]) H
def tLamT (O : Addr → Addr → HO) (q : Str) (TT : (XK → Hp → VK → Prop) → Hp → VK → Prop) (te : TE) (t : XK → TE) : TE := fun σ H Q => te σ H fun y H1 => ∃ f c' : Addr, y = .ref f ∧ H1 f = some (O c' f) ∧ H1 c' = some (CodeO c' q) ∧ TT (fun E H' Q' => t E σ H' Q') H1 Q
/-- g(e), e a lambda that was made in this def -/
theorem pe_callLam {TT : (XK → Hp → VK → Prop) → Hp → VK → Prop} {x a : Str} {g : Addr} {k : Nat} {pg : Arguments} {bg : List Stmt} {sg : Scope} {dV kV doc pm cdv ct oc : Value} {an od : Option Addr} {osl : Array (Option Value)} {Ng : List Str}
    {params : Arguments} {body : Expr} {scope : Scope} {t : XK → TE} {p pos : Pos} {e : Expr} {te : TE} (hg : Gl X x) (hm : X.mg x = some (.ref g)) (hk : PySem.W.keepIn X.K (.ref g) = true)
    (lk : X.K.lookup g = some ⟨oc, od, .func (PySem.W.fnOf x x pg bg sg dV kV doc pm an cdv ct), osl⟩) (hcg : PySem.W.codeIn X.K cdv x = true) (hb : L2.Binds X.K (PySem.W.fnOf x x pg bg sg dV kV doc pm an cdv ct) [a] []) (Sg : FnScope Ng [a] sg) (hNg : Ng[0]? = some a) (hva : Vis sg a)
    (hG : GivesT X Ng x sg g cdv bg a TT) (he : PE X e te) (hr : Room (k + 2) X.A) (L : LamS X.env.scope scope)
    (hbind : ∀ (q : Str) (cl : List (Str × Addr)) (pm cv ctv : Value), bindArgs (PySem.W.kla_fn "<lambda>" q params body scope cl pm cv ctv) ⟨[], []⟩ = pure [])
    (hbody : ∀ (A : Around) (outer : List Env) (s : Shared) (H : Hp) (E : XK) (f c' : Addr), Room k (A.deeper (lamEnv X scope s.heap.objs.size f c')) → PE (lamCx X A outer s H E scope f c') body (t E))
    (hdb : (x == ("__debug__" : Str)) = false := by decide) (hd : (a == ("__debug__" : Str)) = false := by decide) (hcd : (a == ("__classdict__" : Str)) = false := by decide)
    (hst : starEach [e] X.env = (false, eval e X.env) :: starEach [] X.env := by rfl) (hpl : (backTo pos (starEach [] X.env)).any (·.1) = false := by rfl) :
    PE X (.Call (.Name x p) [e] [] pos) (tLamT (fun c' f => LamO (X.env.qual ++ "<lambda>") params body scope (cloFrom X.env.cells scope.names []) c' f) (X.env.qual ++ "<lambda>") TT te t) := by
  refine ⟨fun pins s σ H Q I h => ?_⟩
  refine wpAny_Call_Name_kw (ld_glob I hg hm ?_ hdb)
  refine PySem.W.callWith_K (h₀ := X.base) I.ok.mod.kin hk ?_ hst hpl
  rw [hst]
  refine Calls.spliced_cons (thn (he.run pins s σ H _ I h) fun u s1 hh => ?_)
  obtain ⟨y, H1, I1, r1, f, c', rfl, hf, hc, q⟩ := hh
  obtain rfl : u = Value.ref f := r1
  refine Calls.spliced_nil ⟨I1.kIn, ?_⟩
  have rc : codeAny (model X.prog X.w) X.A (.call (.ref g) ⟨[.ref f], []⟩) (CR C8.CX0 X.stack X.prog X.w H1 s1 Q C8.E0) s1 := by
    refine run_ofS (N := Ng) (ps := [a]) (us := [.ref f]) (vs := [.ref f]) lk hcg Sg hr I1.env0 (hb s1 [.ref f] I1.kIn rfl) (.cons rfl .nil) rfl fun hr' => ?_
    obtain ⟨t', ht', hq'⟩ := hG f c' s1 H1 Q _ _ (fun E H' Q' => t E σ H' Q') (fun W pn xe E p1 p2 tk hW => pe_actT (i := 0) I1 L (fun _ _ => hbind _ _ _ _ _) tk hW hr' (fun A outer s H hr2 => hbody A outer s H E f c' hr2) hNg hva hd hcd) hf hc lamO_tbl codeO_ne (hr'.mono (Nat.le_add_left 1 k)) q
    exact ⟨t', ht'.nox, hq'⟩
  refine wpAny_call (codeAny_mono rc fun r s2 hq => ?_)
  cases r with
  | error e => exact (show False from hq).elim
  | ok fl =>
    cases fl with
    | ret u => exact I1.after hq
    | next => exact False.elim hq
    | brk => exact False.elim hq
    | cont => exact False.elim hq
/-- the def x at g, that calls what it gets: what it makes of it, told once -/
def LamG (w : World) (K : PySem.W.Frag) (mg : Str → Option Value) (x a : Str) (g : Addr) (TT : (XK → Hp → VK → Prop) → Hp → VK → Prop) : Prop :=
  PySem.W.keepIn K (.ref g) = true ∧ ∃ (oc : Value) (od : Option Addr) (osl : Array (Option Value)) (pg : Arguments) (bg : List Stmt) (sg : Scope) (dV kV doc pm cdv ct : Value) (an : Option Addr) (Ng : List Str),
    K.lookup g = some ⟨oc, od, .func (PySem.W.fnOf x x pg bg sg dV kV doc pm an cdv ct), osl⟩ ∧ PySem.W.codeIn K cdv x = true ∧ L2.Binds K (PySem.W.fnOf x x pg bg sg dV kV doc pm an cdv ct) [a] [] ∧ FnScope Ng [a] sg ∧ Ng[0]? = some a ∧ Vis sg a ∧
    ∀ X : Cx, X.w = w → X.K = K → X.mg = mg → GivesT X Ng x sg g cdv bg a TT
theorem lamG_of {w : World} {K : PySem.W.Frag} {mg : Str → Option Value} {x a : Str} {g : Addr} {TT : (XK → Hp → VK → Prop) → Hp → VK → Prop} {st : Stmt} {N : List Str} (D : ∃ fd, FunD K x x (defArgs st) (defBody st) (defScope st) [] [] g fd) (S : FnScope N [a] (defScope st))
    (hb : ∀ (kV doc pm : Value) (an : Option Addr) (cdv ct : Value) (us : List Value), us.length = ([a] : List Str).length → bindArgs (PySem.W.fnOf x x (defArgs st) (defBody st) (defScope st) .none kV doc pm an cdv ct) ⟨us, []⟩ = pure (([a] : List Str).zip us))
    (h0 : N[0]? = some a) (hv : Vis (defScope st) a) (hG : ∀ (cdv : Value) (X : Cx), X.w = w → X.K = K → X.mg = mg → GivesT X N x (defScope st) g cdv (defBody st) a TT) : LamG w K mg x a g TT := by
  obtain ⟨fd, F⟩ := D
  have b := F.bindsN hb
  have kp := F.kp
  obtain ⟨oc, od, dV, kV, doc, pm, an, cdv, ct, osl, rfl, lk, hcd, _, _⟩ := F.ex
  exact ⟨kp, oc, od, osl, _, _, _, dV, kV, doc, pm, cdv, ct, an, N, lk, hcd, b, S, h0, hv, hG cdv⟩
theorem pe_lamG {TT : (XK → Hp → VK → Prop) → Hp → VK → Prop} {x a : Str} {g : Addr} {k : Nat} {params : Arguments} {body : Expr} {scope : Scope} {t : XK → TE} {p pos : Pos} {e : Expr} {te : TE} (G : LamG X.w X.K X.mg x a g TT) (hm : X.mg x = some (.ref g)) (he : PE X e te) (hr : Room (k + 2) X.A) (L : LamS X.env.scope scope)
    (hbind : ∀ (q : Str) (cl : List (Str × Addr)) (pm cv ctv : Value), bindArgs (PySem.W.kla_fn "<lambda>" q params body scope cl pm cv ctv) ⟨[], []⟩ = pure [])
    (hbody : ∀ (A : Around) (outer : List Env) (s : Shared) (H : Hp) (E : XK) (f c' : Addr), Room k (A.deeper (lamEnv X scope s.heap.objs.size f c')) → PE (lamCx X A outer s H E scope f c') body (t E))
    (hg : Gl X x := by rfl) (hdb : (x == ("__debug__" : Str)) = false := by decide) (hd : (a == ("__debug__" : Str)) = false := by decide) (hcd : (a == ("__classdict__" : Str)) = false := by decide)
    (hst : starEach [e] X.env = (false, eval e X.env) :: starEach [] X.env := by rfl) (hpl : (backTo pos (starEach [] X.env)).any (·.1) = false := by rfl) :
    PE X (.Call (.Name x p) [e] [] pos) (tLamT (fun c' f => LamO (X.env.qual ++ "<lambda>") params body scope (cloFrom X.env.cells scope.names []) c' f) (X.env.qual ++ "<lambda>") TT te t) := by
  obtain ⟨kp, oc, od, osl, pg, bg, sg, dV, kV, doc, pm, cdv, ct, an, Ng, lk, hco, hb, Sg, hNg, hva, hG⟩ := G
  exact pe_callLam hg hm kp lk hco hb Sg hNg hva (hG X rfl rfl rfl) he hr L hbind hbody hdb hd hcd hst hpl
/-- x(lambda: body) -/
theorem pe_lamGL {T : List (Addr × Str)} {c Pt : Addr} {TT : (XK → Hp → VK → Prop) → Hp → VK → Prop} {x a : Str} {g : Addr} {k : Nat} {params : Arguments} {body : Expr} {scope : Scope} {t : XK → TE} {p lpos pos : Pos} (G : LamG X.w X.K X.mg x a g TT) (hm : X.mg x = some (.ref g))
    (TB : TabB X.base X.mg c Pt) (hcode : X.env.code = .ref c) (hmT : (Pt, X.env.qual ++ "<lambda>") ∈ T) (hu : ∀ p ∈ T, p.1 = Pt → p.2 = X.env.qual ++ "<lambda>") (hr : Room (k + 2) X.A) (L : LamS X.env.scope scope) (hdef : defaultsOf params X.env = ([], []))
    (hbind : ∀ (q : Str) (cl : List (Str × Addr)) (pm cv ctv : Value), bindArgs (PySem.W.kla_fn "<lambda>" q params body scope cl pm cv ctv) ⟨[], []⟩ = pure [])
    (hbody : ∀ (A : Around) (outer : List Env) (s : Shared) (H : Hp) (E : XK) (f c' : Addr), Room k (A.deeper (lamEnv X scope s.heap.objs.size f c')) → PE (lamCx X A outer s H E scope f c') body (t E))
    (hg : Gl X x := by rfl) (hdb : (x == ("__debug__" : Str)) = false := by decide) (hd : (a == ("__debug__" : Str)) = false := by decide) (hcd : (a == ("__classdict__" : Str)) = false := by decide)
    (hst : starEach [.Lambda params body scope lpos] X.env = (false, eval (.Lambda params body scope lpos) X.env) :: starEach [] X.env := by rfl) (hpl : (backTo pos (starEach [] X.env)).any (·.1) = false := by rfl) :
    PE X (.Call (.Name x p) [.Lambda params body scope lpos] [] pos) (tLamT (fun c' f => LamO (X.env.qual ++ "<lambda>") params body scope (cloFrom X.env.cells scope.names []) c' f) (X.env.qual ++ "<lambda>") TT (tLamV T (fun c' f => LamO (X.env.qual ++ "<lambda>") params body scope (cloFrom X.env.cells scope.names []) c' f) (X.env.qual ++ "<lambda>")) t) :=
  pe_lamG G hm (pe_lamV TB hcode hmT hu L hdef) hr L hbind hbody hg hdb hd hcd hst hpl
end
end Pk
/-! ## a < b < c < d -/
namespace Pk
open PySem PySem.Spec PyProof.Rows L2
def tChain3 (r1 r2 r3 : R2) (ta tb tc td : TE) : TE := fun σ H Q => ta σ H fun x H1 => tb σ H1 fun y H2 => r1 x y H2 fun z H3 => ∃ k, z = .bl k ∧ (if k = true then tc σ H3 fun w' H4 => r2 y w' H4 fun z2 H5 => ∃ k2, z2 = .bl k2 ∧ (if k2 = true then td σ H5 fun v H6 => r3 w' v H6 Q else Q (.bl false) H5) else Q (.bl false) H3)
theorem pe_chain3 {X : Cx} {a b c d : Expr} {ta tb tc td : TE} {pos : Pos} {op1 op2 op3 : CmpOp} {r1 r2 r3 : R2} (h1 : OpR X (compareOp op1) r1) (h2 : OpR X (compareOp op2) r2) (h3 : OpR X (compareOp op3) r3) (ha : PE X a ta) (hb : PE X b tb) (hc : PE X c tc) (hd : PE X d td)
    (hm : lastMarks [op1, op2, op3] [b, c, d] = false := by rfl) : PE X (.Compare a [op1, op2, op3] [b, c, d] pos) (tChain3 r1 r2 r3 ta tb tc td) := by
  refine ⟨fun pins s σ H Q I h => ?_⟩
  refine Compare_chain (thn (ha.run pins s σ H _ I h) fun va s1 hh => ?_) hm
  obtain ⟨x, H1, I1, rx, h⟩ := hh
  refine chain_link (thn (hb.run pins s1 σ H1 _ I1 h) fun vb s2 hh => ?_)
  obtain ⟨y, H2, I2, ry, h⟩ := hh
  refine thn (h1 pins s2 σ H2 x y va vb _ I2 rx ry h) fun vz s3 hh => ?_
  obtain ⟨z, H3, I3, rz, k, rfl, h⟩ := hh
  obtain rfl : vz = .bool k := rz
  refine wpAny_truthy_bool ?_
  cases k with
  | false => exact ⟨.bl false, H3, I3, rfl, h⟩
  | true =>
    refine chain_link (thn (hc.run pins s3 σ H3 _ I3 h) fun vc s4 hh => ?_)
    obtain ⟨w', H4, I4, rw', h⟩ := hh
    refine thn (h2 pins s4 σ H4 y w' vb vc _ I4 ry rw' h) fun vz2 s5 hh => ?_
    obtain ⟨z2, H5, I5, rz2, k2, rfl, h⟩ := hh
    obtain rfl : vz2 = .bool k2 := rz2
    refine wpAny_truthy_bool ?_
    cases k2 with
    | false => exact ⟨.bl false, H5, I5, rfl, h⟩
    | true =>
      refine chain_last (thn (hd.run pins s5 σ H5 _ I5 h) fun vd s6 hh => ?_)
      obtain ⟨v, H6, I6, rv, h⟩ := hh
      exact h3 pins s6 σ H6 w' v vc vd Q I6 rw' rv h
end Pk
namespace KL
open PySem PySem.Spec PyProof.Rows L2 Pk He
/-- a step that fits -/
def spIsStepD (K : Fr) : Sp := fun vs H Q _ => ∃ (t : Addr) (x : Stp) (n : Nat), vs = [.ref t, .int (n : Nat)] ∧ SqT K H t (stV x) ∧ x.ok n = true ∧ n ≤ 10000000 ∧ ∀ H2, Same H H2 → Q (.bl true) H2
theorem nnF {b : Bool} (h : (!b) = true) : (!(!b)) = false := by rw [h]; rfl
theorem let_geL {c : Nat} (h : isLet c = true) : (!decide ((sL [c]).cps.toList < (PySem.Str.ofString "a").cps.toList)) = true := by
  have k : ∀ c ∈ List.range' 97 26, (!decide ([c] < [97])) = true := by decide
  exact k c (let_iff.mp h)
theorem let_leL {c : Nat} (h : isLet c = true) : (!decide ((PySem.Str.ofString "z").cps.toList < (sL [c]).cps.toList)) = true := by
  have k : ∀ c ∈ List.range' 97 26, (!decide ([122] < [c])) = true := by decide
  exact k c (let_iff.mp h)
section
variable {P : Program} {w : World} {K : Fr} {mg : Str → Option Value} {base : Heap} {f : Addr}
-- hint: pi:_law_step[1:] => pi_tup
-- hint: pi:_law_word_here => pi_str
theorem ok_law_is_step (D : Df K "_law_is_step" "_law_is_step" s_law_is_step (ga K "_law_is_step")) (T : Tc w K mg) : Kp P w K mg base 1 (ga K "_law_is_step") (spIsStepD K) := by
  refine kp_of D sc_law_is_step (fun _ _ _ _ _ _ us hl => match us, hl with | [_, _], _ => rfl) ?_ (fun cdv A outer s H vs Q E hr h => ?_)
  · rintro vs H Q E ⟨t, x, n, rfl, _⟩
    rfl
  · obtain ⟨t, x, m, rfl, hx, hok, hm, q⟩ := h
    refine ⟨_, (pss_cons (ps_if (pt_cmpR (eqB K hr.units) (pe_ix (ixS K) (pv 0) pe_int (fun _ _ => rfl)) pe_str (nomark _)) (pss_cons (ps_set (i := 2) sc_law_is_step.nd rfl (Or.inl rfl) (pe_ix (ixS K) (pv 0) pe_int (fun _ _ => rfl))) (pss_cons (ps_set (i := 3) sc_law_is_step.nd rfl (Or.inl rfl) (pe_and (pe_isi (pv 2) T.isi T.str b_str) (pe_one (pe_chain op_le op_le pe_int (pk_b1 (lenA K) T.len b_len (pv 2)) pe_int)))) (pss_one (ps_ret (pe_and (pv 3) (pe_one (pe_cmpR (eqB K hr.units) (pe_lc (own := [("_law_c", 5)]) (g := gName 5) rfl sc_law_is_step.nd (pi_str (pv 2)) (blkOk_by (N := ["_law_step", "_law_total", "_law_word_here", "_law_good", "_law_number", "_law_c"]) (sc := defScope s_law_is_step) (by decide +kernel)) (fun _ _ _ _ _ => (pg_name (i := 5) sc_law_is_step.nd rfl (Or.inl rfl))) (fun _ _ _ _ _ => (pts_one (pt_not (pt_chain op_le_str op_le_str pe_str (pv 5) pe_str)))) (fun _ _ _ _ _ => (pv 5))) (pe_lst pa_nil) (nomark _)))))))) pss_nil) (pss_cons (ps_for PassesOwn.never rfl (pi_tup (pe_slice (slA K) (pv 0) (po_some pe_int) po_none)) (pg_name (i := 4) sc_law_is_step.nd rfl (Or.inl rfl)) (pss_one (ps_if (pw_or (pt_not (pt_val (pe_isi (pv 4) T.isi T.int b_int))) (pw_or1 (pt_val (pe_isi (pv 4) T.isi T.bool b_bool)))).pt (pss_one (ps_ret pe_bl)) pss_nil))) (pss_one (ps_ret (pe_and (pe_chain3 op_le op_le op_lt pe_int (pe_ix (ixS K) (pv 0) pe_int (fun _ _ => rfl)) (pe_ix (ixS K) (pv 0) pe_int (fun _ _ => rfl)) (pv 1)) (pe_one (pe_chain op_le op_le pe_int (pe_ix (ixS K) (pv 0) pe_int (fun _ _ => rfl)) (pe_op op_pow pe_int pe_int)))))))), ?_⟩
    cases x with
    | wr ls =>
      have hx : SqT K H t [.str "write", .str (sL ls)] := hx
      simp only [Stp.ok, Bool.and_eq_true, decide_eq_true_eq] at hok
      have hls : (sL ls).length = ls.length := sL_len ls
      have hwc : (sL ls).cps.size = ls.length := by simp [sL]
      refine ⟨_, rfl, (.inr (.inl ⟨_, _, _, _, rfl, rfl, hx, rfl, (.inl ⟨rfl, _, rfl, ?_⟩)⟩))⟩
      refine iT (sT rfl) ?_
      refine ⟨_, rfl, (.inr (.inl ⟨_, _, _, _, rfl, rfl, hx, rfl, _, rfl, _, _, _, _, rfl, (.base (.str _)), rfl, _, rfl, ?_⟩))⟩
      refine iT rfl ?_
      refine ⟨_, rfl, (.inl ⟨_, rfl, (by exact small_ok (by omega)), _, _, rfl, rfl, _, rfl, ?_⟩)⟩
      refine iT (dT (by omega)) ?_
      refine ⟨_, _, rfl, rfl, _, rfl, _, rfl, ?_⟩
      generalize hσ : List.set _ _ _ = σ1
      simp only [L2.start, List.set_cons_zero, List.set_cons_succ, List.map_cons, List.map_nil, List.length_cons, List.length_nil, List.replicate_succ, List.replicate_zero, List.cons_append, List.nil_append, Nat.reduceAdd, Nat.reduceSub] at hσ
      subst hσ
      refine iT (dT (by omega)) ?_
      refine ⟨_, rfl, _, rfl, fun D1 n => ?_⟩
      refine lc_keep (walk_str (z := sL ls)) n (fun _ => false) (fun _ => V.non) (by rw [hwc]; exact small_ok (by omega)) (fun _ _ => trivial) ?_ ?_
      · rintro i v H3 H4 N N0 hi s2 ⟨rfl, c, hc, rfl⟩ yes no
        have hci : ls[i]? = some c := by
          unfold sL at hc
          rw [List.getElem?_toArray] at hc
          exact hc
        have hcl : isLet c = true := (List.all_eq_true.mp hok.2) _ (List.mem_of_getElem? hci)
        refine ⟨rfl, _, rfl, _, _, rfl, rfl, _, rfl, ?_⟩
        refine iT (let_geL hcl) ?_
        refine ⟨_, _, rfl, rfl, _, rfl, ?_⟩
        refine iF (nnF (let_leL hcl)) ?_
        exact no rfl _ (Same.refl _)
      · intro H4 s4 hD4
        have ek : keeps (sL ls).cps.size (fun _ => false) (fun _ => V.non) = [] := by simp [keeps]
        rw [ek] at hD4
        refine ⟨(by (show 0 ≤ _; decide)), fun p n1 => ?_⟩
        have ne_D1_p := ne_of_none hD4 n1
        generalize hE : upd H4 p _ = H1
        have s1 : Same H4 H1 := hE ▸ same_upd n1
        have e_p := (congrFun hE p).symm.trans upd_same
        clear hE
        refine (.inr (.inl ⟨_, _, _, _, rfl, rfl, (.inl ⟨(SqL.of (s1 _ _ hD4)), (SqL.of e_p)⟩), rfl, rfl, ?_⟩))
        exact q _ (s4.trans s1)
    | pa f l k =>
      have hx : SqT K H t [.str "paste", .int (f : Nat), .int (l : Nat), .int (k : Nat)] := hx
      simp only [Stp.ok, Bool.and_eq_true, decide_eq_true_eq] at hok
      refine ⟨_, rfl, (.inr (.inl ⟨_, _, _, _, rfl, rfl, hx, rfl, (.inl ⟨rfl, _, rfl, ?_⟩)⟩))⟩
      refine iF (by decide +kernel) ?_
      refine ⟨_, rfl, _, rfl, ?_⟩
      refine .inr (.inl ⟨t, _, rfl, hx, (by rintro ⟨h, _⟩; exact absurd h (by show ¬ (HT.sIx 4 0 (some 1) = 0); decide)), fun p hp => ⟨p, rfl, ⟨_, SqT.of upd_same⟩, ?_⟩⟩)
      have s1 : Same H (upd H p (.tup (cutV [V.str "paste", V.int (f : Nat), V.int (l : Nat), V.int (k : Nat)] (some 1) none))) := same_upd hp
      have e_p : (upd H p (.tup (cutV [V.str "paste", V.int (f : Nat), V.int (l : Nat), V.int (k : Nat)] (some 1) none))) p = some (.tup [V.int (f : Nat), V.int (l : Nat), V.int (k : Nat)]) := upd_same
      have hk : ∀ (i : Nat) (v : V), [V.int (f : Nat), V.int (l : Nat), V.int (k : Nat)][i]? = some v → ∃ z : Int, v = .int z := by
        intro i v h
        match i, h with
        | 0, h => cases h; exact ⟨_, rfl⟩
        | 1, h => cases h; exact ⟨_, rfl⟩
        | 2, h => cases h; exact ⟨_, rfl⟩
        | i + 3, h => cases h
      generalize upd H p (.tup (cutV [V.str "paste", V.int (f : Nat), V.int (l : Nat), V.int (k : Nat)] (some 1) none)) = H1 at s1 e_p ⊢
      refine for_tup (xs := [V.int (f : Nat), V.int (l : Nat), V.int (k : Nat)]) (fun j σ HB => ∃ v4 : Option V, σ = [some (.ref t), some (.int (m : Nat)), none, none, v4, none] ∧ HB = H1) ⟨none, rfl, rfl⟩ ?_ ?_ ?_
      · rintro j σ HB hj ⟨v4, _, rfl⟩
        exact SqT.of e_p
      · rintro j v σ HB hv ⟨v4, rfl, rfl⟩
        obtain ⟨z, rfl⟩ := hk j v hv
        refine ⟨_, rfl, _, _, _, _, rfl, (.base (.int _)), rfl, _, rfl, ?_⟩
        refine iF (nF rfl) ?_
        refine ⟨_, rfl, _, _, _, _, rfl, (.base (.int _)), rfl, _, rfl, ?_⟩
        refine iF rfl ?_
        refine ⟨_, rfl, ?_⟩
        exact rfl
      · rintro σ HB ⟨v4, rfl, rfl⟩
        have hx1 := same_sqT s1 hx
        have hp9 : (10 : Int) ^ Int.toNat 9 = 1000000000 := by decide
        refine ⟨_, rfl, (.inr (.inl ⟨_, _, _, _, rfl, rfl, hx1, rfl, _, _, rfl, rfl, _, rfl, ?_⟩))⟩
        refine iT (dT (by omega)) ?_
        refine ⟨_, rfl, (.inr (.inl ⟨_, _, _, _, rfl, rfl, hx1, rfl, _, _, rfl, rfl, _, rfl, ?_⟩))⟩
        refine iT (dT (by omega)) ?_
        refine ⟨_, rfl, _, _, rfl, rfl, _, rfl, ?_⟩
        refine iT (dT (by omega)) ?_
        refine ⟨_, rfl, (.inr (.inl ⟨_, _, _, _, rfl, rfl, hx1, rfl, _, _, rfl, rfl, _, rfl, ?_⟩))⟩
        refine iT (dT (by omega)) ?_
        refine ⟨_, _, rfl, rfl, ⟨(by omega), ⟨(by omega), (by omega)⟩⟩, _, _, rfl, rfl, ?_⟩
        refine qBl (q _ s1) ?_
        rw [hp9]
        exact (decide_eq_true (by omega)).symm
end
end KL
namespace KL
open PySem PySem.Spec PyProof.Rows L2 Pk He
/-- the text with one key's letter changed -/
structure RetOf (st : List Stp) (k c : Nat) (st2 : List Stp) : Prop where
  eq : st2 = relet ((typed st).set k c) 0 st
theorem RetOf.sz {st st2 : List Stp} {k c : Nat} (h : RetOf st k c st2) (hg : Pk.Goes most 0 st) (hc : isLet c = true) : sz st2 = sz st := by
  rw [h.eq]
  exact sz_relet hg (set_let (typed_let hg) hc) (set_len k c)
theorem RetOf.ex {st st2 : List Stp} {k c : Nat} (h : RetOf st k c st2) : ex st2 = ex st := by
  rw [h.eq]
  exact ex_relet (set_len k c)
theorem RetOf.nk {st st2 : List Stp} {k c : Nat} (h : RetOf st k c st2) : nk st2 = nk st := by
  rw [h.eq]
  exact nk_relet (set_len k c)
theorem RetOf.ty {st st2 : List Stp} {k c : Nat} (h : RetOf st k c st2) : typed st2 = (typed st).set k c := by
  rw [h.eq]
  exact typed_relet0 (set_len k c)
theorem relet_relet (l m : List Nat) : ∀ (st : List Stp) (n : Nat), n + nk st ≤ m.length → relet l n (relet m n st) = relet l n st
  | [], n, _ => rfl
  | .wr w :: r, n, h => by
    have e1 : nk (.wr w :: r) = w.length + nk r := by simp [nk, Stp.ks]
    rw [e1] at h
    have hg : ((m.drop n).take w.length).length = w.length := by
      rw [List.length_take, List.length_drop]
      omega
    show Stp.wr ((l.drop n).take ((m.drop n).take w.length).length) :: relet l (n + ((m.drop n).take w.length).length) (relet m (n + w.length) r) = Stp.wr ((l.drop n).take w.length) :: relet l (n + w.length) r
    rw [hg, relet_relet l m r (n + w.length) (by omega)]
  | .pa f a t :: r, n, h => by
    have e1 : nk (.pa f a t :: r) = nk r := by simp [nk, Stp.ks]
    rw [e1] at h
    show Stp.pa f a t :: relet l n (relet m n r) = Stp.pa f a t :: relet l n r
    rw [relet_relet l m r n h]
/-- a text of the same steps with other letters -/
structure RelOf (st a : List Stp) : Prop where
  ex : ∃ ls, ls.length = nk st ∧ a = relet ls 0 st
theorem RelOf.refl (st : List Stp) : RelOf st st := ⟨typed st, typed_len st, (relet_self (typed st) st 0 (by rw [List.drop_zero, ← typed_len, List.take_length])).symm⟩
theorem RelOf.eq {st a b : List Stp} (h : RelOf st a) (g : RelOf st b) (e : typed a = typed b) : a = b := by
  obtain ⟨l, hl, rfl⟩ := h.ex
  obtain ⟨m, hm, rfl⟩ := g.ex
  rw [typed_relet0 hl, typed_relet0 hm] at e
  rw [e]
theorem RelOf.relet {st a : List Stp} {ls : List Nat} (h : RelOf st a) (hl : ls.length = nk a) : RelOf st (KL.relet ls 0 a) := by
  obtain ⟨m, hm, rfl⟩ := h.ex
  rw [nk_relet hm] at hl
  exact ⟨ls, hl, relet_relet ls m st 0 (by omega)⟩
theorem RelOf.step {st a b : List Stp} {k c : Nat} (h : RelOf st a) (g : RetOf a k c b) : RelOf st b := by
  rw [g.eq]
  exact h.relet (set_len k c)
theorem iTail {b : Bool} {H : Hp} {σ : L2.St} {t : TT} {R : Bool → Hp → Prop} (tail : ∀ HC, Same H HC → R false HC) (hA : b = true → (∀ HC, Same H HC → R false HC) → t σ H R) : if b = true then t σ H R else R false H := by
  cases b with
  | true => rw [if_pos rfl]; exact hA rfl tail
  | false => rw [if_neg (by decide)]; exact tail H (Same.refl H)
theorem countP_split {A B C : Nat → Bool} : ∀ {l : List Nat}, (∀ x ∈ l, A x = (B x || C x) ∧ ¬ (B x = true ∧ C x = true)) → l.countP A = l.countP B + l.countP C
  | [], _ => rfl
  | a :: l, h => by
    have h1 := h a (List.mem_cons_self ..)
    have ih := countP_split (l := l) fun x hx => h x (List.mem_cons_of_mem _ hx)
    rw [List.countP_cons, List.countP_cons, List.countP_cons, ih, h1.1]
    have h2 := h1.2
    cases hb : B a <;> cases hc : C a <;> simp [hb, hc] at h2 ⊢ <;> omega
theorem ltr_ret {st st2 : List Stp} {k c x : Nat} (h : typed st2 = (typed st).set k c) (hk : k < nk st) : ltr st2 x = if x = k then c else ltr st x := by
  unfold ltr
  rw [h, List.getD_eq_getElem?_getD, List.getElem?_set, List.getD_eq_getElem?_getD]
  by_cases e : k = x
  · subst e
    rw [if_pos rfl, if_pos (by rw [typed_len]; exact hk), if_pos rfl]
    rfl
  · rw [if_neg e, if_neg (fun z => e z.symm)]
/-- the letter that a key got is counted by so many more -/
theorem cntP_more {st st2 : List Stp} {k c : Nat} (h : typed st2 = (typed st).set k c) (he : ex st2 = ex st) (hk : k < nk st) (hc : ltr st k ≠ c) (p : Nat) : cntP st2 (lP st2 c) p = cntP st (lP st c) p + cnt st k p := by
  rw [← cnt_in]
  unfold cntP
  rw [he]
  refine countP_split fun x _ => ?_
  have e : ltr st2 x = if x = k then c else ltr st x := ltr_ret h hk
  have e1 : lP st2 c x = (ltr st2 x == c) := rfl
  have e2 : lP st c x = (ltr st x == c) := rfl
  rw [e1, e2, e, isIn_one]
  by_cases z : x = k
  · subst z
    simp [hc]
  · simp [z]
/-- the first place of a letter -/
theorem find_let {st : List Stp} {c q : Nat} (hg : Pk.Goes most 0 st) (h : (occ st (lP st c))[0]? = some q) : Txt.find (sL (lts st)) (sL [c]) = (q : Int) := by
  obtain ⟨k, h1, h2, h3, _, h4⟩ := occ_at hg h
  have e2 : lP st c k = (ltr st k == c) := rfl
  rw [e2, beq_iff_eq] at h2
  refine find_sL (by rw [lts_at h1, h2]) fun j hj z => ?_
  have hjl : j < (ex st).length := by rw [ex_len st hg]; omega
  have h5 : (ex st)[j]? = some ((ex st)[j]) := List.getElem?_eq_getElem hjl
  rw [lts_at h5] at z
  have e3 : lP st c ((ex st)[j]) = (ltr st ((ex st)[j]) == c) := rfl
  have h6 := cntP_succ (P := lP st c) h5
  rw [e3, if_pos (by rw [beq_iff_eq]; injection z)] at h6
  have h7 := cntP_mono st (lP st c) (show j + 1 ≤ q by omega)
  omega
theorem set_ltr {st : List Stp} {k : Nat} (hk : k < Pk.nk st) : (typed st).set k (ltr st k) = typed st := by
  refine List.ext_getElem? fun i => ?_
  rw [List.getElem?_set]
  by_cases e : k = i
  · subst e
    rw [if_pos rfl, if_pos (by rw [typed_len]; exact hk), key_typed hk]
  · rw [if_neg e]
theorem ret_back {st st2 st3 : List Stp} {k c : Nat} (hk : k < Pk.nk st) (h : RetOf st k c st2) (g : RetOf st2 k (ltr st k) st3) : st3 = st :=
  (((RelOf.refl st).step h).step g).eq (RelOf.refl st) (by rw [g.ty, h.ty, List.set_set, set_ltr hk])
theorem cut_head {l : List Nat} {k : Nat} (hk : k < l.length) : cutS (sL l) none (some (k : Int)) = sL (l.take k) := by
  unfold cutS
  rw [HT.sIx_none, HT.sIx_nat, sL_len, Nat.min_eq_left (by omega), Nat.sub_zero]
  rfl
theorem cut_tail {l : List Nat} {k : Nat} (hk : k < l.length) : cutS (sL l) (some ((k : Int) + 1)) none = sL (l.drop (k + 1)) := by
  unfold cutS
  rw [HT.sIx_none, show ((k : Int) + 1) = ((k + 1 : Nat) : Int) by omega, HT.sIx_nat, sL_len, Nat.min_eq_left (by omega)]
  show sL ((l.drop (k + 1)).take (l.length - (k + 1))) = _
  rw [List.take_of_length_le (by rw [List.length_drop]; omega)]
theorem set_cut {l : List Nat} {k c : Nat} (hk : k < l.length) : l.set k c = l.take k ++ [c] ++ l.drop (k + 1) := by
  rw [List.set_eq_take_append_cons_drop, if_pos (by omega), List.append_assoc]
  rfl
def spRetZ (K : Fr) : Sp := fun vs H Q _ => ∃ (x : Addr) (k : Int) (c : Nat) (st : List Stp), vs = [.ref x, .int k, .str (sL [c])] ∧ TA_ K H x st ∧ 0 ≤ k ∧ k < (nk st : Nat) ∧ isLet c = true ∧
  ∀ z st2 H2, H z = none → Same H H2 → TA_ K H2 z st2 → Pk.sz st2 = Pk.sz st → Pk.ex st2 = Pk.ex st → typed st2 = (typed st).set k.toNat c → Pk.nk st2 = Pk.nk st → RetOf st k.toNat c st2 → Q (.ref z) H2
theorem retZ {P : Program} {w : World} {K : Fr} {mg : Str → Option Value} {base : Heap} {f : Addr} {k : Nat} (G : Kp P w K mg base k f (spRet K)) : Kp P w K mg base k f (spRetZ K) := by
  refine Kp.sub G fun vs H Q E h => ?_
  obtain ⟨x, k, c, st, rfl, t, h1, h2, h3, q⟩ := h
  refine ⟨x, k.toNat, c, st, by rw [Int.toNat_of_nonneg (by omega)], t, by omega, h3, typed_let t.good, fun z H2 n s t2 => ?_⟩
  have h : RetOf st k.toNat c (relet ((typed st).set k.toNat c) 0 st) := ⟨rfl⟩
  exact q z _ H2 n s t2 (h.sz t.good h3) h.ex h.ty h.nk h
end KL
namespace KL
open PySem PySem.Spec PyProof.Rows L2 Pk He
/-- what an operation gives, and the steps behind it -/
def spAfterD (K : Fr) : Sp := fun vs H Q _ => ∃ (l t : Addr) (as : List Addr) (st : List Stp) (o : Op), vs = [.ref l, .ref t] ∧ H l = some (.lst (as.map V.ref)) ∧ StepsAt K H as st ∧ Goes most 0 st ∧ st.length < 30 ∧ SqT K H t (opV o) ∧ okOp st o ∧ sz st ≤ 1000 ∧ sz (run1 st o) ≤ 1000 ∧
  ∀ (p l2 : Addr) (as2 : List Addr) (H2 : Hp), Same H H2 → H l2 = none → H2 p = some (.tup [.int (res1 st o), .ref l2]) → H2 l2 = some (.lst (as2.map V.ref)) → StepsAt K H2 as2 (run1 st o) → Q (.ref p) H2
theorem seg_wr {st : List Stp} {i : Nat} {w : List Nat} (h : st[i]? = some (.wr w)) : ((typed st).drop (nk (st.take i))).take w.length = w := by
  have e1 := take_succ h
  have e : st = (st.take i ++ [.wr w]) ++ st.drop (i + 1) := by rw [← e1]; exact (List.take_append_drop _ _).symm
  have e2 : typed st = typed (st.take i) ++ (w ++ typed (st.drop (i + 1))) := by
    rw [congrArg typed e, typed_app, typed_app, List.append_assoc]
    show _ ++ ((w ++ []) ++ _) = _
    rw [List.append_nil]
  rw [e2, ← typed_len, List.drop_left, List.take_left]
theorem seg_out {st : List Stp} {i k c : Nat} {w : List Nat} (h : st[i]? = some (.wr w)) (hk : k < nk (st.take i) ∨ nk (st.take i) + w.length ≤ k) : rel1 ((typed st).set k c) (nk (st.take i)) (.wr w) = .wr w := by
  show Stp.wr ((((typed st).set k c).drop (nk (st.take i))).take w.length) = _
  have e := seg_wr h
  rw [List.drop_set]
  split
  · rw [e]
  · rw [List.take_set, e, List.set_eq_of_length_le (by omega)]
theorem seg_in {st : List Stp} {i k c : Nat} {w : List Nat} (h : st[i]? = some (.wr w)) (h1 : nk (st.take i) ≤ k) (h2 : k < nk (st.take i) + w.length) : rel1 ((typed st).set k c) (nk (st.take i)) (.wr w) = .wr (w.take (k - nk (st.take i)) ++ [c] ++ w.drop (k - nk (st.take i) + 1)) := by
  show Stp.wr ((((typed st).set k c).drop (nk (st.take i))).take w.length) = _
  have e := seg_wr h
  rw [List.drop_set, if_neg (by omega), List.take_set, e, List.set_eq_take_append_cons_drop, if_pos (by omega)]
  simp
theorem cutD_to (l : List Nat) (n : Nat) : cutS (sL l) none (some (n : Int)) = sL (l.take n) := by
  unfold cutS
  rw [sL_len, HT.sIx_none, HT.sIx_nat]
  show (⟨((l.drop 0).take (min n l.length - 0)).toArray⟩ : Str) = _
  rw [List.drop_zero, Nat.sub_zero]
  by_cases h : n ≤ l.length
  · rw [Nat.min_eq_left h]
    rfl
  · rw [Nat.min_eq_right (by omega), List.take_length]
    unfold sL
    rw [List.take_of_length_le (by omega)]
theorem cutD_from (l : List Nat) (n : Nat) : cutS (sL l) (some (n : Int)) none = sL (l.drop n) := by
  unfold cutS
  rw [sL_len, HT.sIx_none, HT.sIx_nat]
  show (⟨((l.drop (min n l.length)).take (l.length - min n l.length)).toArray⟩ : Str) = _
  by_cases h : n ≤ l.length
  · rw [Nat.min_eq_left h, List.take_of_length_le (by rw [List.length_drop]; exact Nat.le_refl _)]
    unfold sL
    rfl
  · rw [Nat.min_eq_right (by omega), Nat.sub_self, List.take_zero, List.drop_of_length_le (by omega)]
    rfl
theorem nV_intsD (l : List Nat) : nV l = (l.map fun i : Nat => (i : Int)).map V.int := by
  unfold nV
  rw [List.map_map]
  rfl
theorem count_intsD (l : List Nat) (k : Nat) : (l.map fun i : Nat => (i : Int)).count (k : Int) = l.count k := by
  induction l with
  | nil => rfl
  | cons x r ih =>
    rw [List.map_cons, List.count_cons, List.count_cons, ih]
    congr 1
    by_cases h : x = k
    · subst h
      rw [if_pos (beq_self_eq_true _), if_pos (beq_self_eq_true _)]
    · rw [if_neg (by rw [beq_iff_eq]; omega), if_neg (by rw [beq_iff_eq]; exact h)]
section
variable {P : Program} {w : World} {K : Fr} {mg : Str → Option Value} {base : Heap} {f : Addr}
theorem ok_law_after (D : Df K "_law_after" "_law_after" s_law_after (ga K "_law_after")) (T : Tc w K mg) (G_law_keys : Kp P w K mg base 1 (ga K "_law_keys") (spKeysD K)) (G_law_is_step : Kp P w K mg base 1 (ga K "_law_is_step") (spIsStepD K)) : Kp P w K mg base 3 (ga K "_law_after") (spAfterD K) := by
  refine kp_of D sc_law_after (fun _ _ _ _ _ _ us hl => match us, hl with | [_, _], _ => rfl) ?_ (fun cdv A outer s H vs Q E hr h => ?_)
  · rintro vs H Q E ⟨l, t, as, st, o, rfl, _⟩
    rfl
  · obtain ⟨l, t, as, st, o, rfl, hl, hst, good, few, ht, hok, hsz, hsz2, q⟩ := h
    have hal := hst.len
    refine ⟨_, (pss_cons (ps_asg (pk_call G_law_keys (hr.mono (by omega)) T.gKeys (pa_cons (pv 0) pa_nil)) (pg_tup rfl (pgs_cons (pg_name (i := 2) sc_law_after.nd rfl (Or.inl rfl)) (pgs_cons (pg_name (i := 3) sc_law_after.nd rfl (Or.inl rfl)) pgs_nil)))) (pss_cons (ps_if (pt_cmpR (neB K hr.units) (pe_ix (ixS K) (pv 1) pe_int (fun _ _ => rfl)) pe_str (nomark _)) (pss_cons (ps_if (pw_or (pt_cmpR (eqB K hr.units) (pk_b1 (lenA K) T.len b_len (pv 0)) pe_int (nomark _)) (pw_or1 (pt_not (pt_val (pk_call G_law_is_step (hr.mono (by omega)) T.g_law_is_step (pa_cons (pv 1) (pa_cons (pk_b1 (lenA K) T.len b_len (pv 3)) pa_nil))))))).pt (pss_one (ps_ret (pe_tup (pa_cons (pe_tup (pa_cons pe_str (pa_cons pe_str (pa_cons (pk_b1 (lenA K) T.len b_len (pv 0)) pa_nil)))) (pa_cons (pv 0) pa_nil))))) pss_nil) (pss_cons (ps_set (i := 4) sc_law_after.nd rfl (Or.inl rfl) (pe_op (addA K) (pv 0) (pe_lst (pa_cons (pv 1) pa_nil)))) (pss_one (ps_ret (pe_tup (pa_cons (pk_b1 (lenA K) T.len b_len (pe_ix (ixS K) (pk_call G_law_keys (hr.mono (by omega)) T.gKeys (pa_cons (pv 4) pa_nil)) pe_int (fun _ _ => rfl))) (pa_cons (pv 4) pa_nil))))))) pss_nil) (pss_cons (ps_par (i := 5) (j := 6) rfl sc_law_after.nd rfl rfl (by decide) rfl rfl (pa_cons (pe_ix (ixS K) (pv 1) pe_int (fun _ _ => rfl)) (pa_cons (pe_ix (ixS K) (pv 1) pe_int (fun _ _ => rfl)) pa_nil)) (by rfl)) (pss_cons (ps_if (pw_or (pt_not (pt_val (pe_isi (pv 5) T.isi T.int b_int))) (pw_or (pt_val (pe_isi (pv 5) T.isi T.bool b_bool)) (pw_or1 (pt_not (pt_chain op_le op_lt pe_int (pv 5) (pk_b1 (lenA K) T.len b_len (pv 3))))))).pt (pss_one (ps_ret (pe_tup (pa_cons (pe_tup (pa_cons pe_str (pa_cons pe_str pa_nil))) (pa_cons (pv 0) pa_nil))))) pss_nil) (pss_cons (ps_if (pw_or (pt_not (pt_val (pe_isi (pv 6) T.isi T.str b_str))) (pw_or (pt_cmpR (neB K hr.units) (pk_b1 (lenA K) T.len b_len (pv 6)) pe_int (nomark _)) (pw_or1 (pt_not (pt_chain op_le_str op_le_str pe_str (pv 6) pe_str))))).pt (pss_one (ps_ret (pe_tup (pa_cons (pe_tup (pa_cons pe_str (pa_cons pe_str pa_nil))) (pa_cons (pv 0) pa_nil))))) pss_nil) (pss_cons (ps_par (i := 4) (j := 7) rfl sc_law_after.nd rfl rfl (by decide) rfl rfl (pa_cons (pe_lst pa_nil) (pa_cons pe_int pa_nil)) (by rfl)) (pss_cons (ps_for PassesOwn.never rfl (pi_list (pv 0)) (pg_name (i := 8) sc_law_after.nd rfl (Or.inl rfl)) (pss_cons (ps_if (pt_cmpR (eqB K hr.units) (pe_ix (ixS K) (pv 8) pe_int (fun _ _ => rfl)) pe_str (nomark _)) (pss_cons (ps_par (i := 9) (j := 10) rfl sc_law_after.nd rfl rfl (by decide) rfl rfl (pa_cons (pe_ix (ixS K) (pv 8) pe_int (fun _ _ => rfl)) (pa_cons (pe_op op_sub (pe_ix (ixS K) (pv 3) (pv 5) (fun _ _ => rfl)) (pv 7)) pa_nil)) (by rfl)) (pss_cons (ps_set (i := 7) sc_law_after.nd rfl (Or.inl rfl) (pe_op (addA K) (pv 7) (pk_b1 (lenA K) T.len b_len (pv 9)))) (pss_one (ps_set (i := 8) sc_law_after.nd rfl (Or.inl rfl) (pe_ifExp (pt_chain op_le op_lt pe_int (pv 10) (pk_b1 (lenA K) T.len b_len (pv 9))) (pe_tup (pa_cons pe_str (pa_cons (pe_op (addA K) (pe_op (addA K) (pe_slice (slA K) (pv 9) po_none (po_some (pv 10))) (pv 6)) (pe_slice (slA K) (pv 9) (po_some (pe_op (addA K) (pv 10) pe_int)) po_none)) pa_nil))) (pv 8)))))) pss_nil) (pss_one (ps_expr (pe_bm PySem.F.plainAttrs_list PySem.F.slot_list_append PySem.F.type_list_append mt_append (pv 4) (pa_cons (pv 8) pa_nil)))))) (pss_one (ps_ret (pe_tup (pa_cons (pe_ifExp (pt_cmpR (neB K hr.units) (pe_ix (ixS K) (pv 2) (pe_ix (ixS K) (pv 3) (pv 5) (fun _ _ => rfl)) (fun _ _ => rfl)) (pv 6) (nomark _)) (pe_cntK K (pv 3) (pa_cons (pe_ix (ixS K) (pv 3) (pv 5) (fun _ _ => rfl)) pa_nil)) pe_int) (pa_cons (pv 4) pa_nil)))))))))))), ?_⟩
    refine ⟨_, rfl, _, _, _, rfl, hl, hst, good, (by omega), (by omega), fun p L H2 s1 n e e1 => ?_⟩
    have ne_l_L := ne_of_none hl n
    refine ⟨_, _, rfl, (SqT.of e), rfl, _, _, rfl, _, _, rfl, rfl, _, rfl, ?_⟩
    generalize hσ : List.set _ _ _ = σ1
    simp only [L2.start, List.set_cons_zero, List.set_cons_succ, List.map_cons, List.map_nil, List.length_cons, List.length_nil, List.replicate_succ, List.replicate_zero, List.cons_append, List.nil_append, Nat.reduceAdd, Nat.reduceSub] at hσ
    subst hσ
    have hexl : (nV (ex st)).length = sz st := by rw [nV_len, ex_len _ good]
    cases o with
    | st x =>
      cases x with
      | wr ls =>
        have ht2 : SqT K H t [.str "write", .str (sL ls)] := ht
        refine (.inr (.inl ⟨_, _, _, _, rfl, rfl, (same_sqT s1 ht2), rfl, (.inl ⟨rfl, _, rfl, ?_⟩)⟩))
        refine iT (nT (by decide +kernel)) ?_
        refine ⟨_, rfl, (.inr (.inl ⟨_, _, rfl, (.inl (SqL.of (s1 _ _ hl))), (.inl ⟨rfl, _, rfl, ?_⟩)⟩))⟩
        refine iF (vF (by (simp only [cV_len, nV_len, List.length_append, List.length_map, List.length_take, List.length_drop, List.length_range, sL_len, typed_len, lts_len, kvL_len]; omega))) ?_
        refine ⟨_, rfl, _, rfl, (.inr (.inl ⟨_, _, rfl, (.inl (SqL.of e1)), ?_⟩))⟩
        have okx : (Stp.wr ls).ok (nV (ex st)).length = true := by
          have h9 := (goes_app.mp hok.1).2.1
          rw [Nat.zero_add] at h9
          rw [hexl]
          exact h9
        refine ⟨t, Stp.wr ls, _, rfl, same_sqT s1 ht, okx, by omega, fun H3 s3 => ?_⟩
        refine ⟨_, rfl, ?_⟩
        refine iF (nF rfl) ?_
        refine ⟨_, rfl, _, rfl, (by (show 1 ≤ _; decide)), fun p1 n1 => ?_⟩
        have ne_l_p1 := ne_of_none ((s1.trans s3) _ _ hl) n1
        have ne_L_p1 := ne_of_none (s3 _ _ e1) n1
        generalize hE : upd H3 p1 _ = H1
        have s2 : Same H3 H1 := hE ▸ same_upd n1
        have e_p1 := (congrFun hE p1).symm.trans upd_same
        clear hE
        refine (.inr (.inr (.inl ⟨_, _, _, _, rfl, rfl, (s2 _ _ (s3 _ _ (s1 _ _ hl))), e_p1, (by exact small_lt (by simp only [cV_len, nV_len, List.length_append, List.length_map, List.length_take, List.length_drop, List.length_range, sL_len, typed_len, lts_len, kvL_len]; omega)), fun p2 n2 => ?_⟩)))
        have ne_l_p2 := ne_of_none (((s1.trans s3).trans s2) _ _ hl) n2
        have ne_L_p2 := ne_of_none ((s3.trans s2) _ _ e1) n2
        have ne_p1_p2 := ne_of_none e_p1 n2
        generalize hE : upd H1 p2 _ = H11
        have s4 : Same H1 H11 := hE ▸ same_upd n2
        have e_p2 := (congrFun hE p2).symm.trans upd_same
        clear hE
        have e_q : H11 p2 = some (.lst ((as ++ [t]).map V.ref)) := by rw [e_p2, List.map_append]; rfl
        have sA : Same H H11 := ((s1.trans s3).trans s2).trans s4
        have hst2 : StepsAt K H11 (as ++ [t]) (st ++ [Stp.wr ls]) := (hst.same sA).snoc (same_sqT sA ht)
        have good2 : Goes most 0 (st ++ [Stp.wr ls]) := hok.1
        have len2 : (st ++ [Stp.wr ls]).length ≤ 30 := by rw [List.length_append]; show _ + 1 ≤ _; omega
        have sz2 : sz (st ++ [Stp.wr ls]) ≤ 1000 := hsz2
        have hexl2 : (nV (ex (st ++ [Stp.wr ls]))).length = sz (st ++ [Stp.wr ls]) := by rw [nV_len, ex_len _ good2]
        clear e_p2 hst
        refine ⟨_, rfl, _, _, _, rfl, e_q, hst2, good2, (by omega), (by omega), fun p3 L1 H21 s5 n3 e2 e3 => ?_⟩
        have ne_l_L1 := ne_of_none (sA _ _ hl) n3
        have ne_L_L1 := ne_of_none (((s3.trans s2).trans s4) _ _ e1) n3
        have ne_p1_L1 := ne_of_none (s4 _ _ e_p1) n3
        have ne_p2_L1 := ne_of_none e_q n3
        refine (.inr (.inl ⟨_, _, _, _, rfl, rfl, (SqT.of e2), rfl, (.inr (.inl ⟨_, _, rfl, (.inl (SqL.of e3)), _, rfl, (by (show 2 ≤ _; decide)), fun p4 n4 => ?_⟩))⟩))
        have ne_l_p4 := ne_of_none ((sA.trans s5) _ _ hl) n4
        have ne_L_p4 := ne_of_none ((((s3.trans s2).trans s4).trans s5) _ _ e1) n4
        have ne_p1_p4 := ne_of_none ((s4.trans s5) _ _ e_p1) n4
        have ne_p2_p4 := ne_of_none (s5 _ _ e_q) n4
        have ne_L1_p4 := ne_of_none e3 n4
        generalize hE : upd H21 p4 _ = H12
        have s6 : Same H21 H12 := hE ▸ same_upd n4
        have e_p4 := (congrFun hE p4).symm.trans upd_same
        clear hE
        rw [hexl2] at e_p4
        exact q p4 p2 (as ++ [t]) H12 ((sA.trans s5).trans s6) (((s1.trans s3).trans s2).free n2) e_p4 (s6 _ _ (s5 _ _ e_q)) (hst2.same (s5.trans s6))
      | pa f0 l0 t0 =>
        have ht2 : SqT K H t [.str "paste", .int (f0 : Nat), .int (l0 : Nat), .int (t0 : Nat)] := ht
        refine (.inr (.inl ⟨_, _, _, _, rfl, rfl, (same_sqT s1 ht2), rfl, (.inl ⟨rfl, _, rfl, ?_⟩)⟩))
        refine iT (nT (by decide +kernel)) ?_
        refine ⟨_, rfl, (.inr (.inl ⟨_, _, rfl, (.inl (SqL.of (s1 _ _ hl))), (.inl ⟨rfl, _, rfl, ?_⟩)⟩))⟩
        refine iF (vF (by (simp only [cV_len, nV_len, List.length_append, List.length_map, List.length_take, List.length_drop, List.length_range, sL_len, typed_len, lts_len, kvL_len]; omega))) ?_
        refine ⟨_, rfl, _, rfl, (.inr (.inl ⟨_, _, rfl, (.inl (SqL.of e1)), ?_⟩))⟩
        have okx : (Stp.pa f0 l0 t0).ok (nV (ex st)).length = true := by
          have h9 := (goes_app.mp hok.1).2.1
          rw [Nat.zero_add] at h9
          rw [hexl]
          exact h9
        refine ⟨t, Stp.pa f0 l0 t0, _, rfl, same_sqT s1 ht, okx, by omega, fun H3 s3 => ?_⟩
        refine ⟨_, rfl, ?_⟩
        refine iF (nF rfl) ?_
        refine ⟨_, rfl, _, rfl, (by (show 1 ≤ _; decide)), fun p1 n1 => ?_⟩
        have ne_l_p1 := ne_of_none ((s1.trans s3) _ _ hl) n1
        have ne_L_p1 := ne_of_none (s3 _ _ e1) n1
        generalize hE : upd H3 p1 _ = H1
        have s2 : Same H3 H1 := hE ▸ same_upd n1
        have e_p1 := (congrFun hE p1).symm.trans upd_same
        clear hE
        refine (.inr (.inr (.inl ⟨_, _, _, _, rfl, rfl, (s2 _ _ (s3 _ _ (s1 _ _ hl))), e_p1, (by exact small_lt (by simp only [cV_len, nV_len, List.length_append, List.length_map, List.length_take, List.length_drop, List.length_range, sL_len, typed_len, lts_len, kvL_len]; omega)), fun p2 n2 => ?_⟩)))
        have ne_l_p2 := ne_of_none (((s1.trans s3).trans s2) _ _ hl) n2
        have ne_L_p2 := ne_of_none ((s3.trans s2) _ _ e1) n2
        have ne_p1_p2 := ne_of_none e_p1 n2
        generalize hE : upd H1 p2 _ = H11
        have s4 : Same H1 H11 := hE ▸ same_upd n2
        have e_p2 := (congrFun hE p2).symm.trans upd_same
        clear hE
        have e_q : H11 p2 = some (.lst ((as ++ [t]).map V.ref)) := by rw [e_p2, List.map_append]; rfl
        have sA : Same H H11 := ((s1.trans s3).trans s2).trans s4
        have hst2 : StepsAt K H11 (as ++ [t]) (st ++ [Stp.pa f0 l0 t0]) := (hst.same sA).snoc (same_sqT sA ht)
        have good2 : Goes most 0 (st ++ [Stp.pa f0 l0 t0]) := hok.1
        have len2 : (st ++ [Stp.pa f0 l0 t0]).length ≤ 30 := by rw [List.length_append]; show _ + 1 ≤ _; omega
        have sz2 : sz (st ++ [Stp.pa f0 l0 t0]) ≤ 1000 := hsz2
        have hexl2 : (nV (ex (st ++ [Stp.pa f0 l0 t0]))).length = sz (st ++ [Stp.pa f0 l0 t0]) := by rw [nV_len, ex_len _ good2]
        clear e_p2 hst
        refine ⟨_, rfl, _, _, _, rfl, e_q, hst2, good2, (by omega), (by omega), fun p3 L1 H21 s5 n3 e2 e3 => ?_⟩
        have ne_l_L1 := ne_of_none (sA _ _ hl) n3
        have ne_L_L1 := ne_of_none (((s3.trans s2).trans s4) _ _ e1) n3
        have ne_p1_L1 := ne_of_none (s4 _ _ e_p1) n3
        have ne_p2_L1 := ne_of_none e_q n3
        refine (.inr (.inl ⟨_, _, _, _, rfl, rfl, (SqT.of e2), rfl, (.inr (.inl ⟨_, _, rfl, (.inl (SqL.of e3)), _, rfl, (by (show 2 ≤ _; decide)), fun p4 n4 => ?_⟩))⟩))
        have ne_l_p4 := ne_of_none ((sA.trans s5) _ _ hl) n4
        have ne_L_p4 := ne_of_none ((((s3.trans s2).trans s4).trans s5) _ _ e1) n4
        have ne_p1_p4 := ne_of_none ((s4.trans s5) _ _ e_p1) n4
        have ne_p2_p4 := ne_of_none (s5 _ _ e_q) n4
        have ne_L1_p4 := ne_of_none e3 n4
        generalize hE : upd H21 p4 _ = H12
        have s6 : Same H21 H12 := hE ▸ same_upd n4
        have e_p4 := (congrFun hE p4).symm.trans upd_same
        clear hE
        rw [hexl2] at e_p4
        exact q p4 p2 (as ++ [t]) H12 ((sA.trans s5).trans s6) (((s1.trans s3).trans s2).free n2) e_p4 (s6 _ _ (s5 _ _ e_q)) (hst2.same (s5.trans s6))
    | re p0 c =>
      have ht2 : SqT K H t [.str "retype", .int (p0 : Nat), .str (sL [c])] := ht
      have hok2 : p0 < sz st ∧ isLet c = true := hok
      have hlt : (p0 : Int) < ((nV (ex st)).length : Nat) := by rw [hexl]; omega
      have hl1 : (sL [c]).length = 1 := sL_len [c]
      refine (.inr (.inl ⟨_, _, _, _, rfl, rfl, (same_sqT s1 ht2), rfl, (.inl ⟨rfl, _, rfl, ?_⟩)⟩))
      refine iF (nF (sT rfl)) ?_
      refine ⟨_, rfl, (.inr (.inl ⟨_, _, _, _, rfl, rfl, (same_sqT s1 ht2), rfl, _, rfl, (.inr (.inl ⟨_, _, _, _, rfl, rfl, (same_sqT s1 ht2), rfl, _, _, rfl, _, rfl, _, _, _, _, rfl, (.base (.int _)), rfl, _, rfl, ?_⟩))⟩))⟩
      generalize hσ : List.set _ _ _ = σ1
      simp only [L2.start, List.set_cons_zero, List.set_cons_succ, List.map_cons, List.map_nil, List.length_cons, List.length_nil, List.replicate_succ, List.replicate_zero, List.cons_append, List.nil_append, Nat.reduceAdd, Nat.reduceSub] at hσ
      subst hσ
      refine iF (nF rfl) ?_
      refine ⟨_, rfl, _, _, _, _, rfl, (.base (.int _)), rfl, _, rfl, ?_⟩
      refine iF rfl ?_
      refine ⟨_, rfl, _, _, rfl, rfl, _, rfl, ?_⟩
      refine iT (dT (by omega)) ?_
      refine ⟨_, rfl, (.inr (.inl ⟨_, _, rfl, (.inl (SqL.of e1)), _, _, rfl, rfl, _, rfl, ?_⟩))⟩
      refine iF (nF (dT (by omega))) ?_
      refine ⟨_, rfl, _, _, _, _, rfl, (.base (.str _)), rfl, _, rfl, ?_⟩
      refine iF (nF rfl) ?_
      refine ⟨_, rfl, (.inl ⟨_, rfl, (by exact small_ok (by omega)), (.inl ⟨rfl, _, rfl, ?_⟩)⟩)⟩
      refine iF (nF (vT rfl)) ?_
      refine ⟨_, rfl, _, _, rfl, rfl, _, rfl, ?_⟩
      refine iT (let_geL hok2.2) ?_
      refine ⟨_, _, rfl, rfl, _, rfl, ?_⟩
      refine iF (nnF (let_leL hok2.2)) ?_
      refine ⟨(by (show 0 ≤ _; decide)), fun p1 n1 => ?_⟩
      have ne_l_p1 := ne_of_none (s1 _ _ hl) n1
      have ne_L_p1 := ne_of_none e1 n1
      refine ⟨_, _, rfl, ?_⟩
      generalize hσ : List.set _ _ _ = σ1
      simp only [L2.start, List.set_cons_zero, List.set_cons_succ, List.map_cons, List.map_nil, List.length_cons, List.length_nil, List.replicate_succ, List.replicate_zero, List.cons_append, List.nil_append, Nat.reduceAdd, Nat.reduceSub] at hσ
      subst hσ
      refine ⟨_, rfl, ?_⟩
      refine ⟨_, rfl, ⟨_, (SqL.of (same_upd n1 _ _ (s1 _ _ hl)))⟩, ?_⟩
      obtain ⟨k, hpk⟩ : ∃ k, (ex st)[p0]? = some k := ⟨(ex st)[p0]'(by rw [ex_len _ good]; exact hok2.1), List.getElem?_eq_getElem _⟩
      have hkey : keyOf st p0 = k := by unfold keyOf; rw [List.getD_eq_getElem?_getD, hpk]; rfl
      have hrun : run1 st (.re p0 c) = relet ((typed st).set k c) 0 st := by show relet ((typed st).set (keyOf st p0) c) 0 st = _; rw [hkey]
      have hres : res1 st (.re p0 c) = if ltr st k = c then 0 else ((cnt st k (sz st) : Nat) : Int) := by show (if ltr st (keyOf st p0) = c then (0 : Int) else ((cnt st (keyOf st p0) (sz st) : Nat) : Int)) = _; rw [hkey]
      have hkl : k < nk st := ex_lt st k (List.mem_of_getElem? hpk)
      have hat : atI (nV (ex st)) (p0 : Int) = some (.int (k : Nat)) := atI_nat (by unfold nV; rw [List.getElem?_map, hpk]; rfl)
      simp only [hrun, hres] at q
      have hn : (as.map V.ref).length = st.length := by rw [List.length_map, hal]
      refine for_list (xs := as.map V.ref) (fun i σ HB => ∃ (bs : List Addr) (v8 v9 v10 : Option V), σ = [some (.ref l), some (.ref t), some (.str (sL (typed st))), some (.ref L), some (.ref p1), some (.int (p0 : Nat)), some (.str (sL [c])), some (.int (nk (st.take i) : Nat)), v8, v9, v10] ∧ Same H2 HB ∧ HB p1 = some (.lst (bs.map V.ref)) ∧ StepsAt K HB bs (relet ((typed st).set k c) 0 (st.take i))) ⟨[], none, none, none, rfl, same_upd n1, upd_same, StepsAt.nil⟩ ?_ ?_ ?_
      · rintro i σ HB _ ⟨bs, v8, v9, v10, _, sB, _⟩
        exact SqL.of (sB _ _ (s1 _ _ hl))
      · rintro i v σ HB hv ⟨bs, v8, v9, v10, rfl, sB, eB, hbs⟩
        have hi : i < st.length := by
          have := (List.getElem?_eq_some_iff.mp hv).1
          rwa [hn] at this
        obtain ⟨x, hx⟩ : ∃ x, st[i]? = some x := ⟨st[i], List.getElem?_eq_getElem hi⟩
        obtain ⟨cx, hc, hcx⟩ := hst.at_ i x hx
        have ev : v = .ref cx := map_at hc hv
        subst ev
        have hcB := same_sqT (s1.trans sB) hcx
        have hrt := relet_take ((typed st).set k c) hx
        have hbl := hbs.len
        rw [relet_len, List.length_take] at hbl
        have hbl2 : (bs.map V.ref).length < sizeLine := by
          rw [List.length_map]
          exact small_lt (by omega)
        cases x with
        | wr wd =>
          have hcB : SqT K HB cx [.str "write", .str (sL wd)] := hcB
          obtain ⟨ok, lim⟩ := goes_at good hx
          simp only [Stp.ok, Bool.and_eq_true, decide_eq_true_eq] at ok
          have hwl : (sL wd).length = wd.length := sL_len wd
          have hwz : (sL wd).length ≤ sizeLine := by rw [hwl]; exact small_ok (by omega)
          have hnk : ((nk (st.take (i + 1)) : Nat) : Int) = (nk (st.take i) : Nat) + ((sL wd).length : Nat) := by
            rw [take_succ hx, nk_app, hwl]
            show ((nk (st.take i) + (wd.length + 0) : Nat) : Int) = _
            omega
          rcases Nat.lt_or_ge k (nk (st.take i)) with h1 | h1
          · refine ⟨_, rfl, (.inr (.inl ⟨_, _, _, _, rfl, rfl, hcB, rfl, (.inl ⟨rfl, _, rfl, ?_⟩)⟩))⟩
            refine iT (sT rfl) ?_
            refine ⟨_, rfl, (.inr (.inl ⟨_, _, _, _, rfl, rfl, hcB, rfl, _, rfl, _, rfl, (.inl ⟨_, _, _, _, rfl, rfl, (SqL.of (sB _ _ e1)), hat, _, rfl, _, _, rfl, rfl, _, _, rfl, _, rfl, _, rfl, (.inl ⟨_, rfl, (by omega), (.inl ⟨_, _, rfl, rfl, _, rfl, _, _, rfl, rfl, _, rfl, ?_⟩)⟩)⟩)⟩))⟩
            generalize hσ : List.set _ _ _ = σ1
            simp only [L2.start, List.set_cons_zero, List.set_cons_succ, List.map_cons, List.map_nil, List.length_cons, List.length_nil, List.replicate_succ, List.replicate_zero, List.cons_append, List.nil_append, Nat.reduceAdd, Nat.reduceSub] at hσ
            subst hσ
            refine iF (dF (by omega)) ?_
            refine ⟨_, rfl, ?_⟩
            refine iF rfl ?_
            refine ⟨_, rfl, _, rfl, (.inl ⟨rfl, ⟨_, (SqL.of eB)⟩⟩), _, rfl, _, _, _, rfl, rfl, eB, (by omega), ?_⟩
            generalize hE : upd HB p1 _ = H1
            have b : But p1 HB H1 := hE ▸ but_upd
            have s2 : Same H2 H1 := hE ▸ same_own sB n1
            have s3 : Same H H1 := hE ▸ same_own (s1.trans sB) (s1.free n1)
            have e_p1 := (congrFun hE p1).symm.trans upd_same
            clear hE
            rw [hnk, hrt, seg_out hx (.inl h1)]
            exact ⟨bs ++ [cx], _, _, _, rfl, s2, by rw [e_p1, List.map_append]; rfl, (steps_butL eB b hbs).snoc (sqT_butL eB b hcB)⟩
          · rcases Nat.lt_or_ge k (nk (st.take i) + wd.length) with h2 | h2
            · obtain ⟨m, hm⟩ : ∃ m : Nat, k = nk (st.take i) + m := ⟨k - nk (st.take i), by omega⟩
              have hmI : (k : Int) - (nk (st.take i) : Nat) = (m : Nat) := by omega
              have hm1 : (m : Int) + 1 = ((m + 1 : Nat) : Int) := by omega
              refine ⟨_, rfl, (.inr (.inl ⟨_, _, _, _, rfl, rfl, hcB, rfl, (.inl ⟨rfl, _, rfl, ?_⟩)⟩))⟩
              refine iT (sT rfl) ?_
              refine ⟨_, rfl, (.inr (.inl ⟨_, _, _, _, rfl, rfl, hcB, rfl, _, rfl, _, rfl, (.inl ⟨_, _, _, _, rfl, rfl, (SqL.of (sB _ _ e1)), hat, _, rfl, _, _, rfl, rfl, _, _, rfl, _, rfl, _, rfl, (.inl ⟨_, rfl, (by omega), (.inl ⟨_, _, rfl, rfl, _, rfl, _, _, rfl, rfl, _, rfl, ?_⟩)⟩)⟩)⟩))⟩
              generalize hσ : List.set _ _ _ = σ1
              simp only [L2.start, List.set_cons_zero, List.set_cons_succ, List.map_cons, List.map_nil, List.length_cons, List.length_nil, List.replicate_succ, List.replicate_zero, List.cons_append, List.nil_append, Nat.reduceAdd, Nat.reduceSub] at hσ
              subst hσ
              refine iT (dT (by omega)) ?_
              refine ⟨_, rfl, (.inl ⟨_, rfl, (by omega), _, _, rfl, rfl, _, rfl, ?_⟩)⟩
              refine iT (dT (by omega)) ?_
              refine ⟨_, rfl, _, rfl, _, rfl, (.inr (.inr ⟨_, rfl, (by omega), _, rfl, ?_⟩))⟩
              simp only [hmI, cutD_to]
              refine (.inr (.inl ⟨_, _, rfl, rfl, (by exact small_lt (by simp only [cV_len, nV_len, List.length_append, List.length_map, List.length_take, List.length_drop, List.length_range, sL_len, typed_len, lts_len, kvL_len]; omega)), _, rfl, _, rfl, (.inl ⟨_, _, rfl, rfl, _, rfl, (.inr (.inr ⟨_, rfl, (by omega), ?_⟩))⟩)⟩))
              simp only [hm1, cutD_from, sL_app]
              have hla : (sL (wd.take m ++ [c])).length + (sL (wd.drop (m + 1))).length ≤ sizeLine := by
                rw [sL_len, sL_len, List.length_append, List.length_take, List.length_drop]
                exact small_ok (by show _ + 1 + _ ≤ _; omega)
              refine (.inr (.inl ⟨_, _, rfl, rfl, (by omega), (by (show 2 ≤ _; decide)), fun p2 n2 => ?_⟩))
              have ne_l_p2 := ne_of_none ((s1.trans sB) _ _ hl) n2
              have ne_L_p2 := ne_of_none (sB _ _ e1) n2
              have ne_p1_p2 := ne_of_none eB n2
              generalize hE : upd HB p2 _ = H1
              have s2 : Same HB H1 := hE ▸ same_upd n2
              have e_p2 := (congrFun hE p2).symm.trans upd_same
              clear hE
              refine ⟨_, rfl, (.inl ⟨rfl, ⟨_, (SqL.of (s2 _ _ eB))⟩⟩), _, rfl, _, _, _, rfl, rfl, (s2 _ _ eB), (by omega), ?_⟩
              generalize hE : upd H1 p1 _ = H11
              have b : But p1 H1 H11 := hE ▸ but_upd
              have s3 : Same H2 H11 := hE ▸ same_own (sB.trans s2) n1
              have s4 : Same H H11 := hE ▸ same_own ((s1.trans sB).trans s2) (s1.free n1)
              have e_p1 := (congrFun hE p1).symm.trans upd_same
              clear hE
              rw [sL_app] at e_p2
              rw [hnk, hrt, seg_in hx h1 h2, show k - nk (st.take i) = m by omega]
              exact ⟨bs ++ [p2], _, _, _, rfl, s3, by rw [e_p1, List.map_append]; rfl, (steps_butL (s2 _ _ eB) b (hbs.same s2)).snoc (SqT.of (b _ _ (ne_of_none eB n2).symm e_p2))⟩
            · refine ⟨_, rfl, (.inr (.inl ⟨_, _, _, _, rfl, rfl, hcB, rfl, (.inl ⟨rfl, _, rfl, ?_⟩)⟩))⟩
              refine iT (sT rfl) ?_
              refine ⟨_, rfl, (.inr (.inl ⟨_, _, _, _, rfl, rfl, hcB, rfl, _, rfl, _, rfl, (.inl ⟨_, _, _, _, rfl, rfl, (SqL.of (sB _ _ e1)), hat, _, rfl, _, _, rfl, rfl, _, _, rfl, _, rfl, _, rfl, (.inl ⟨_, rfl, (by omega), (.inl ⟨_, _, rfl, rfl, _, rfl, _, _, rfl, rfl, _, rfl, ?_⟩)⟩)⟩)⟩))⟩
              generalize hσ : List.set _ _ _ = σ1
              simp only [L2.start, List.set_cons_zero, List.set_cons_succ, List.map_cons, List.map_nil, List.length_cons, List.length_nil, List.replicate_succ, List.replicate_zero, List.cons_append, List.nil_append, Nat.reduceAdd, Nat.reduceSub] at hσ
              subst hσ
              refine iT (dT (by omega)) ?_
              refine ⟨_, rfl, (.inl ⟨_, rfl, (by omega), _, _, rfl, rfl, _, rfl, ?_⟩)⟩
              refine iF (dF (by omega)) ?_
              refine ⟨_, rfl, _, rfl, (.inl ⟨rfl, ⟨_, (SqL.of eB)⟩⟩), _, rfl, _, _, _, rfl, rfl, eB, (by omega), ?_⟩
              generalize hE : upd HB p1 _ = H1
              have b : But p1 HB H1 := hE ▸ but_upd
              have s2 : Same H2 H1 := hE ▸ same_own sB n1
              have s3 : Same H H1 := hE ▸ same_own (s1.trans sB) (s1.free n1)
              have e_p1 := (congrFun hE p1).symm.trans upd_same
              clear hE
              rw [hnk, hrt, seg_out hx (.inr h2)]
              exact ⟨bs ++ [cx], _, _, _, rfl, s2, by rw [e_p1, List.map_append]; rfl, (steps_butL eB b hbs).snoc (sqT_butL eB b hcB)⟩
        | pa f0 l0 t0 =>
          have hcB : SqT K HB cx [.str "paste", .int (f0 : Nat), .int (l0 : Nat), .int (t0 : Nat)] := hcB
          have hnk : nk (st.take (i + 1)) = nk (st.take i) := by
            rw [take_succ hx, nk_app]
            rfl
          refine ⟨_, rfl, (.inr (.inl ⟨_, _, _, _, rfl, rfl, hcB, rfl, (.inl ⟨rfl, _, rfl, ?_⟩)⟩))⟩
          refine iF (by decide +kernel) ?_
          refine ⟨_, rfl, (.inl ⟨rfl, ⟨_, (SqL.of eB)⟩⟩), _, rfl, _, _, _, rfl, rfl, eB, (by omega), ?_⟩
          generalize hE : upd HB p1 _ = H1
          have b : But p1 HB H1 := hE ▸ but_upd
          have s2 : Same H2 H1 := hE ▸ same_own sB n1
          have s3 : Same H H1 := hE ▸ same_own (s1.trans sB) (s1.free n1)
          have e_p1 := (congrFun hE p1).symm.trans upd_same
          clear hE
          rw [hnk, hrt]
          exact ⟨bs ++ [cx], _, _, _, rfl, s2, by rw [e_p1, List.map_append]; rfl, (steps_butL eB b hbs).snoc (sqT_butL eB b hcB)⟩
      · rintro σ HB ⟨bs, v8, v9, v10, rfl, sB, eB, hbs⟩
        rw [hn, List.take_length] at hbs ⊢
        have hkc := key_typed hkl
        have htl : (sL (typed st)).length = nk st := by rw [sL_len, typed_len]
        have hnb := nk_le good
        have htz : (sL (typed st)).length ≤ sizeLine := by rw [htl]; exact small_ok (by omega)
        refine ⟨_, rfl, _, rfl, _, rfl, (.inl ⟨_, _, _, _, rfl, rfl, (SqL.of (sB _ _ e1)), hat, (.inr (.inr ⟨_, _, _, rfl, rfl, (by omega), (at_typedI (by omega) (by omega)), _, rfl, (.inl ⟨rfl, _, rfl, ?_⟩)⟩))⟩)⟩
        by_cases h : ltr st k = c
        · refine iF (by subst h; simp [sL]) ?_
          simp only [if_pos h] at q
          refine ⟨_, rfl, (by (show 2 ≤ _; decide)), fun p2 n2 => ?_⟩
          have ne_l_p2 := ne_of_none ((s1.trans sB) _ _ hl) n2
          have ne_L_p2 := ne_of_none (sB _ _ e1) n2
          have ne_p1_p2 := ne_of_none eB n2
          generalize hE : upd HB p2 _ = H1
          have s2 : Same HB H1 := hE ▸ same_upd n2
          have e_p2 := (congrFun hE p2).symm.trans upd_same
          clear hE
          exact q p2 p1 bs H1 ((s1.trans sB).trans s2) (s1.free n1) e_p2 (s2 _ _ eB) (hbs.same s2)
        · refine iT (by simp only [Bool.not_eq_true', decide_eq_false_iff_not]; intro z; exact h (by injection z with z; exact (List.cons.inj (sL_inj.mp z)).1)) ?_
          simp only [if_neg h] at q
          have hLi : SqL K HB L (((ex st).map fun i : Nat => (i : Int)).map V.int) := by
            rw [← nV_intsD]
            exact SqL.of (sB _ _ e1)
          have hat2 : atI (((ex st).map fun i : Nat => (i : Int)).map V.int) (p0 : Int) = some (.int (k : Nat)) := by
            rw [← nV_intsD]
            exact hat
          refine ⟨_, rfl, (.inl ⟨rfl, ⟨_, hLi⟩⟩), _, rfl, _, rfl, (.inl ⟨_, _, _, _, rfl, rfl, hLi, hat2, _, _, _, rfl, rfl, hLi, _, rfl, (by (show 2 ≤ _; decide)), fun p2 n2 => ?_⟩)⟩
          have ne_l_p2 := ne_of_none ((s1.trans sB) _ _ hl) n2
          have ne_L_p2 := ne_of_none (sB _ _ e1) n2
          have ne_p1_p2 := ne_of_none eB n2
          generalize hE : upd HB p2 _ = H1
          have s2 : Same HB H1 := hE ▸ same_upd n2
          have e_p2 := (congrFun hE p2).symm.trans upd_same
          clear hE
          rw [count_intsD, show (ex st).count k = cnt st k (sz st) from (cnt_all good k (Nat.le_refl _)).symm] at e_p2
          exact q p2 p1 bs H1 ((s1.trans sB).trans s2) (s1.free n1) e_p2 (s2 _ _ eB) (hbs.same s2)
end
end KL
namespace KL
open PySem PySem.Spec PyProof.Rows L2 Pk He
/-- an operation that can be executed is drawn -/
def spDeed0 (K : Fr) : Sp := fun vs H Q _ => ∃ (r l : Addr) (S : Addr × List Int) (as : List Addr) (st : List Stp), vs = [.ref r, .ref l, .int 0] ∧ RowAt K S H r ∧ H l = some (.lst (as.map V.ref)) ∧ StepsAt K H as st ∧ Goes most 0 st ∧ st.length < 30 ∧ sz st ≤ 1000 ∧ l ≠ r ∧
  ∀ (t : Addr) (o : Op) (H2 : Hp), RowAt K S H2 r → But r H H2 → SqT K H2 t (opV o) → okOp st o → sz (run1 st o) ≤ sz st + 12 → Goes most 0 (run1 st o) → (run1 st o).length ≤ st.length + 1 → Q (.ref t) H2
theorem goes_run1 {st : List Stp} {o : Op} (g : Goes most 0 st) (ok : okOp st o) : Goes most 0 (run1 st o) := by
  cases o with
  | st x => exact ok.1
  | re p c =>
    have hl : ((typed st).set (keyOf st p) c).all isLet = true := by
      rw [List.all_eq_true]
      intro x hx
      rcases List.mem_or_eq_of_mem_set hx with h | h
      · exact (List.all_eq_true.mp (typed_let g)) x h
      · rw [h]; exact ok.2
    exact goes_relet hl g (by rw [List.length_set, typed_len]; omega)
theorem sz_re {st : List Stp} {p c : Nat} (g : Goes most 0 st) (ok : okOp st (.re p c)) : sz (run1 st (.re p c)) = sz st := by
  have hl : ((typed st).set (keyOf st p) c).all isLet = true := by
    rw [List.all_eq_true]
    intro x hx
    rcases List.mem_or_eq_of_mem_set hx with h | h
    · exact (List.all_eq_true.mp (typed_let g)) x h
    · rw [h]; exact ok.2
  exact sz_relet g hl (by rw [List.length_set, typed_len])
theorem abz_of {i : Nat} {v : V} (h : ([V.str "a", V.str "b", V.str "z"] ++ ([] : List V))[i]? = some v) : ∃ c, v = .str (sL [c]) ∧ isLet c = true := by
  match i, h with
  | 0, h => cases h; exact ⟨97, rfl, rfl⟩
  | 1, h => cases h; exact ⟨98, rfl, rfl⟩
  | 2, h => cases h; exact ⟨122, rfl, rfl⟩
  | i + 3, h => cases h
theorem one_of {i : Nat} {x v : V} (h : ([x] ++ ([] : List V))[i]? = some v) : v = x := by
  match i, h with
  | 0, h => cases h; rfl
  | i + 1, h => cases h
theorem st_deed {st : List Stp} {y : Stp} (good : Goes most 0 st) (few : st.length < 30) (hsz : sz st ≤ 1000) (ok : y.ok (sz st) = true) (gr : y.gr ≤ 12) : okOp st (.st y) ∧ sz (run1 st (.st y)) ≤ sz st + 12 := by
  have hm : most = 1000000000000000000 := rfl
  refine ⟨⟨goes_app.mpr ⟨good, by rw [Nat.zero_add]; exact ok, by rw [Nat.zero_add]; omega, trivial⟩, few⟩, ?_⟩
  show sz (st ++ [y]) ≤ _
  rw [sz_app]
  show sz st + (y.gr + 0) ≤ _
  omega
theorem len_run1 (st : List Stp) (o : Op) : (run1 st o).length ≤ st.length + 1 := by
  cases o with
  | st x => show (st ++ [x]).length ≤ _; rw [List.length_append]; exact Nat.le_refl _
  | re p c => show (relet _ 0 st).length ≤ _; rw [relet_len]; omega
section
variable {P : Program} {w : World} {K : Fr} {mg : Str → Option Value} {base : Heap} {f : Addr}
theorem ok_law_deed (D : Df K "_law_deed" "_law_deed" s_law_deed (ga K "_law_deed")) (T : Tc w K mg) (G_law_keys : Kp P w K mg base 1 (ga K "_law_keys") (spKeysD K)) (G_law_next : Kp P w K mg base 1 (ga K "_law_next") (spTaken K)) (G_law_pick : Kp P w K mg base 2 (ga K "_law_pick") (spPick K)) (G_law_drawn : Kp P w K mg base 4 (ga K "_law_drawn") (spDrawn K)) : Kp P w K mg base 6 (ga K "_law_deed") (spDeed0 K) := by
  refine kp_of D sc_law_deed (fun _ _ _ _ _ _ us hl => match us, hl with | [_, _, _], _ => rfl) ?_ (fun cdv A outer s H vs Q E hr h => ?_)
  · rintro vs H Q E ⟨r, l, S, as, st, rfl, _⟩
    rfl
  · obtain ⟨r, l, S, as, st, rfl, row, hl, hst, good, few, hsz, hne, q⟩ := h
    have hexl : (nV (ex st)).length = sz st := by rw [nV_len, ex_len _ good]
    refine ⟨_, (pss_cons (ps_set (i := 3) sc_law_deed.nd rfl (Or.inl rfl) (pk_b1 (lenA K) T.len b_len (pe_ix (ixS K) (pk_call G_law_keys (hr.mono (by omega)) T.gKeys (pa_cons (pv 1) pa_nil)) pe_int (fun _ _ => rfl)))) (pss_cons (ps_set (i := 4) sc_law_deed.nd rfl (Or.inl rfl) (pk_call G_law_next (hr.mono (by omega)) T.g_law_next (pa_cons (pv 0) (pa_cons pe_int pa_nil)))) (pss_cons (ps_if (pw_and (pt_cmpR (eqB K hr.units) (pv 4) pe_int (nomark _)) (pw_and1 (pt_cmpR op_gt (pv 3) pe_int (nomark _)))).pt (pss_cons (ps_set (i := 5) sc_law_deed.nd rfl (Or.inl rfl) (pe_op (addA K) (pe_lst (pa_cons (pk_call G_law_next (hr.mono (by omega)) T.g_law_next (pa_cons (pv 0) (pa_cons (pv 3) pa_nil))) pa_nil)) (pe_op mulB (pe_lst (pa_cons (pe_un un_neg pe_int) (pa_cons (pv 3) (pa_cons pe_non (pa_cons pe_bl pa_nil))))) (pv 2)))) (pss_one (ps_ret (pe_tup (pa_cons pe_str (pa_cons (pk_call G_law_pick (hr.mono (by omega)) T.g_law_pick (pa_cons (pv 0) (pa_cons (pv 5) pa_nil))) (pa_cons (pk_call G_law_pick (hr.mono (by omega)) T.g_law_pick (pa_cons (pv 0) (pa_cons (pe_op (addA K) (pe_lst (pa_cons pe_str (pa_cons pe_str (pa_cons pe_str pa_nil)))) (pe_op mulB (pe_lst (pa_cons pe_str (pa_cons pe_str (pa_cons pe_str (pa_cons pe_non pa_nil))))) (pv 2))) pa_nil))) pa_nil))))))) pss_nil) (pss_cons (ps_if (pw_and (pt_cmpR op_gt (pv 2) pe_int (nomark _)) (pw_and1 (pt_cmpR (eqB K hr.units) (pk_call G_law_next (hr.mono (by omega)) T.g_law_next (pa_cons (pv 0) (pa_cons pe_int pa_nil))) pe_int (nomark _)))).pt (pss_cons (ps_set (i := 6) sc_law_deed.nd rfl (Or.inl rfl) (pe_lst (pa_cons (pe_tup (pa_cons pe_str (pa_cons pe_str pa_nil))) (pa_cons (pe_tup (pa_cons pe_str (pa_cons pe_str pa_nil))) (pa_cons (pe_tup (pa_cons pe_str (pa_cons pe_non pa_nil))) (pa_cons (pe_tup (pa_cons pe_str (pa_cons (pe_op mulB pe_str pe_int) pa_nil))) (pa_cons (pe_tup (pa_cons pe_str (pa_cons pe_int (pa_cons (pv 3) (pa_cons pe_int pa_nil))))) pa_nil))))))) (pss_cons (ps_set (i := 6) sc_law_deed.nd rfl (Or.inl rfl) (pe_op (addA K) (pv 6) (pe_lst (pa_cons (pe_tup (pa_cons pe_str (pa_cons (pe_un un_neg pe_int) (pa_cons pe_int (pa_cons pe_int pa_nil))))) (pa_cons (pe_tup (pa_cons pe_str (pa_cons pe_int (pa_cons pe_int (pa_cons pe_int pa_nil))))) (pa_cons (pe_tup (pa_cons pe_str (pa_cons pe_int (pa_cons pe_int (pa_cons pe_bl pa_nil))))) (pa_cons (pe_tup (pa_cons pe_str (pa_cons pe_int (pa_cons pe_int (pa_cons pe_int pa_nil))))) pa_nil))))))) (pss_one (ps_ret (pk_call G_law_pick (hr.mono (by omega)) T.g_law_pick (pa_cons (pv 0) (pa_cons (pv 6) pa_nil))))))) pss_nil) (pss_one (ps_ret (pe_ix (ixS K) (pk_call G_law_drawn (hr.mono (by omega)) T.g_law_drawn (pa_cons (pv 0) (pa_cons (pv 3) (pa_cons pe_int pa_nil)))) pe_int (fun _ _ => rfl)))))))), ?_⟩
    refine ⟨_, rfl, _, _, _, rfl, hl, hst, good, (by omega), (by omega), fun p L H2 s1 n e e1 => ?_⟩
    have ne_L := row_ne row n
    refine (.inr (.inl ⟨_, _, _, _, rfl, rfl, (SqT.of e), rfl, (.inr (.inl ⟨_, _, rfl, (.inl (SqL.of e1)), _, rfl, _, _, rfl, _, (RowAt.same row s1), (by omega), (by omega), fun v H21 row1 b h h1 => ?_⟩))⟩))
    refine ⟨_, rfl, (.inl ⟨rfl, _, rfl, ?_⟩)⟩
    generalize hσ : List.set _ _ _ = σ1
    simp only [L2.start, List.set_cons_zero, List.set_cons_succ, List.map_cons, List.map_nil, List.length_cons, List.length_nil, List.replicate_succ, List.replicate_zero, List.cons_append, List.nil_append, Nat.reduceAdd, Nat.reduceSub] at hσ
    subst hσ
    have hmost : most = 1000000000000000000 := rfl
    refine iB (fun hv => ?_) fun hv => ?_
    · obtain rfl : v = 3 := by injection hv
      rcases Nat.eq_zero_or_pos (sz st) with hz | hz
      · have hex0 : (nV (ex st)).length = 0 := by omega
        refine ⟨_, rfl, _, _, rfl, rfl, _, rfl, ?_⟩
        refine iF (dF (by omega)) ?_
        refine ⟨_, rfl, _, _, rfl, rfl, _, rfl, ?_⟩
        refine iF (dF (by omega)) ?_
        refine iF rfl ?_
        refine ⟨_, rfl, _, rfl, _, _, _, _, rfl, row1, (by omega), (by omega), (by omega), (by omega), fun p1 t y H22 row2 b1 h2 h3 e2 e3 h4 => ?_⟩
        refine (.inr (.inl ⟨_, _, _, _, rfl, rfl, h2, rfl, ?_⟩))
        rw [hexl, Int.toNat_natCast] at e2
        obtain ⟨k1, k2⟩ := st_deed good few hsz e2 (by omega)
        exact q t (.st y) H22 row2 (((Same.but s1).trans b).trans b1) h3 k1 k2 (goes_run1 good k1) (len_run1 st _)
      · refine ⟨_, rfl, _, _, rfl, rfl, _, rfl, ?_⟩
        refine iT (dT (by omega)) ?_
        refine ⟨_, rfl, _, rfl, _, _, rfl, _, row1, (by omega), (by omega), fun v H22 row2 b1 h2 h3 => ?_⟩
        refine ⟨(by (show 1 ≤ _; decide)), fun p1 n1 => ?_⟩
        have ne_p1 := row_ne row2 n1
        generalize hE : upd H22 p1 _ = H1
        have s2 : Same H22 H1 := hE ▸ same_upd n1
        have e_p1 := (congrFun hE p1).symm.trans upd_same
        clear hE
        refine ⟨_, rfl, _, rfl, (by (show 4 ≤ _; decide)), fun p2 n2 => ?_⟩
        have ne_p2 := row_ne (RowAt.same row2 s2) n2
        generalize hE : upd H1 p2 _ = H11
        have s3 : Same H1 H11 := hE ▸ same_upd n2
        have e_p2 := (congrFun hE p2).symm.trans upd_same
        clear hE
        refine ⟨_, rfl, ?_⟩
        refine .inr (.inl ⟨p2, _, _, rfl, rfl, e_p2, by omega, by omega, Nat.zero_le _, fun R hR => ?_⟩)
        generalize hE : upd H11 R _ = H12
        have s4 : Same H11 H12 := hE ▸ same_upd hR
        have e_R := (congrFun hE R).symm.trans upd_same
        clear hE
        have e_R0 : H12 R = some (.lst []) := e_R
        clear e_R
        have z1 : [V.int v].length + ([] : List V).length ≤ sizeLine := by show 1 ≤ sizeLine; decide
        have z3 : [V.str "a", V.str "b", V.str "z"].length + ([] : List V).length ≤ sizeLine := by show 3 ≤ sizeLine; decide
        refine (.inr (.inr (.inl ⟨_, _, _, _, rfl, rfl, (s4 _ _ (s3 _ _ e_p1)), e_R0, (by omega), fun p3 n3 => ?_⟩)))
        have ne_p3 := row_ne (RowAt.same row2 ((s2.trans s3).trans s4)) n3
        generalize hE : upd H12 p3 _ = H13
        have s5 : Same H12 H13 := hE ▸ same_upd n3
        have e_p3 := (congrFun hE p3).symm.trans upd_same
        clear hE
        refine ⟨_, rfl, _, rfl, _, _, _, _, rfl, (RowAt.same row2 (((s2.trans s3).trans s4).trans s5)), e_p3, ?_, (by (show 1 < _; decide)), ?_⟩
        rotate_left 1
        refine ⟨ne_p3, fun i v1 H23 e2 row3 b2 => ?_⟩
        refine ⟨_, rfl, (by (show 3 ≤ _; decide)), fun p4 n4 => ?_⟩
        have ne_p4 := row_ne row3 n4
        generalize hE : upd H23 p4 _ = H14
        have s6 : Same H23 H14 := hE ▸ same_upd n4
        have e_p4 := (congrFun hE p4).symm.trans upd_same
        clear hE
        refine ⟨(by (show 4 ≤ _; decide)), fun p5 n5 => ?_⟩
        have ne_p5 := row_ne (RowAt.same row3 s6) n5
        generalize hE : upd H14 p5 _ = H15
        have s7 : Same H14 H15 := hE ▸ same_upd n5
        have e_p5 := (congrFun hE p5).symm.trans upd_same
        clear hE
        refine ⟨_, rfl, (.inr (.inl ⟨_, _, _, rfl, rfl, e_p5, (by omega), (by omega), (by decide), fun p6 n6 => ?_⟩))⟩
        have ne_p6 := row_ne (RowAt.same row3 (s6.trans s7)) n6
        generalize hE : upd H15 p6 _ = H16
        have s8 : Same H15 H16 := hE ▸ same_upd n6
        have e_p6 := (congrFun hE p6).symm.trans upd_same
        clear hE
        refine (.inr (.inr (.inl ⟨_, _, _, _, rfl, rfl, (s8 _ _ (s7 _ _ e_p4)), e_p6, (by decide), fun p7 n7 => ?_⟩)))
        have ne_p7 := row_ne (RowAt.same row3 ((s6.trans s7).trans s8)) n7
        generalize hE : upd H16 p7 _ = H17
        have s9 : Same H16 H17 := hE ▸ same_upd n7
        have e_p7 := (congrFun hE p7).symm.trans upd_same
        clear hE
        refine ⟨_, _, _, _, rfl, (RowAt.same row3 (((s6.trans s7).trans s8).trans s9)), e_p7, (by decide), (by (show 3 < _; decide)), ?_⟩
        refine ⟨ne_p7, fun i1 v2 H24 e3 row4 b3 => ?_⟩
        refine ⟨(by (show 3 ≤ _; decide)), fun p8 n8 => ?_⟩
        have ne_p8 := row_ne row4 n8
        generalize hE : upd H24 p8 _ = H18
        have s10 : Same H24 H18 := hE ▸ same_upd n8
        have e_p8 := (congrFun hE p8).symm.trans upd_same
        clear hE
        · obtain rfl := one_of e2
          obtain ⟨c, rfl, hc⟩ := abz_of e3
          obtain ⟨p0, rfl⟩ := Int.eq_ofNat_of_zero_le h2
          have ok : okOp st (.re p0 c) := ⟨by omega, hc⟩
          refine q p8 (.re p0 c) H18 ?_ ?_ (SqT.of e_p8) ok (by rw [sz_re good ok]; omega) (goes_run1 good ok) (len_run1 st _)
          · exact (RowAt.same row4 s10)
          · exact ((((((((((((((Same.but s1).trans b).trans b1).trans (Same.but s2)).trans (Same.but s3)).trans (Same.but s4)).trans (Same.but s5)).trans b2).trans (Same.but s6)).trans (Same.but s7)).trans (Same.but s8)).trans (Same.but s9)).trans b3).trans (Same.but s10))
        all_goals exact Nat.zero_lt_succ _
    · refine iF rfl ?_
      refine ⟨_, rfl, _, _, rfl, rfl, _, rfl, ?_⟩
      refine iF (dF (by omega)) ?_
      refine iF rfl ?_
      refine ⟨_, rfl, _, rfl, _, _, _, _, rfl, row1, (by omega), (by omega), (by omega), (by omega), fun p1 t y H22 row2 b1 h2 h3 e2 e3 h4 => ?_⟩
      refine (.inr (.inl ⟨_, _, _, _, rfl, rfl, h2, rfl, ?_⟩))
      rw [hexl, Int.toNat_natCast] at e2
      obtain ⟨k1, k2⟩ := st_deed good few hsz e2 (by omega)
      exact q t (.st y) H22 row2 (((Same.but s1).trans b).trans b1) h3 k1 k2 (goes_run1 good k1) (len_run1 st _)
end
end KL
namespace KL
open PySem PySem.Spec PyProof.Rows L2 Pk He
section
variable {P : Program} {w : World} {K : Fr} {mg : Str → Option Value} {base : Heap} {f : Addr}
theorem ok_Editor_undo (D : Df K "undo" "Editor.undo" s_Editor_undo (ma K (ga K "Editor") "undo")) (T : Tc w K mg) (G_Log_moved : Kp P w K mg base 4 (ma K (ga K "Log") "moved") (spMoved2 K)) : Kp P w K mg base 8 (ma K (ga K "Editor") "undo") (spUndo K) := by
  refine kp_of D sc_Editor_undo (fun _ _ _ _ _ _ us hl => match us, hl with | [_], _ => rfl) ?_ (fun cdv A outer s H vs Q E hr h => ?_)
  · rintro vs H Q E ⟨e, N, ops, sts, d, rfl, _⟩
    rfl
  · obtain ⟨e, N, ops, sts, d, rfl, hed, q0, q1⟩ := h
    obtain ⟨dx, lg, he, hlog⟩ := hed.obj
    obtain ⟨dl, tl, ol, xs, as0, hl, hlr⟩ := hlog.obj
    clear hlr
    have hdn := hlog.done
    refine ⟨_, (pss_cons (ps_if (pt_cmpR (eqB K hr.units) (fldK K (fldK K (pv 0))) pe_int (nomark _)) (pss_one (ps_ret pe_bl)) pss_nil) (pss_cons (ps_fld (pv 0) (pe_methR (fldK K (pv 0)) T.clLog T.m_Log_moved G_Log_moved.fnR (hr.mono (by omega)) pass0 (pa_cons (pe_un un_neg pe_int) pa_nil)) rfl) (pss_one (ps_ret pe_bl)))), ?_⟩
    refine ⟨_, rfl, _, _, _, _, _, rfl, he, T.clEditor, T.n_Editor_log, rfl, _, _, _, _, _, rfl, hl, T.clLog, T.n_Log_done, rfl, (.inl ⟨rfl, _, rfl, ?_⟩)⟩
    refine iV (fun h => ?_) fun h => ?_
    · have q2 := q0 (by omega)
      exact q2
    · have q2 := q1 (by omega)
      refine ⟨_, rfl, _, _, _, _, _, rfl, he, T.clEditor, T.n_Editor_log, rfl, _, _, _, rfl, hl, rfl, _, rfl, _, _, _, _, _, _, rfl, hlog, (by omega), (by omega), fun l2 H2 n s1 h1 => ?_⟩
      have ne_e_l2 := ne_of_none he n
      have ne_lg_l2 := ne_of_none hl n
      refine ⟨_, rfl, _, _, _, _, rfl, (s1 _ _ he), T.clEditor, T.n_Editor_log, (by (show 2 < _; decide)), ?_⟩
      rw [put_e3]
      generalize hE : upd H2 e _ = H1
      have b : But e H2 H1 := hE ▸ but_upd
      have e_e := (congrFun hE e).symm.trans upd_same
      clear hE
      have hd9 : ((d : Int) + -1).toNat = d - 1 := by omega
      rw [hd9] at h1
      exact q2 H1 ((Same.but s1).trans b) ⟨dx, l2, e_e, h1.butI (s1 _ _ he) T.ne_Text_Editor T.ne_Span_Editor T.ne_Log_Editor b⟩
end
end KL
namespace KL
open PySem PySem.Spec PyProof.Rows L2 Pk He
section
variable {P : Program} {w : World} {K : Fr} {mg : Str → Option Value} {base : Heap} {f : Addr}
theorem ok_Editor_redo (D : Df K "redo" "Editor.redo" s_Editor_redo (ma K (ga K "Editor") "redo")) (T : Tc w K mg) (G_Log_moved : Kp P w K mg base 4 (ma K (ga K "Log") "moved") (spMoved2 K)) : Kp P w K mg base 8 (ma K (ga K "Editor") "redo") (spRedo K) := by
  refine kp_of D sc_Editor_redo (fun _ _ _ _ _ _ us hl => match us, hl with | [_], _ => rfl) ?_ (fun cdv A outer s H vs Q E hr h => ?_)
  · rintro vs H Q E ⟨e, N, ops, sts, d, rfl, _⟩
    rfl
  · obtain ⟨e, N, ops, sts, d, rfl, hed, q0, q1⟩ := h
    obtain ⟨dx, lg, he, hlog⟩ := hed.obj
    obtain ⟨dl, tl, ol, xs, as0, hl, htl, hol, htx, hop, hne⟩ := hlog.obj
    have hdn := hlog.done
    have hfew := hlog.few
    have hal : (as0.map V.ref).length = ops.length := by rw [List.length_map, hop.len]
    have hal2 : (as0.map V.ref).length ≤ 1000 := by omega
    refine ⟨_, (pss_cons (ps_if (pt_cmpR (eqB K hr.units) (fldK K (fldK K (pv 0))) (pk_b1 (lenA K) T.len b_len (fldK K (fldK K (pv 0)))) (nomark _)) (pss_one (ps_ret pe_bl)) pss_nil) (pss_cons (ps_fld (pv 0) (pe_methR (fldK K (pv 0)) T.clLog T.m_Log_moved G_Log_moved.fnR (hr.mono (by omega)) pass0 (pa_cons pe_int pa_nil)) rfl) (pss_one (ps_ret pe_bl)))), ?_⟩
    refine ⟨_, rfl, _, _, _, _, _, rfl, he, T.clEditor, T.n_Editor_log, rfl, _, _, _, _, _, rfl, hl, T.clLog, T.n_Log_done, rfl, _, rfl, _, _, _, _, _, rfl, he, T.clEditor, T.n_Editor_log, rfl, _, _, _, _, _, rfl, hl, T.clLog, T.n_Log_operations, rfl, (.inr (.inl ⟨_, _, rfl, (.inl (SqL.of hol)), (.inl ⟨rfl, _, rfl, ?_⟩)⟩))⟩
    refine iV (fun h => ?_) fun h => ?_
    · have q2 := q0 (by omega)
      exact q2
    · have q2 := q1 (by omega)
      refine ⟨_, rfl, _, _, _, _, _, rfl, he, T.clEditor, T.n_Editor_log, rfl, _, _, _, rfl, hl, rfl, _, _, _, _, _, _, rfl, hlog, (by omega), (by omega), fun l2 H2 n s1 h1 => ?_⟩
      have ne_e_l2 := ne_of_none he n
      have ne_lg_l2 := ne_of_none hl n
      have ne_tl_l2 := ne_of_none htl n
      have ne_ol_l2 := ne_of_none hol n
      refine ⟨_, rfl, _, _, _, _, rfl, (s1 _ _ he), T.clEditor, T.n_Editor_log, (by (show 2 < _; decide)), ?_⟩
      rw [put_e3]
      generalize hE : upd H2 e _ = H1
      have b : But e H2 H1 := hE ▸ but_upd
      have e_e := (congrFun hE e).symm.trans upd_same
      clear hE
      have hd9 : ((d : Int) + 1).toNat = d + 1 := by omega
      rw [hd9] at h1
      exact q2 H1 ((Same.but s1).trans b) ⟨dx, l2, e_e, h1.butI (s1 _ _ he) T.ne_Text_Editor T.ne_Span_Editor T.ne_Log_Editor b⟩
end
end KL
namespace KL
open PySem PySem.Spec PyProof.Rows L2 Pk He
def flatL : V → Bool
  | .int _ => true
  | .str _ => true
  | .bl _ => true
  | _ => false
/-- alike, n levels deep -/
def LkN (K : Fr) : Nat → Hp → V → V → Prop
  | 0, _, x, y => x = y ∧ flatL x = true
  | n + 1, H, x, y => (x = y ∧ flatL x = true) ∨ ∃ (a b : Addr) (xs ys : List V), x = .ref a ∧ y = .ref b ∧ ((H a = some (.lst xs) ∧ H b = some (.lst ys)) ∨ (SqT K H a xs ∧ SqT K H b ys)) ∧ xs.length = ys.length ∧ xs.length ≤ 2000 ∧ ∀ (i : Nat) (u v : V), xs[i]? = some u → ys[i]? = some v → LkN K n H u v
theorem LkN.same {K : Fr} : ∀ {n : Nat} {H H2 : Hp} {x y : V}, LkN K n H x y → Same H H2 → LkN K n H2 x y
  | 0, _, _, _, _, h, _ => h
  | n + 1, _, _, _, _, h, s => by
    rcases h with h | ⟨a, b, xs, ys, h1, h2, h3, h4, h5, h6⟩
    · exact .inl h
    · exact .inr ⟨a, b, xs, ys, h1, h2, h3.imp (fun q => ⟨s _ _ q.1, s _ _ q.2⟩) (fun q => ⟨same_sqT s q.1, same_sqT s q.2⟩), h4, h5, fun i u v hu hv => (h6 i u v hu hv).same s⟩
def spLike (K : Fr) (n : Nat) : Sp := fun vs H Q _ => ∃ x y, vs = [x, y] ∧ LkN K n H x y ∧ ∀ H2, Same H H2 → Q (.bl true) H2
def spNoL : Sp := fun _ _ _ _ => False
section
variable {P : Program} {w : World} {K : Fr} {mg : Str → Option Value} {base : Heap} {f : Addr}
theorem ok_like0 (D : Df K "_law_like" "_law_like" s_law_like (ga K "_law_like")) : Kp P w K mg base 1 (ga K "_law_like") spNoL :=
  kp_of D sc_law_like (fun _ _ _ _ _ _ us hl => match us, hl with | [_, _], _ => rfl) (fun _ _ _ _ h => h.elim) (fun _ _ _ _ _ _ _ _ _ h => h.elim)
theorem ok_like (D : Df K "_law_like" "_law_like" s_law_like (ga K "_law_like")) (T : Tc w K mg) (k : Nat) (sp0 : Sp) (G_law_like : Kp P w K mg base (k + 1) (ga K "_law_like") sp0) (dp : Nat)
    (step : ∀ x y H, LkN K dp H x y → (x = y ∧ flatL x = true) ∨ ∃ (a b : Addr) (xs ys : List V), x = .ref a ∧ y = .ref b ∧ ((H a = some (.lst xs) ∧ H b = some (.lst ys)) ∨ (SqT K H a xs ∧ SqT K H b ys)) ∧ xs.length = ys.length ∧ xs.length ≤ 2000 ∧
      ∀ (i : Nat) (u v : V), xs[i]? = some u → ys[i]? = some v → ∀ H1, Same H H1 → ∀ (Q : VK), (∀ H2, Same H1 H2 → Q (.bl true) H2) → sp0 [u, v] H1 Q E0) : Kp P w K mg base (k + 2) (ga K "_law_like") (spLike K dp) := by
  refine kp_of D sc_law_like (fun _ _ _ _ _ _ us hl => match us, hl with | [_, _], _ => rfl) ?_ (fun cdv A outer s H vs Q E hr h => ?_)
  · rintro vs H Q E ⟨x, y, rfl, _⟩
    rfl
  · obtain ⟨x, y, rfl, hal, q⟩ := h
    refine ⟨_, (pss_cons (ps_if (pw_or (pt_val (pe_isi (pv 1) T.isi T.tup b_tuple)) (pw_or1 (pt_val (pe_isi (pv 1) T.isi T.lst b_list)))).pt (pss_cons (ps_if (pt_cmpR (neB K hr.units) (pe_isi (pv 0) T.isi T.tup b_tuple) (pe_isi (pv 1) T.isi T.tup b_tuple) (nomark _)) (pss_one (ps_ret pe_bl)) pss_nil) (pss_cons (ps_if (pw_or (pt_cmpR (neB K hr.units) (pe_isi (pv 0) T.isi T.lst b_list) (pe_isi (pv 1) T.isi T.lst b_list) (nomark _)) (pw_or1 (pt_cmpR (neB K hr.units) (pk_b1 (lenA K) T.len b_len (pv 0)) (pk_b1 (lenA K) T.len b_len (pv 1)) (nomark _)))).pt (pss_one (ps_ret pe_bl)) pss_nil) (pss_one (ps_ret (pe_cmpR (eqB K hr.units) (pe_lc (own := [("_law_k", 2)]) (g := gName 2) rfl sc_law_like.nd (pi_range1 (by rfl) T.rng (pa_cons (pk_b1 (lenA K) T.len b_len (pv 1)) pa_nil)) (blkOk_by (N := ["_law_found", "_law_due", "_law_k"]) (sc := defScope s_law_like) (by decide +kernel)) (fun _ _ _ _ _ => (pg_name (i := 2) sc_law_like.nd rfl (Or.inl rfl))) (fun _ _ _ _ _ => (pts_one (pt_not (pt_val (pk_call G_law_like (hr.mono (by omega)) T.g_law_like (pa_cons (pe_ix (ixS K) (pv 0) (pv 2) (fun _ _ => rfl)) (pa_cons (pe_ix (ixS K) (pv 1) (pv 2) (fun _ _ => rfl)) pa_nil))))))) (fun _ _ _ _ _ => (pv 2))) (pe_lst pa_nil) (nomark _)))))) pss_nil) (pss_cons (ps_if (pt_cmpR (neB K hr.units) (pe_isi (pv 0) T.isi T.bool b_bool) (pe_isi (pv 1) T.isi T.bool b_bool) (nomark _)) (pss_one (ps_ret pe_bl)) pss_nil) (pss_cons (ps_if (pw_or (pt_cmpR (neB K hr.units) (pe_isi (pv 0) T.isi T.int b_int) (pe_isi (pv 1) T.isi T.int b_int) (nomark _)) (pw_or1 (pt_cmpR (neB K hr.units) (pe_isi (pv 0) T.isi T.str b_str) (pe_isi (pv 1) T.isi T.str b_str) (nomark _)))).pt (pss_one (ps_ret pe_bl)) pss_nil) (pss_one (ps_ret (pe_cmpR (eqB K hr.units) (pv 0) (pv 1) (nomark _))))))), ?_⟩
    rcases step x y H hal with ⟨rfl, fl⟩ | ⟨a, b, xs, ys, rfl, rfl, hq, hlen, hsm, hstep⟩
    · cases x with
      | int z =>
        refine ⟨_, rfl, _, _, _, _, rfl, (.base (.int _)), rfl, _, rfl, ?_⟩
        refine iF rfl ?_
        refine ⟨_, rfl, _, _, _, _, rfl, (.base (.int _)), rfl, _, rfl, ?_⟩
        refine iF rfl ?_
        refine ⟨_, rfl, _, _, _, _, rfl, (.base (.int _)), rfl, _, rfl, _, _, _, _, rfl, (.base (.int _)), rfl, (.inl ⟨rfl, _, rfl, ?_⟩)⟩
        refine iF (nF (dT rfl)) ?_
        refine ⟨_, rfl, _, _, _, _, rfl, (.base (.int _)), rfl, _, rfl, _, _, _, _, rfl, (.base (.int _)), rfl, (.inl ⟨rfl, _, rfl, ?_⟩)⟩
        refine iF (nF (dT rfl)) ?_
        refine ⟨_, rfl, _, _, _, _, rfl, (.base (.int _)), rfl, _, rfl, _, _, _, _, rfl, (.base (.int _)), rfl, (.inl ⟨rfl, _, rfl, ?_⟩)⟩
        refine iF (nF (dT rfl)) ?_
        refine ⟨_, rfl, _, rfl, (.inl ⟨rfl, ?_⟩)⟩
        refine qBl (q _ (Same.refl _)) ?_
        exact (decide_eq_true rfl).symm
      | str z =>
        refine ⟨_, rfl, _, _, _, _, rfl, (.base (.str _)), rfl, _, rfl, ?_⟩
        refine iF rfl ?_
        refine ⟨_, rfl, _, _, _, _, rfl, (.base (.str _)), rfl, _, rfl, ?_⟩
        refine iF rfl ?_
        refine ⟨_, rfl, _, _, _, _, rfl, (.base (.str _)), rfl, _, rfl, _, _, _, _, rfl, (.base (.str _)), rfl, (.inl ⟨rfl, _, rfl, ?_⟩)⟩
        refine iF (nF (dT rfl)) ?_
        refine ⟨_, rfl, _, _, _, _, rfl, (.base (.str _)), rfl, _, rfl, _, _, _, _, rfl, (.base (.str _)), rfl, (.inl ⟨rfl, _, rfl, ?_⟩)⟩
        refine iF (nF (dT rfl)) ?_
        refine ⟨_, rfl, _, _, _, _, rfl, (.base (.str _)), rfl, _, rfl, _, _, _, _, rfl, (.base (.str _)), rfl, (.inl ⟨rfl, _, rfl, ?_⟩)⟩
        refine iF (nF (dT rfl)) ?_
        refine ⟨_, rfl, _, rfl, (.inl ⟨rfl, ?_⟩)⟩
        refine qBl (q _ (Same.refl _)) ?_
        exact (decide_eq_true rfl).symm
      | bl z =>
        refine ⟨_, rfl, _, _, _, _, rfl, (.base (.bl _)), rfl, _, rfl, ?_⟩
        refine iF rfl ?_
        refine ⟨_, rfl, _, _, _, _, rfl, (.base (.bl _)), rfl, _, rfl, ?_⟩
        refine iF rfl ?_
        refine ⟨_, rfl, _, _, _, _, rfl, (.base (.bl _)), rfl, _, rfl, _, _, _, _, rfl, (.base (.bl _)), rfl, (.inl ⟨rfl, _, rfl, ?_⟩)⟩
        refine iF (nF (dT rfl)) ?_
        refine ⟨_, rfl, _, _, _, _, rfl, (.base (.bl _)), rfl, _, rfl, _, _, _, _, rfl, (.base (.bl _)), rfl, (.inl ⟨rfl, _, rfl, ?_⟩)⟩
        refine iF (nF (dT rfl)) ?_
        refine ⟨_, rfl, _, _, _, _, rfl, (.base (.bl _)), rfl, _, rfl, _, _, _, _, rfl, (.base (.bl _)), rfl, (.inl ⟨rfl, _, rfl, ?_⟩)⟩
        refine iF (nF (dT rfl)) ?_
        refine ⟨_, rfl, _, rfl, (.inl ⟨rfl, ?_⟩)⟩
        refine qBl (q _ (Same.refl _)) ?_
        exact (decide_eq_true rfl).symm
      | _ => cases fl
    · rcases hq with ⟨h1, h2⟩ | ⟨h1, h2⟩
      · refine ⟨_, rfl, _, _, _, _, rfl, (.base (.lst h2)), rfl, _, rfl, ?_⟩
        refine iF rfl ?_
        refine ⟨_, rfl, _, _, _, _, rfl, (.base (.lst h2)), rfl, _, rfl, ?_⟩
        refine iT rfl ?_
        refine ⟨_, rfl, _, _, _, _, rfl, (.base (.lst h1)), rfl, _, rfl, _, _, _, _, rfl, (.base (.lst h2)), rfl, (.inl ⟨rfl, _, rfl, ?_⟩)⟩
        refine iF (nF (dT rfl)) ?_
        refine ⟨_, rfl, _, _, _, _, rfl, (.base (.lst h1)), rfl, _, rfl, _, _, _, _, rfl, (.base (.lst h2)), rfl, (.inl ⟨rfl, _, rfl, ?_⟩)⟩
        refine iF (nF (dT rfl)) ?_
        refine ⟨_, rfl, (.inr (.inl ⟨_, _, rfl, (.inl (SqL.of h1)), _, rfl, (.inr (.inl ⟨_, _, rfl, (.inl (SqL.of h2)), (.inl ⟨rfl, _, rfl, ?_⟩)⟩))⟩))⟩
        refine iF (nF (vT (by omega))) ?_
        refine ⟨_, rfl, (.inr (.inl ⟨_, _, rfl, (.inl (SqL.of h2)), _, rfl, (by omega), (by omega), fun D1 n => ?_⟩))⟩
        have ne_a_D1 := ne_of_none h1 n
        have ne_b_D1 := ne_of_none h2 n
        refine lc_keep (n := ((ys.length : Int)).toNat) (walk_range (lo := 0)) n (fun _ => false) (fun _ => V.non) (small_ok (by omega)) (fun _ _ => trivial) ?_ ?_
        · rintro i v H4 H5 N N0 hi s4 ⟨rfl, rfl⟩ hN hN0
          obtain ⟨u, hu⟩ : ∃ u, xs[i]? = some u := ⟨xs[i]'(by omega), List.getElem?_eq_getElem (by omega)⟩
          obtain ⟨v, hv⟩ : ∃ v, ys[i]? = some v := ⟨ys[i]'(by omega), List.getElem?_eq_getElem (by omega)⟩
          have hu0 : atI xs (0 + (i : Int)) = some u := by rw [Int.zero_add]; exact atI_nat hu
          have hv0 : atI ys (0 + (i : Int)) = some v := by rw [Int.zero_add]; exact atI_nat hv
          have fin := hstep i u v hu hv _ s4
          refine ⟨rfl, _, rfl, _, rfl, (.inl ⟨_, _, _, _, rfl, rfl, (SqL.of (s4 _ _ h1)), hu0, _, rfl, _, rfl, (.inl ⟨_, _, _, _, rfl, rfl, (SqL.of (s4 _ _ h2)), hv0, ?_⟩)⟩)⟩
          refine fin _ fun H6 s6 => ⟨true, rfl, ?_⟩
          exact iteF (hN0 rfl H6 s6)
        · intro H4 s4 hD4
          have ek : keeps ((ys.length : Int)).toNat (fun _ => false) (fun _ => V.non) = [] := by simp [keeps]
          rw [ek] at hD4
          refine ⟨(by (show 0 ≤ _; decide)), fun p n1 => ?_⟩
          have ne_a_p := ne_of_none (s4 _ _ h1) n1
          have ne_b_p := ne_of_none (s4 _ _ h2) n1
          have ne_D1_p := ne_of_none hD4 n1
          generalize hE : upd H4 p _ = H1
          have s1 : Same H4 H1 := hE ▸ same_upd n1
          have e_p := (congrFun hE p).symm.trans upd_same
          clear hE
          refine (.inr (.inl ⟨_, _, _, _, rfl, rfl, (.inl ⟨(SqL.of (s1 _ _ hD4)), (SqL.of e_p)⟩), rfl, rfl, ?_⟩))
          exact q _ (s4.trans s1)
      · refine ⟨_, rfl, _, _, _, _, rfl, (sqT_ty (same_sqT (Same.refl _) h2)), rfl, _, rfl, ?_⟩
        refine iT rfl ?_
        refine iT rfl ?_
        refine ⟨_, rfl, _, _, _, _, rfl, (sqT_ty (same_sqT (Same.refl _) h1)), rfl, _, rfl, _, _, _, _, rfl, (sqT_ty (same_sqT (Same.refl _) h2)), rfl, (.inl ⟨rfl, _, rfl, ?_⟩)⟩
        refine iF (nF (dT rfl)) ?_
        refine ⟨_, rfl, _, _, _, _, rfl, (sqT_ty (same_sqT (Same.refl _) h1)), rfl, _, rfl, _, _, _, _, rfl, (sqT_ty (same_sqT (Same.refl _) h2)), rfl, (.inl ⟨rfl, _, rfl, ?_⟩)⟩
        refine iF (nF (dT rfl)) ?_
        refine ⟨_, rfl, (.inr (.inl ⟨_, _, rfl, (.inr h1), _, rfl, (.inr (.inl ⟨_, _, rfl, (.inr h2), (.inl ⟨rfl, _, rfl, ?_⟩)⟩))⟩))⟩
        refine iF (nF (vT (by omega))) ?_
        refine ⟨_, rfl, (.inr (.inl ⟨_, _, rfl, (.inr h2), _, rfl, (by omega), (by omega), fun D1 n => ?_⟩))⟩
        refine lc_keep (n := ((ys.length : Int)).toNat) (walk_range (lo := 0)) n (fun _ => false) (fun _ => V.non) (small_ok (by omega)) (fun _ _ => trivial) ?_ ?_
        · rintro i v H4 H5 N N0 hi s4 ⟨rfl, rfl⟩ hN hN0
          obtain ⟨u, hu⟩ : ∃ u, xs[i]? = some u := ⟨xs[i]'(by omega), List.getElem?_eq_getElem (by omega)⟩
          obtain ⟨v, hv⟩ : ∃ v, ys[i]? = some v := ⟨ys[i]'(by omega), List.getElem?_eq_getElem (by omega)⟩
          have hu0 : atI xs (0 + (i : Int)) = some u := by rw [Int.zero_add]; exact atI_nat hu
          have hv0 : atI ys (0 + (i : Int)) = some v := by rw [Int.zero_add]; exact atI_nat hv
          have fin := hstep i u v hu hv _ s4
          refine ⟨rfl, _, rfl, _, rfl, (.inr (.inl ⟨_, _, _, _, rfl, rfl, (same_sqT s4 h1), hu0, _, rfl, _, rfl, (.inr (.inl ⟨_, _, _, _, rfl, rfl, (same_sqT s4 h2), hv0, ?_⟩))⟩))⟩
          refine fin _ fun H6 s6 => ⟨true, rfl, ?_⟩
          exact iteF (hN0 rfl H6 s6)
        · intro H4 s4 hD4
          have ek : keeps ((ys.length : Int)).toNat (fun _ => false) (fun _ => V.non) = [] := by simp [keeps]
          rw [ek] at hD4
          refine ⟨(by (show 0 ≤ _; decide)), fun p n1 => ?_⟩
          have ne_D1_p := ne_of_none hD4 n1
          generalize hE : upd H4 p _ = H1
          have s1 : Same H4 H1 := hE ▸ same_upd n1
          have e_p := (congrFun hE p).symm.trans upd_same
          clear hE
          refine (.inr (.inl ⟨_, _, _, _, rfl, rfl, (.inl ⟨(SqL.of (s1 _ _ hD4)), (SqL.of e_p)⟩), rfl, rfl, ?_⟩))
          exact q _ (s4.trans s1)
theorem likeN (D : Df K "_law_like" "_law_like" s_law_like (ga K "_law_like")) (T : Tc w K mg) : ∀ n, Kp P w K mg base (n + 2) (ga K "_law_like") (spLike K n)
  | 0 => ok_like D T 0 spNoL (ok_like0 D) 0 fun x y H h => .inl h
  | n + 1 => ok_like D T (n + 1) (spLike K n) (likeN D T n) (n + 1) fun x y H h => by
    rcases h with h | ⟨a, b, xs, ys, h1, h2, h3, h4, h5, h6⟩
    · exact .inl h
    · exact .inr ⟨a, b, xs, ys, h1, h2, h3, h4, h5, fun i u v hu hv H1 s1 Q hQ => ⟨u, v, rfl, (h6 i u v hu hv).same s1, hQ⟩⟩
theorem ok_like3 (D : Df K "_law_like" "_law_like" s_law_like (ga K "_law_like")) (T : Tc w K mg) : Kp P w K mg base 5 (ga K "_law_like") (spLike K 3) := by
  exact likeN D T 3
end
end KL
namespace KL
open PySem PySem.Spec PyProof.Rows L2 Pk He
/-! ### the states of an editor, one after another -/
theorem fins_snoc (st : List Stp) (a : List Op) (o : Op) : fins st (a ++ [o]) = run1 (fins st a) o := fins_app st a [o]
theorem sts_at (st : List Stp) : ∀ (ops : List Op) (d : Nat), d ≤ ops.length → (st :: runs st ops)[d]? = some (fins st (ops.take d))
  | _, 0, _ => rfl
  | [], d + 1, h => absurd h (by simp)
  | o :: r, d + 1, h => by
    show (run1 st o :: runs (run1 st o) r)[d]? = _
    rw [sts_at (run1 st o) r d (by simpa using h)]
    rfl
theorem runs_take (st : List Stp) : ∀ (ops : List Op) (d : Nat), (runs st ops).take d = runs st (ops.take d)
  | _, 0 => by simp [runs]
  | [], d + 1 => by simp [runs]
  | o :: r, d + 1 => by
    show (run1 st o :: runs (run1 st o) r).take (d + 1) = _
    rw [List.take_succ_cons, runs_take (run1 st o) r d]
    rfl
theorem sts_next (st : List Stp) (ops : List Op) (d : Nat) (o : Op) : (st :: runs st ops).take (d + 1) ++ [run1 (fins st (ops.take d)) o] = st :: runs st (ops.take d ++ [o]) := by
  rw [List.take_succ_cons, runs_take, runs_app]
  rfl
theorem okOps_take {st : List Stp} {ops : List Op} (h : okOps st ops) (d : Nat) : okOps st (ops.take d) := by
  rw [← List.take_append_drop d ops] at h
  exact ((okOps_app st _ _).mp h).1
theorem okOps_snoc {st : List Stp} {a : List Op} {o : Op} (h : okOps st a) (ok : okOp (fins st a) o) : okOps st (a ++ [o]) := (okOps_app st _ _).mpr ⟨h, ok, trivial⟩
/-- how large the states are -/
def BdAt (st : List Stp) (ops : List Op) : Prop := ∀ j, j ≤ ops.length → Goes most 0 (fins st (ops.take j)) ∧ (fins st (ops.take j)).length ≤ 3 + j ∧ sz (fins st (ops.take j)) ≤ 36 + 12 * j
theorem BdAt.next {st : List Stp} {ops : List Op} {d : Nat} {o : Op} (h : BdAt st ops) (hd : d ≤ ops.length) (g : Goes most 0 (run1 (fins st (ops.take d)) o)) (l : (run1 (fins st (ops.take d)) o).length ≤ (fins st (ops.take d)).length + 1) (z : sz (run1 (fins st (ops.take d)) o) ≤ sz (fins st (ops.take d)) + 12) : BdAt st (ops.take d ++ [o]) := by
  intro j hj
  have hl : (ops.take d).length = d := by rw [List.length_take]; omega
  rw [List.length_append, hl] at hj
  have hj : j ≤ d + 1 := hj
  rcases Nat.lt_or_ge j (d + 1) with h1 | h1
  · rw [List.take_append_of_le_length (by omega), List.take_take, Nat.min_eq_left (by omega)]
    exact h j (by omega)
  · obtain rfl : j = d + 1 := by omega
    rw [List.take_of_length_le (by rw [List.length_append, hl]; exact Nat.le_refl _), fins_snoc]
    obtain ⟨_, b, c⟩ := h d hd
    exact ⟨g, by omega, by omega⟩
/-! ### what stands in the heap, but for the row and the editor -/
def F2 (r e : Addr) (H H2 : Hp) : Prop := ∀ b o, b ≠ r → b ≠ e → NT o → H b = some o → H2 b = some o
section
variable {K : Fr} {S : Addr × List Int} {H H2 H3 : Hp} {r e : Addr}
theorem F2.same (s : Same H H2) : F2 r e H H2 := fun b o _ _ _ h => s b o h
theorem F2.extN (s : LamX.ExtN H H2) : F2 r e H H2 := fun b o _ _ n h => s b o h n
theorem F2.butR (s : But r H H2) : F2 r e H H2 := fun b o h1 _ _ h => s b o h1 h
theorem F2.butE (s : But e H H2) : F2 r e H H2 := fun b o _ h2 _ h => s b o h2 h
theorem F2.trans (a : F2 r e H H2) (b : F2 r e H2 H3) : F2 r e H H3 := fun c o h1 h2 n h => b c o h1 h2 n (a c o h1 h2 n h)
/-- e is an editor, r the row -/
structure Two (K : Fr) (S : Addr × List Int) (H : Hp) (r e : Addr) : Prop where
  row : RowAt K S H r
  ed : ∃ dx fs, H e = some (.ins (CEd K) dx fs)
theorem refs_rowD {L : Addr} {as : List Addr} (h : RowAt K S H r) (e : H L = some (.lst (as.map V.ref))) : L ≠ r := by
  obtain ⟨i, sd, hd, h1, _⟩ := h
  refine ne_of e h1 fun z => ?_
  injection z with z
  match as, z with
  | [], z => cases z
  | [a], z => cases z
  | a :: b :: l, z => injection z with _ z; injection z with z _; cases z
theorem F2.lst {L : Addr} {as : List Addr} (f : F2 r e H H2) (w : Two K S H r e) (h : H L = some (.lst (as.map V.ref))) : H2 L = some (.lst (as.map V.ref)) := by
  obtain ⟨dx, fs, he⟩ := w.ed
  exact f _ _ (refs_rowD w.row h) (ne_of h he (by intro z; cases z)) (by intro _ z; cases z) h
theorem F2.tup {a : Addr} {xs : List V} (f : F2 r e H H2) (w : Two K S H r e) (h : SqT K H a xs) : SqT K H2 a xs := by
  obtain ⟨dx, fs, he⟩ := w.ed
  obtain ⟨_, hr⟩ := w.row.lst
  rcases h with (h | ⟨o, h⟩) | h
  · exact .inl (.inl (f _ _ (ne_of h hr (by intro z; cases z)) (ne_of h he (by intro z; cases z)) (fun _ z => by cases z) h))
  · exact .inl (.inr ⟨o, f _ _ (ne_of h hr (by intro z; cases z)) (ne_of h he (by intro z; cases z)) (fun _ z => by cases z) h⟩)
  · exact .inr h
theorem F2.steps {as : List Addr} {st : List Stp} (f : F2 r e H H2) (w : Two K S H r e) (h : StepsAt K H as st) : StepsAt K H2 as st := ⟨h.len, fun i x hx => let ⟨a, h1, h2⟩ := h.at_ i x hx; ⟨a, h1, f.tup w h2⟩⟩
theorem F2.ops {as : List Addr} {ops : List Op} (f : F2 r e H H2) (w : Two K S H r e) (h : OpsAt K H as ops) : OpsAt K H2 as ops := ⟨h.len, fun i x hx => let ⟨a, h1, h2⟩ := h.at_ i x hx; ⟨a, h1, f.tup w h2⟩⟩
/-- lists of steps -/
structure StA (K : Fr) (H : Hp) (ra : List Addr) (ss : List (List Stp)) : Prop where
  len : ra.length = ss.length
  at_ : ∀ (j : Nat) (s : List Stp), ss[j]? = some s → ∃ (x : Addr) (xs : List Addr), ra[j]? = some x ∧ H x = some (.lst (xs.map V.ref)) ∧ StepsAt K H xs s
theorem F2.sta {ra : List Addr} {ss : List (List Stp)} (f : F2 r e H H2) (w : Two K S H r e) (h : StA K H ra ss) : StA K H2 ra ss := ⟨h.len, fun j s hs => let ⟨x, xs, h1, h2, h3⟩ := h.at_ j s hs; ⟨x, xs, h1, f.lst w h2, f.steps w h3⟩⟩
theorem StA.same {ra : List Addr} {ss : List (List Stp)} (h : StA K H ra ss) (s : Same H H2) : StA K H2 ra ss := ⟨h.len, fun j x hx => let ⟨a, xs, h1, h2, h3⟩ := h.at_ j x hx; ⟨a, xs, h1, s _ _ h2, h3.same s⟩⟩
theorem StA.take {ra : List Addr} {ss : List (List Stp)} (h : StA K H ra ss) (k : Nat) : StA K H (ra.take k) (ss.take k) := by
  refine ⟨by rw [List.length_take, List.length_take, h.len], fun i x hx => ?_⟩
  have hi : i < k := by
    have := (List.getElem?_eq_some_iff.mp hx).1
    rw [List.length_take] at this
    omega
  rw [List.getElem?_take_of_lt hi] at hx ⊢
  exact h.at_ i x hx
theorem StA.snoc {ra xs : List Addr} {ss : List (List Stp)} {x : Addr} {s : List Stp} (h : StA K H ra ss) (h1 : H x = some (.lst (xs.map V.ref))) (h2 : StepsAt K H xs s) : StA K H (ra ++ [x]) (ss ++ [s]) := by
  refine ⟨by rw [List.length_append, List.length_append, h.len]; rfl, fun i y hy => ?_⟩
  by_cases hi : i < ss.length
  · rw [List.getElem?_append_left hi] at hy
    rw [List.getElem?_append_left (by rw [h.len]; exact hi)]
    exact h.at_ i y hy
  · rw [List.getElem?_append_right (by omega)] at hy
    rw [List.getElem?_append_right (by rw [h.len]; omega), h.len]
    cases e : i - ss.length with
    | zero => rw [e] at hy; cases hy; exact ⟨x, xs, rfl, h1, h2⟩
    | succ n => rw [e] at hy; simp at hy
theorem OpsAt.snoc {as : List Addr} {ops : List Op} {a : Addr} {o : Op} (h : OpsAt K H as ops) (h1 : SqT K H a (opV o)) : OpsAt K H (as ++ [a]) (ops ++ [o]) := by
  refine h.app ⟨rfl, fun i u hu => ?_⟩
  cases i with
  | zero => cases hu; exact ⟨a, rfl, h1⟩
  | succ i => simp at hu
theorem EdAt.rowB {N : List Addr} {ops : List Op} {sts : List (List Stp)} {d : Nat} (t : EdAt K H e N ops sts d) (row : RowAt K S H r) (b : But r H H2) (hr : r ∈ N) : EdAt K H2 e N ops sts d := by
  obtain ⟨dx, lg, he, hl⟩ := t.obj
  obtain ⟨dl, tl, ol, xs, as, h1, h2, h3, h4, h5, h6⟩ := hl.obj
  obtain ⟨_, hx⟩ := row.lst
  exact ⟨⟨dx, lg, b _ _ (ne_of he hx (by intro z; cases z)) he, ⟨dl, tl, ol, xs, as, b _ _ (ne_of h1 hx (by intro z; cases z)) h1, b _ _ (h6 r hr).1 h2, b _ _ (h6 r hr).2 h3, h4.row row b, ⟨h5.len, fun i o ho => let ⟨a, u, v⟩ := h5.at_ i o ho; ⟨a, u, sqT_row row b v⟩⟩, h6⟩, hl.len, hl.few, hl.done⟩⟩
theorem EdAt.extN {N : List Addr} {ops : List Op} {sts : List (List Stp)} {d : Nat} (t : EdAt K H e N ops sts d) (s : LamX.ExtN H H2) : EdAt K H2 e N ops sts d := by
  obtain ⟨dx, lg, he, hl⟩ := t.obj
  obtain ⟨dl, tl, ol, xs, as, h1, h2, h3, h4, h5, h6⟩ := hl.obj
  exact ⟨⟨dx, lg, Pk.ExtN.at_ s he, ⟨dl, tl, ol, xs, as, Pk.ExtN.at_ s h1, Pk.ExtN.at_ s h2, Pk.ExtN.at_ s h3, ⟨h4.len, fun i x hx => let ⟨a, u, v⟩ := h4.at_ i x hx; ⟨a, u, Pk.TextAt.extN v s⟩⟩, ⟨h5.len, fun i o ho => let ⟨a, u, v⟩ := h5.at_ i o ho; ⟨a, u, sqT_extN s v⟩⟩, h6⟩, hl.len, hl.few, hl.done⟩⟩
theorem EdAt.lstB {N : List Addr} {ops : List Op} {sts : List (List Stp)} {d : Nat} {x : Addr} {ys : List V} (t : EdAt K H e N ops sts d) (hx : H x = some (.lst ys)) (b : But x H H2) (hr : x ∈ N) : EdAt K H2 e N ops sts d := by
  obtain ⟨dx, lg, he, hl⟩ := t.obj
  obtain ⟨dl, tl, ol, xs, as, h1, h2, h3, h4, h5, h6⟩ := hl.obj
  exact ⟨⟨dx, lg, b _ _ (ne_of he hx (by intro z; cases z)) he, ⟨dl, tl, ol, xs, as, b _ _ (ne_of h1 hx (by intro z; cases z)) h1, b _ _ (h6 x hr).1 h2, b _ _ (h6 x hr).2 h3, h4.butL hx b, ⟨h5.len, fun i o ho => let ⟨a, u, v⟩ := h5.at_ i o ho; ⟨a, u, sqT_butL hx b v⟩⟩, h6⟩, hl.len, hl.few, hl.done⟩⟩
theorem EdAt.more {N : List Addr} {ops : List Op} {sts : List (List Stp)} {d : Nat} {x : Addr} (t : EdAt K H e N ops sts d) (hx : H x = none) : EdAt K H e (N ++ [x]) ops sts d := by
  obtain ⟨dx, lg, he, hl⟩ := t.obj
  obtain ⟨dl, tl, ol, xs, as, h1, h2, h3, h4, h5, h6⟩ := hl.obj
  refine ⟨⟨dx, lg, he, ⟨dl, tl, ol, xs, as, h1, h2, h3, h4, h5, fun q hq => ?_⟩, hl.len, hl.few, hl.done⟩⟩
  rcases List.mem_append.mp hq with h | h
  · exact h6 q h
  · obtain rfl : q = x := by simpa using h
    exact ⟨ne_of_none h2 hx, ne_of_none h3 hx⟩
theorem EdAt.sub {N M : List Addr} {ops : List Op} {sts : List (List Stp)} {d : Nat} (t : EdAt K H e N ops sts d) (hs : ∀ q ∈ M, q ∈ N) : EdAt K H e M ops sts d := by
  obtain ⟨dx, lg, he, hl⟩ := t.obj
  obtain ⟨dl, tl, ol, xs, as, h1, h2, h3, h4, h5, h6⟩ := hl.obj
  exact ⟨⟨dx, lg, he, ⟨dl, tl, ol, xs, as, h1, h2, h3, h4, h5, fun q hq => h6 q (hs q hq)⟩, hl.len, hl.few, hl.done⟩⟩
/-- while a new list L fills up -/
structure BkAt (K : Fr) (S : Addr × List Int) (Z : List (Addr × Str)) (r e L : Addr) (ops : List Op) (sts : List (List Stp)) (H0 : Hp) (d n : Nat) (H : Hp) : Prop where
  f2 : F2 r e H0 H
  row : RowAt K S H r
  tb : TbAt Z H
  ed : EdAt K H e ([r] ++ [L]) ops sts d
  lst : H L = some (.lst (List.replicate n (V.bl true)))
theorem BkAt.next {Z : List (Addr × Str)} {L : Addr} {ops : List Op} {sts : List (List Stp)} {H0 : Hp} {d d2 n : Nat} (h : BkAt K S Z r e L ops sts H0 d n H) (row0 : RowAt K S H0 r) (hL : H0 L = none) (b : But e H H2) (ed : EdAt K H2 e ([r] ++ [L]) ops sts d2) (bL : But L H2 H3) (e3 : H3 L = some (.lst (List.replicate n (V.bl true) ++ [V.bl true]))) : BkAt K S Z r e L ops sts H0 d2 (n + 1) H3 := by
  obtain ⟨dx, lg, he, _⟩ := h.ed.obj
  have nLe : L ≠ e := ne_of h.lst he (by intro z; cases z)
  have eL : H2 L = some (.lst (List.replicate n (V.bl true))) := b _ _ nLe h.lst
  have row2 : RowAt K S H2 r := RowAt.butI he b h.row
  have tb2 : TbAt Z H2 := h.tb.but he (by intro _ z; cases z) (by intro _ z; cases z) b
  refine ⟨fun q o h1 h2 nt hq => bL q o (ne_of_none hq hL) (b q o h2 (h.f2 q o h1 h2 nt hq)), RowAt.farB row0 hL bL row2, tb2.butL eL bL, ed.lstB eL bL (by simp), by rw [e3, List.replicate_succ']⟩
/-- the whole state of the law's loop -/
structure LSt (K : Fr) (S : Addr × List Int) (Z : List (Addr × Str)) (r e l R D : Addr) (st : List Stp) (ops : List Op) (d : Nat) (H : Hp) : Prop where
  row : RowAt K S H r
  tb : TbAt Z H
  ed : EdAt K H e [r] ops (st :: runs st ops) d
  st0 : ∃ as, H l = some (.lst (as.map V.ref)) ∧ StepsAt K H as st
  rows : ∃ ra, H R = some (.lst (ra.map V.ref)) ∧ StA K H ra (st :: runs st ops)
  done : ∃ da, H D = some (.lst (da.map V.ref)) ∧ OpsAt K H da ops
  ok : okOps st ops
  bd : BdAt st ops
  dle : d ≤ ops.length
variable {Z : List (Addr × Str)} {l R D : Addr} {st : List Stp} {ops : List Op} {d : Nat}
theorem LSt.two (h : LSt K S Z r e l R D st ops d H) : Two K S H r e := ⟨h.row, let ⟨dx, lg, he, _⟩ := h.ed.obj; ⟨dx, _, he⟩⟩
theorem LSt.f2 {d2 : Nat} (h : LSt K S Z r e l R D st ops d H) (f : F2 r e H H2) (row : RowAt K S H2 r) (tb : TbAt Z H2) (ed : EdAt K H2 e [r] ops (st :: runs st ops) d2) (hd : d2 ≤ ops.length) : LSt K S Z r e l R D st ops d2 H2 :=
  ⟨row, tb, ed, (let ⟨as, a, b⟩ := h.st0; ⟨as, f.lst h.two a, f.steps h.two b⟩), (let ⟨as, a, b⟩ := h.rows; ⟨as, f.lst h.two a, f.sta h.two b⟩), (let ⟨as, a, b⟩ := h.done; ⟨as, f.lst h.two a, f.ops h.two b⟩), h.ok, h.bd, hd⟩
theorem LSt.draw (h : LSt K S Z r e l R D st ops d H) (row : RowAt K S H2 r) (b : But r H H2) : LSt K S Z r e l R D st ops d H2 := h.f2 (F2.butR b) row (h.tb.row h.row b) (h.ed.rowB h.row b (List.mem_singleton.mpr rfl)) h.dle
theorem LSt.same (h : LSt K S Z r e l R D st ops d H) (s : Same H H2) : LSt K S Z r e l R D st ops d H2 := h.f2 (F2.same s) (h.row.same s) (h.tb.same s) (h.ed.same s) h.dle
theorem LSt.extN (h : LSt K S Z r e l R D st ops d H) (s : LamX.ExtN H H2) (tb : TbAt Z H2) : LSt K S Z r e l R D st ops d H2 := h.f2 (F2.extN s) (h.row.extN s) tb (h.ed.extN s) h.dle
theorem LSt.N (h : LSt K S Z r e l R D st ops d H) : ∀ q ∈ [r], ∃ o, H q = some o := fun q hq => by
  obtain rfl : q = r := by simpa using hq
  obtain ⟨_, hx⟩ := h.row.lst
  exact ⟨_, hx⟩
/-- an operation is executed: the editor's new state -/
theorem LSt.exec {o : Op} {R2 D2 : Addr} (h : LSt K S Z r e l R D st ops d H) (b : But e H H2) (ed : EdAt K H2 e [r] (ops.take d ++ [o]) ((st :: runs st ops).take (d + 1) ++ [run1 (fins st (ops.take d)) o]) (d + 1)) (ok : okOp (fins st (ops.take d)) o) (g : Goes most 0 (run1 (fins st (ops.take d)) o))
    (len : (run1 (fins st (ops.take d)) o).length ≤ (fins st (ops.take d)).length + 1) (z : sz (run1 (fins st (ops.take d)) o) ≤ sz (fins st (ops.take d)) + 12) (s : Same H2 H3)
    (hr : ∃ ra, H3 R2 = some (.lst (ra.map V.ref)) ∧ StA K H3 ra (st :: runs st (ops.take d ++ [o]))) (hd : ∃ da, H3 D2 = some (.lst (da.map V.ref)) ∧ OpsAt K H3 da (ops.take d ++ [o])) : LSt K S Z r e l R2 D2 st (ops.take d ++ [o]) (d + 1) H3 := by
  rw [sts_next] at ed
  have f : F2 r e H H3 := (F2.butE b).trans (F2.same s)
  have rowE : RowAt K S H2 r := by
    obtain ⟨dx, lg, he, _⟩ := h.ed.obj
    exact RowAt.butI he b h.row
  have tbE : TbAt Z H2 := by
    obtain ⟨dx, lg, he, _⟩ := h.ed.obj
    exact h.tb.but he (by intro _ z; cases z) (by intro _ z; cases z) b
  refine ⟨rowE.same s, tbE.same s, ed.same s, (let ⟨as, a, b⟩ := h.st0; ⟨as, f.lst h.two a, f.steps h.two b⟩), hr, hd, okOps_snoc (okOps_take h.ok d) ok, h.bd.next h.dle g len z, ?_⟩
  rw [List.length_append, List.length_take]
  have := h.dle
  show _ ≤ _ + 1
  omega
theorem LSt.rowE (h : LSt K S Z r e l R D st ops d H) (b : But e H H2) : RowAt K S H2 r := by
  obtain ⟨dx, lg, he, _⟩ := h.ed.obj
  exact RowAt.butI he b h.row
theorem LSt.tbE (h : LSt K S Z r e l R D st ops d H) (b : But e H H2) : TbAt Z H2 := by
  obtain ⟨dx, lg, he, _⟩ := h.ed.obj
  exact h.tb.but he (by intro _ z; cases z) (by intro _ z; cases z) b
theorem LSt.move {d2 : Nat} (h : LSt K S Z r e l R D st ops d H) (b : But e H H2) (ed : EdAt K H2 e [r] ops (st :: runs st ops) d2) (hd : d2 ≤ ops.length) : LSt K S Z r e l R D st ops d2 H2 := h.f2 (F2.butE b) (h.rowE b) (h.tbE b) ed hd
end
/-! ### undo and redo, told at once -/
def spUndo1 (K : Fr) : Sp := fun vs H Q _ => ∃ (e : Addr) (N : List Addr) (ops : List Op) (sts : List (List Stp)) (d : Nat), vs = [.ref e] ∧ EdAt K H e N ops sts d ∧ ∀ (b : Bool) H2, (b = true ↔ 0 < d) → But e H H2 → EdAt K H2 e N ops sts (d - 1) → Q (.bl b) H2
def spRedo1 (K : Fr) : Sp := fun vs H Q _ => ∃ (e : Addr) (N : List Addr) (ops : List Op) (sts : List (List Stp)) (d : Nat), vs = [.ref e] ∧ EdAt K H e N ops sts d ∧ d ≤ ops.length ∧ ∀ (b : Bool) H2, (b = true ↔ d < ops.length) → But e H H2 → EdAt K H2 e N ops sts (min (d + 1) ops.length) → Q (.bl b) H2
section
variable {P : Program} {w : World} {K : Fr} {mg : Str → Option Value} {base : Heap} {f : Addr} {k : Nat}
theorem undoI (G : Kp P w K mg base k f (spUndo K)) : Kp P w K mg base k f (spUndo1 K) := by
  obtain ⟨fd, ps, F, b, kp⟩ := G
  refine ⟨fd, ps, F.imp fun vs H Q E h => ?_, b, kp⟩
  obtain ⟨e, N, ops, sts, d, rfl, hed, q⟩ := h
  refine ⟨e, N, ops, sts, d, rfl, hed, fun z => ?_, fun z H2 b h2 => q true H2 (by simp [z]) b h2⟩
  subst z
  exact q false H (by simp) (But.refl _ _) hed
theorem redoI (G : Kp P w K mg base k f (spRedo K)) : Kp P w K mg base k f (spRedo1 K) := by
  obtain ⟨fd, ps, F, b, kp⟩ := G
  refine ⟨fd, ps, F.imp fun vs H Q E h => ?_, b, kp⟩
  obtain ⟨e, N, ops, sts, d, rfl, hed, hd, q⟩ := h
  refine ⟨e, N, ops, sts, d, rfl, hed, fun z => ?_, fun z H2 b h2 => q true H2 (by simp [z]) b (by rw [Nat.min_eq_left (by omega)]; exact h2)⟩
  exact q false H (by simp [z]) (But.refl _ _) (by rw [Nat.min_eq_right (by omega), ← z]; exact hed)
theorem bl_ne {b : Bool} {P : Prop} [Decidable P] (h : b = true ↔ P) : (!decide (V.bl b = V.bl (decide P))) = false := by
  have e : b = decide P := by
    by_cases hp : P
    · rw [decide_eq_true hp]; exact h.mpr hp
    · rw [decide_eq_false hp]
      cases b with
      | false => rfl
      | true => exact absurd (h.mp rfl) hp
  rw [e]
  simp
end
/-! ### lists of operations are alike -/
theorem opV_flat (o : Op) : (opV o).all flatL = true := by
  cases o with
  | st x => cases x <;> rfl
  | re p c => rfl
theorem like_op {K : Fr} {H : Hp} {a b : Addr} {o : Op} (ha : SqT K H a (opV o)) (hb : SqT K H b (opV o)) : LkN K 2 H (.ref a) (.ref b) := by
  refine .inr ⟨a, b, _, _, rfl, rfl, .inr ⟨ha, hb⟩, rfl, ?_, fun i u v hu hv => .inl ⟨?_, ?_⟩⟩
  · cases o with
    | st x =>
      cases x with
      | wr w => show 2 ≤ 2000; decide
      | pa f l t => show 4 ≤ 2000; decide
    | re p c => show 3 ≤ 2000; decide
  · exact Option.some.inj (hu.symm.trans hv)
  · exact (List.all_eq_true.mp (opV_flat o)) u (List.mem_of_getElem? hu)
theorem like_ops {K : Fr} {H : Hp} {a b : Addr} {as bs : List Addr} {ops : List Op} (ha : H a = some (.lst (as.map V.ref))) (hb : H b = some (.lst (bs.map V.ref))) (oa : OpsAt K H as ops) (ob : OpsAt K H bs ops) (hl : ops.length ≤ 2000) : LkN K 3 H (.ref a) (.ref b) := by
  refine .inr ⟨a, b, _, _, rfl, rfl, .inl ⟨ha, hb⟩, by rw [List.length_map, List.length_map, oa.len, ob.len], by rw [List.length_map, oa.len]; exact hl, fun i u v hu hv => ?_⟩
  have hi : i < ops.length := by
    have := (List.getElem?_eq_some_iff.mp hu).1
    rwa [List.length_map, oa.len] at this
  obtain ⟨o, ho⟩ : ∃ o, ops[i]? = some o := ⟨ops[i], List.getElem?_eq_getElem hi⟩
  obtain ⟨x, h1, h2⟩ := oa.at_ i o ho
  obtain ⟨y, h3, h4⟩ := ob.at_ i o ho
  obtain rfl : u = .ref x := map_at h1 hu
  obtain rfl : v = .ref y := map_at h3 hv
  exact like_op h2 h4
/-! ### what the undos and redos told -/
theorem inV_rep : ∀ n : Nat, inV (V.bl false) (List.replicate n (V.bl true)) = false
  | 0 => rfl
  | n + 1 => by
    have h := inV_rep n
    rw [List.replicate_succ]
    unfold inV at h ⊢
    rw [List.any_cons, h]
    rfl
theorem flat_rep (n : Nat) : (List.replicate n (V.bl true)).all flatV = true := List.all_eq_true.mpr fun x hx => by
  rw [List.eq_of_mem_replicate hx]
  rfl
theorem op_flat {st : List Stp} {o : Op} (h : okOp st o) : (opV o).all okV = true := by
  have hw : PyData.strOk (Str.ofString "write") = true := by decide +kernel
  have hp : PyData.strOk (Str.ofString "paste") = true := by decide +kernel
  have hr : PyData.strOk (Str.ofString "retype") = true := by decide +kernel
  cases o with
  | st y =>
    have h2 := (goes_app.mp h.1).2.1
    cases y with
    | wr l =>
      simp only [Stp.ok, Bool.and_eq_true] at h2
      have h3 := sL_ok h2.2
      show (okV (.str "write") && (okV (.str (sL l)) && true)) = true
      show (PyData.strOk (Str.ofString "write") && (PyData.strOk (sL l) && true)) = true
      rw [hw, h3]
      rfl
    | pa f l t =>
      show (PyData.strOk (Str.ofString "paste") && (true && (true && (true && true)))) = true
      rw [hp]
      rfl
  | re p c =>
    have h3 : PyData.strOk (sL [c]) = true := sL_ok (by rw [List.all_cons, h.2]; rfl)
    show (PyData.strOk (Str.ofString "retype") && (true && (PyData.strOk (sL [c]) && true))) = true
    rw [hr, h3]
    rfl
theorem ops_flat : ∀ {st : List Stp} {ops : List Op}, okOps st ops → ∀ o ∈ ops, (opV o).all okV = true
  | _, [], _ => fun _ h => nomatch h
  | st, o :: r, h => fun x hx => by
    rcases List.mem_cons.mp hx with rfl | hx
    · exact op_flat h.1
    · exact ops_flat h.2 x hx
end KL
namespace KL
open PySem PySem.Spec PyProof.Rows L2 Pk He
/-! ### == of lists of operations -/
def opD (o : Op) : PyData := .tuple ((opV o).map dOf)
theorem OpsAt.tail {K : Fr} {H : Hp} {a : Addr} {as : List Addr} {o : Op} {ops : List Op} (h : OpsAt K H (a :: as) (o :: ops)) : OpsAt K H as ops := by
  refine ⟨by have := h.len; simpa using this, fun i x hx => ?_⟩
  obtain ⟨b, h1, h2⟩ := h.at_ (i + 1) x (by rw [List.getElem?_cons_succ]; exact hx)
  rw [List.getElem?_cons_succ] at h1
  exact ⟨b, h1, h2⟩
theorem ops_dp {K : Fr} {H : Hp} : ∀ {as : List Addr} {ops : List Op}, OpsAt K H as ops → (∀ o ∈ ops, (opV o).all okV = true) → DpAll K H (as.map V.ref) (ops.map opD)
  | [], [], _, _ => .nil
  | [], _ :: _, h, _ => by have := h.len; simp at this
  | _ :: _, [], h, _ => by have := h.len; simp at this
  | a :: as, o :: ops, h, ok => by
    obtain ⟨b, h1, h2⟩ := h.at_ 0 o rfl
    cases h1
    exact .cons (.tup h2 (dOf_dpA (ok o (List.mem_cons_self ..)))) (ops_dp h.tail fun x hx => ok x (List.mem_cons_of_mem _ hx))
theorem opD_lay {o : Op} (h : (opV o).all okV = true) : (opD o).canLay0 = true := by
  unfold opD
  simp only [PyData.canLay0]
  exact dOf_layA h
theorem opD_layA : ∀ {ops : List Op}, (∀ o ∈ ops, (opV o).all okV = true) → PyData.canLayAll0 (ops.map opD) = true
  | [], _ => by simp [PyData.canLayAll0]
  | o :: r, h => by
    rw [List.map_cons]
    simp [PyData.canLayAll0, opD_lay (h o (List.mem_cons_self ..)), opD_layA fun x hx => h x (List.mem_cons_of_mem _ hx)]
theorem opD_depth (o : Op) : (opD o).depth ≤ 2 := by
  have h := dOf_depthA (opV o)
  unfold opD
  simp only [PyData.depth]
  omega
theorem opD_depthA : ∀ ops : List Op, PyData.depthAll (ops.map opD) ≤ 3
  | [] => by simp [PyData.depthAll]
  | o :: r => by
    have h1 := opD_depth o
    have h2 := opD_depthA r
    rw [List.map_cons]
    simp only [PyData.depthAll]
    omega
theorem ops_shaped {ops : List Op} (h : ∀ o ∈ ops, (opV o).all okV = true) : SeqAt.shaped (.list (ops.map opD)) = true := by
  have h1 := opD_depthA ops
  have h2 : PyData.depth (.list (ops.map opD)) ≤ 64 := by simp only [PyData.depth]; omega
  show (PyData.canLay0 (.list (ops.map opD)) && decide (PyData.depth (.list (ops.map opD)) ≤ 64)) = true
  rw [decide_eq_true h2, Bool.and_true]
  simp only [PyData.canLay0]
  exact opD_layA h
theorem opD_same : ∀ {ops : List Op}, (∀ o ∈ ops, (opV o).all okV = true) → PyData.eqvAll (ops.map opD) (ops.map opD) = true
  | [], _ => by simp [PyData.eqvAll]
  | o :: r, h => by
    rw [List.map_cons]
    show (PyData.eqv (opD o) (opD o) && PyData.eqvAll (r.map opD) (r.map opD)) = true
    have ho := h o (List.mem_cons_self ..)
    rw [opD_same fun x hx => h x (List.mem_cons_of_mem _ hx), Bool.and_true]
    unfold opD
    simp only [PyData.eqv]
    rw [dOf_eqvA ho ho]
    exact decide_eq_true rfl
/-- two lists of the same operations are equal -/
theorem eq_ops {K : Fr} {H : Hp} {a b : Addr} {as bs : List Addr} {ops : List Op} {Q : VK} (ha : H a = some (.lst (as.map V.ref))) (hb : H b = some (.lst (bs.map V.ref))) (h1 : OpsAt K H as ops) (h2 : OpsAt K H bs ops) (ok : ∀ o ∈ ops, (opV o).all okV = true) (q : Q (.bl true) H) : rEqD K (.ref a) (.ref b) H Q := by
  refine ⟨.list (ops.map opD), .list (ops.map opD), .lst (SqL.of ha) (ops_dp h1 ok), .lst (SqL.of hb) (ops_dp h2 ok), ops_shaped ok, ops_shaped ok, ?_⟩
  simp only [PyData.eqv]
  rw [opD_same ok]
  exact q
theorem ne_ops {K : Fr} {H : Hp} {a b : Addr} {as bs : List Addr} {ops : List Op} {Q : VK} (ha : H a = some (.lst (as.map V.ref))) (hb : H b = some (.lst (bs.map V.ref))) (h1 : OpsAt K H as ops) (h2 : OpsAt K H bs ops) (ok : ∀ o ∈ ops, (opV o).all okV = true) (q : Q (.bl false) H) : rNeD K (.ref a) (.ref b) H Q := by
  refine ⟨.list (ops.map opD), .list (ops.map opD), .lst (SqL.of ha) (ops_dp h1 ok), .lst (SqL.of hb) (ops_dp h2 ok), ops_shaped ok, ops_shaped ok, ?_⟩
  simp only [PyData.eqv]
  rw [opD_same ok]
  exact q
end KL
namespace KL
open PySem PySem.Spec PyProof.Rows L2 Pk He
def spWrite (K : Fr) : Sp := fun vs H Q _ => ∃ (e : Addr) (N : List Addr) (ops : List Op) (sts : List (List Stp)) (d : Nat) (ls : List Nat) (st : List Stp), vs = [.ref e, .str (sL ls)] ∧ EdAt K H e N ops sts d ∧ (∀ r ∈ N, ∃ o, H r = some o) ∧ sts[d]? = some st ∧ okOp st (.st (.wr ls)) ∧ d < 1000 ∧
  ∀ H2, But e H H2 → EdAt K H2 e N (ops.take d ++ [.st (.wr ls)]) (sts.take (d + 1) ++ [run1 st (.st (.wr ls))]) (d + 1) → Q (.int (res1 st (.st (.wr ls)))) H2
def spPaste (K : Fr) : Sp := fun vs H Q _ => ∃ (e : Addr) (N : List Addr) (ops : List Op) (sts : List (List Stp)) (d f l t : Nat) (st : List Stp), vs = [.ref e, .int (f : Nat), .int (l : Nat), .int (t : Nat)] ∧ EdAt K H e N ops sts d ∧ (∀ r ∈ N, ∃ o, H r = some o) ∧ sts[d]? = some st ∧ okOp st (.st (.pa f l t)) ∧ d < 1000 ∧
  ∀ H2, But e H H2 → EdAt K H2 e N (ops.take d ++ [.st (.pa f l t)]) (sts.take (d + 1) ++ [run1 st (.st (.pa f l t))]) (d + 1) → Q (.int (res1 st (.st (.pa f l t)))) H2
section
variable {P : Program} {w : World} {K : Fr} {mg : Str → Option Value} {base : Heap} {f : Addr}
theorem ok_Editor_write (D : Df K "write" "Editor.write" s_Editor_write (ma K (ga K "Editor") "write")) (T : Tc w K mg) (G_Editor_execute : Kp P w K mg base 22 (ma K (ga K "Editor") "_execute") (spExe K)) : Kp P w K mg base 24 (ma K (ga K "Editor") "write") (spWrite K) := by
  refine kp_of D sc_Editor_write (fun _ _ _ _ _ _ us hl => match us, hl with | [_, _], _ => rfl) ?_ (fun cdv A outer s H vs Q E hr h => ?_)
  · rintro vs H Q E ⟨e, N, ops, sts, d, ls, st, rfl, _⟩
    rfl
  · obtain ⟨e, N, ops, sts, d, ls, st, rfl, hed, hN, hst, hok, hd, q⟩ := h
    obtain ⟨dx, lg, he, hlog⟩ := hed.obj
    refine ⟨_, (pss_one (ps_ret (pe_methR (pv 0) T.clEditor T.m_Editor_execute G_Editor_execute.fnR (hr.mono (by omega)) pass0 (pa_cons (pe_tup (pa_cons pe_str (pa_cons (pv 1) pa_nil))) pa_nil)))), ?_⟩
    refine ⟨_, rfl, _, _, _, rfl, he, rfl, _, rfl, (by (show 2 ≤ _; decide)), fun p n => ?_⟩
    have ne_e_p := ne_of_none he n
    generalize hE : upd H p _ = H1
    have s1 : Same H H1 := hE ▸ same_upd n
    have e_p := (congrFun hE p).symm.trans upd_same
    clear hE
    refine ⟨_, _, _, _, _, _, _, _, rfl, (hed.same s1), ?_, ?_, hst, hok, (by omega), fun H2 b h => ?_⟩
    rotate_left 2
    exact q _ ((Same.but s1).trans b) h
    refine fun r h => ?_
    · obtain ⟨o, ho⟩ := hN r h
      exact ⟨o, s1 _ _ ho⟩
    · exact SqT.of e_p
theorem ok_Editor_paste (D : Df K "paste" "Editor.paste" s_Editor_paste (ma K (ga K "Editor") "paste")) (T : Tc w K mg) (G_Editor_execute : Kp P w K mg base 22 (ma K (ga K "Editor") "_execute") (spExe K)) : Kp P w K mg base 24 (ma K (ga K "Editor") "paste") (spPaste K) := by
  refine kp_of D sc_Editor_paste (fun _ _ _ _ _ _ us hl => match us, hl with | [_, _, _, _], _ => rfl) ?_ (fun cdv A outer s H vs Q E hr h => ?_)
  · rintro vs H Q E ⟨e, N, ops, sts, d, f, l, t, st, rfl, _⟩
    rfl
  · obtain ⟨e, N, ops, sts, d, f, l, t, st, rfl, hed, hN, hst, hok, hd, q⟩ := h
    obtain ⟨dx, lg, he, hlog⟩ := hed.obj
    refine ⟨_, (pss_one (ps_ret (pe_methR (pv 0) T.clEditor T.m_Editor_execute G_Editor_execute.fnR (hr.mono (by omega)) pass0 (pa_cons (pe_tup (pa_cons pe_str (pa_cons (pv 1) (pa_cons (pv 2) (pa_cons (pv 3) pa_nil))))) pa_nil)))), ?_⟩
    refine ⟨_, rfl, _, _, _, rfl, he, rfl, _, rfl, _, rfl, _, rfl, (by (show 4 ≤ _; decide)), fun p n => ?_⟩
    have ne_e_p := ne_of_none he n
    generalize hE : upd H p _ = H1
    have s1 : Same H H1 := hE ▸ same_upd n
    have e_p := (congrFun hE p).symm.trans upd_same
    clear hE
    refine ⟨_, _, _, _, _, _, _, _, rfl, (hed.same s1), ?_, ?_, hst, hok, (by omega), fun H2 b h => ?_⟩
    rotate_left 2
    exact q _ ((Same.but s1).trans b) h
    refine fun r h => ?_
    · obtain ⟨o, ho⟩ := hN r h
      exact ⟨o, s1 _ _ ho⟩
    · exact SqT.of e_p
end
end KL
namespace KL
open PySem PySem.Spec PyProof.Rows L2 Pk He
section
variable {P : Program} {w : World} {K : Fr} {mg : Str → Option Value} {base : Heap} {f : Addr}
theorem ok_law_act (D : Df K "_law_act" "_law_act" s_law_act (ga K "_law_act")) (T : Tc w K mg) (G_Editor_write : Kp P w K mg base 24 (ma K (ga K "Editor") "write") (spWrite K)) (G_Editor_paste : Kp P w K mg base 24 (ma K (ga K "Editor") "paste") (spPaste K)) (G_Editor_retype : Kp P w K mg base 24 (ma K (ga K "Editor") "retype") (spRetype K)) : Kp P w K mg base 26 (ga K "_law_act") (spExe K) := by
  refine kp_of D sc_law_act (fun _ _ _ _ _ _ us hl => match us, hl with | [_, _], _ => rfl) ?_ (fun cdv A outer s H vs Q E hr h => ?_)
  · rintro vs H Q E ⟨e, a, N, ops, sts, d, o, st, rfl, _⟩
    rfl
  · obtain ⟨e, a, N, ops, sts, d, o, st, rfl, hed, hN, ha, hst, hok, hd, q⟩ := h
    obtain ⟨dx, lg, he, hlog⟩ := hed.obj
    refine ⟨_, (pss_cons (ps_if (pt_cmpR (eqB K hr.units) (pe_ix (ixS K) (pv 1) pe_int (fun _ _ => rfl)) pe_str (nomark _)) (pss_one (ps_ret (pe_methR (pv 0) T.clEditor T.m_Editor_write G_Editor_write.fnR (hr.mono (by omega)) pass0 (pa_cons (pe_ix (ixS K) (pv 1) pe_int (fun _ _ => rfl)) pa_nil)))) pss_nil) (pss_cons (ps_if (pt_cmpR (eqB K hr.units) (pe_ix (ixS K) (pv 1) pe_int (fun _ _ => rfl)) pe_str (nomark _)) (pss_one (ps_ret (pe_methR (pv 0) T.clEditor T.m_Editor_paste G_Editor_paste.fnR (hr.mono (by omega)) pass0 (pa_cons (pe_ix (ixS K) (pv 1) pe_int (fun _ _ => rfl)) (pa_cons (pe_ix (ixS K) (pv 1) pe_int (fun _ _ => rfl)) (pa_cons (pe_ix (ixS K) (pv 1) pe_int (fun _ _ => rfl)) pa_nil)))))) pss_nil) (pss_one (ps_ret (pe_methR (pv 0) T.clEditor T.m_Editor_retype G_Editor_retype.fnR (hr.mono (by omega)) pass0 (pa_cons (pe_ix (ixS K) (pv 1) pe_int (fun _ _ => rfl)) (pa_cons (pe_ix (ixS K) (pv 1) pe_int (fun _ _ => rfl)) pa_nil))))))), ?_⟩
    cases o with
    | st x =>
      cases x with
      | wr ls =>
        have ha : SqT K H a [.str "write", .str (sL ls)] := ha
        refine ⟨_, rfl, (.inr (.inl ⟨_, _, _, _, rfl, rfl, ha, rfl, (.inl ⟨rfl, _, rfl, ?_⟩)⟩))⟩
        refine iT (sT rfl) ?_
        refine ⟨_, rfl, _, _, _, rfl, he, rfl, _, rfl, (.inr (.inl ⟨_, _, _, _, rfl, rfl, ha, rfl, _, _, _, _, _, _, _, rfl, hed, hN, hst, hok, (by omega), fun H2 b h => ?_⟩))⟩
        exact q _ b h
      | pa f l t =>
        have ha : SqT K H a [.str "paste", .int (f : Nat), .int (l : Nat), .int (t : Nat)] := ha
        refine ⟨_, rfl, (.inr (.inl ⟨_, _, _, _, rfl, rfl, ha, rfl, (.inl ⟨rfl, _, rfl, ?_⟩)⟩))⟩
        refine iF (by decide +kernel) ?_
        refine ⟨_, rfl, (.inr (.inl ⟨_, _, _, _, rfl, rfl, ha, rfl, (.inl ⟨rfl, _, rfl, ?_⟩)⟩))⟩
        refine iT (sT rfl) ?_
        refine ⟨_, rfl, _, _, _, rfl, he, rfl, _, rfl, (.inr (.inl ⟨_, _, _, _, rfl, rfl, ha, rfl, _, rfl, (.inr (.inl ⟨_, _, _, _, rfl, rfl, ha, rfl, _, rfl, (.inr (.inl ⟨_, _, _, _, rfl, rfl, ha, rfl, _, _, _, _, _, _, _, _, _, rfl, hed, hN, hst, hok, (by omega), fun H2 b h => ?_⟩))⟩))⟩))⟩
        exact q _ b h
    | re p c =>
      have ha : SqT K H a [.str "retype", .int (p : Nat), .str (sL [c])] := ha
      have hok2 : p < sz st ∧ isLet c = true := hok
      refine ⟨_, rfl, (.inr (.inl ⟨_, _, _, _, rfl, rfl, ha, rfl, (.inl ⟨rfl, _, rfl, ?_⟩)⟩))⟩
      refine iF (by decide +kernel) ?_
      refine ⟨_, rfl, (.inr (.inl ⟨_, _, _, _, rfl, rfl, ha, rfl, (.inl ⟨rfl, _, rfl, ?_⟩)⟩))⟩
      refine iF (by decide +kernel) ?_
      refine ⟨_, rfl, _, _, _, rfl, he, rfl, _, rfl, (.inr (.inl ⟨_, _, _, _, rfl, rfl, ha, rfl, _, rfl, (.inr (.inl ⟨_, _, _, _, rfl, rfl, ha, rfl, ?_⟩))⟩))⟩
      refine ⟨_, _, _, _, _, _, _, _, rfl, hed, hN, hst, (by omega), ?_, (by omega), fun H2 b h => ?_⟩
      rotate_left 1
      exact q _ b h
      exact hok2.2
end
end KL
namespace KL
open PySem PySem.Spec PyProof.Rows L2 Pk He
/-- a call that raises nothing -/
def TTn : (XK → Hp → VK → Prop) → Hp → VK → Prop := fun tl H Q => tl (fun _ _ _ => False) H Q
section
variable {P : Program} {w : World} {K : Fr} {mg : Str → Option Value} {base : Heap} {f : Addr}
theorem ok_told0 (D : Df K "_law_told" "_law_told" s_law_told (ga K "_law_told")) : LamG w K mg "_law_told" "_law_work" (ga K "_law_told") TTn := by
  refine lamG_of D sc_law_told (fun _ _ _ _ _ _ us hl => match us, hl with | [_], _ => rfl) rfl (Or.inl rfl) fun cdv X hw hK hM f c' s H Q O u tl hact hf hc nO nu hr h => ?_
  refine ⟨_, pss_one (ps_try_thru0 (pss_one (ps_ret (hact (fun _ _ _ _ => False) [] (fun _ _ => False) (fun _ _ _ => False) _ _ takes0 (fun _ _ _ _ h => h))))), ?_⟩
  exact ⟨rfl, hf, hc, h⟩
end
end KL
namespace KL
open PySem PySem.Spec PyProof.Rows L2 Pk He
section
variable {P : Program} {w : World} {K : Fr} {mg : Str → Option Value} {base : Heap} {f : Addr} {Z : List (Addr × Str)}
-- hint: cut:_law_pick_here == 0 => 1
-- hint: len(_law_again) => (pk_b1 (call_lenO T.o_Editor_len G_Editor_len.fnR (hr.mono (by omega)) pass0) T.len b_len (pv 11))
theorem ok_law {fd : FuncData} (D : FunD K "law" "law" (defArgs sLaw) (defBody sLaw) (defScope sLaw) [] [] f fd) (T : Tc w K mg) (G_law_dice : Kp P w K mg base 1 (ga K "_law_dice") (spDice K)) (G_law_next : Kp P w K mg base 1 (ga K "_law_next") (spTaken K)) (G_law_steps : Kp P w K mg base 5 (ga K "_law_steps") (spStepsD K)) (G_law_deed : Kp P w K mg base 6 (ga K "_law_deed") (spDeed0 K)) (G_law_after : Kp P w K mg base 3 (ga K "_law_after") (spAfterD K)) (G_law_told : LamG w K mg "_law_told" "_law_work" (ga K "_law_told") TTn) (G_law_like : Kp P w K mg base 5 (ga K "_law_like") (spLike K 3)) (G_law_act : Kp P w K mg base 26 (ga K "_law_act") (spExe K)) (G_Editor_replay : Kp P w K mg base 24 (He5.wf K (ga K "Editor") "classmethod" "replay") (spReplay K)) (G_Editor_undo : Kp P w K mg base 8 (ma K (ga K "Editor") "undo") (spUndo K)) (G_Editor_redo : Kp P w K mg base 8 (ma K (ga K "Editor") "redo") (spRedo K)) (G_Editor_present_text : Kp P w K mg base 2 (pgA K (ga K "Editor") "present_text") (spPresent K)) (G_Editor_history : Kp P w K mg base 2 (pgA K (ga K "Editor") "history") (spHistory K)) (G_Editor_len : Kp P w K mg base 4 (ma K (ga K "Editor") "__len__") (spEdLen K)) (G_Text_steps : Kp P w K mg base 1 (pgA K (CT K) "steps") (spStepsP K)) (G_Text_eq : Kp P w K mg base 1 (ma K (CT K) "__eq__") (spEqT K)) (LD : ∃ c : Addr, fd.code = .ref c ∧ LamD base mg Z c "law.<locals>.<lambda>") : FnOk P w K mg base CX0 60 f fd ["_law_script"] (spLawT K Z) := by
  have G_Editor_undo := undoI G_Editor_undo
  have G_Editor_redo := redoI G_Editor_redo
  have G_Text_eq := eqI G_Text_eq
  obtain ⟨c, hcode, Pt, TB, zm, zu⟩ := LD; refine fnC_of D hcode sc_law ?_ (fun A outer s H vs Q E hr h => ?_)
  · rintro vs H Q E ⟨scr, ns, rfl, _⟩
    rfl
  · obtain ⟨scr, ns, rfl, hs, hT, q⟩ := h
    have hmost : most = 1000000000000000000 := rfl
    refine ⟨_, (pss_cons (ps_set (i := 1) sc_law.nd rfl (Or.inl rfl) (pk_call G_law_dice (hr.mono (by omega)) T.g_law_dice (pa_cons (pv 0) pa_nil))) (pss_cons (ps_set (i := 2) sc_law.nd rfl (Or.inl rfl) (pk_call G_law_steps (hr.mono (by omega)) T.gSteps (pa_cons (pv 1) (pa_cons pe_int (pa_cons pe_int pa_nil))))) (pss_cons (ps_set (i := 12) sc_law.nd rfl (Or.inr rfl) (ClX.pe_cmeth (pe_gR T.g_Editor) T.rd_Editor T.cm_Editor_replay G_Editor_replay.fnR (hr.mono (by omega)) pass0 (pa_cons (pk_t1 call_tuple_of T.tup b_tuple (pv 2)) (pa_cons (pe_lst pa_nil) pa_nil)))) (pss_cons (ps_par3 (i := 3) (j := 4) (l := 5) rfl sc_law.nd rfl rfl rfl (by decide) (by decide) (by decide) rfl rfl rfl (pa_cons (pe_lst (pa_cons (pv 2) pa_nil)) (pa_cons pe_int (pa_cons (pe_lst pa_nil) pa_nil))) (by rfl)) (pss_cons (ps_for PassesOwn.never rfl (pi_range1 (by rfl) T.rng (pa_cons (pk_call G_law_next (hr.mono (by omega)) T.g_law_next (pa_cons (pv 1) (pa_cons pe_int pa_nil))) pa_nil)) (pg_name (i := 6) sc_law.nd rfl (Or.inl rfl)) (pss_cons (ps_set (i := 7) sc_law.nd rfl (Or.inl rfl) (pk_call G_law_next (hr.mono (by omega)) T.g_law_next (pa_cons (pv 1) (pa_cons pe_int pa_nil)))) (C8.pss_cut (ps_if (pt_cmpR ((eqB K hr.units).or (op_eqO T.oEq G_Text_eq.fnR (hr.mono (by omega)) pass0)) (pv 7) pe_int (nomark _)) (pss_cons (ps_if (pt_cmpR ((neB K hr.units).or (op_neO T.oEq T.neT T.insT.hm G_Text_eq.fnR (hr.mono (by omega)) pass0)) (pe_methR0 (pv 12) T.clEditor T.m_Editor_undo G_Editor_undo.fnR (hr.mono (by omega)) pass0) (pe_cmpR op_gt (pv 4) pe_int (nomark _)) (nomark _)) (pss_one (ps_ret pe_bl)) pss_nil) (pss_one (ps_set (i := 4) sc_law.nd rfl (Or.inl rfl) (pe_callB (call_max2 rfl) (by rfl) T.max b_max (pa_cons pe_int (pa_cons (pe_op op_sub (pv 4) pe_int) pa_nil)))))) (pss_one (ps_if (pt_cmpR ((eqB K hr.units).or (op_eqO T.oEq G_Text_eq.fnR (hr.mono (by omega)) pass0)) (pv 7) pe_int (nomark _)) (pss_cons (ps_if (pt_cmpR ((neB K hr.units).or (op_neO T.oEq T.neT T.insT.hm G_Text_eq.fnR (hr.mono (by omega)) pass0)) (pe_methR0 (pv 12) T.clEditor T.m_Editor_redo G_Editor_redo.fnR (hr.mono (by omega)) pass0) (pe_cmpR op_lt (pe_op (addA K) (pv 4) pe_int) (pk_b1 (lenA K) T.len b_len (pv 3)) (nomark _)) (nomark _)) (pss_one (ps_ret pe_bl)) pss_nil) (pss_one (ps_set (i := 4) sc_law.nd rfl (Or.inl rfl) (pe_callB (call_min2 rfl) (by rfl) T.min b_min (pa_cons (pe_op op_sub (pk_b1 (lenA K) T.len b_len (pv 3)) pe_int) (pa_cons (pe_op (addA K) (pv 4) pe_int) pa_nil)))))) (pss_cons (ps_set (i := 13) sc_law.nd rfl (Or.inr rfl) (pk_call G_law_deed (hr.mono (by omega)) T.g_law_deed (pa_cons (pv 1) (pa_cons (pe_ix (ixS K) (pv 3) (pv 4) (fun _ _ => rfl)) (pa_cons pe_int pa_nil))))) (pss_cons (ps_asg (pk_call G_law_after (hr.mono (by omega)) T.g_law_after (pa_cons (pe_ix (ixS K) (pv 3) (pv 4) (fun _ _ => rfl)) (pa_cons (pv 13) pa_nil))) (pg_tup rfl (pgs_cons (pg_name (i := 8) sc_law.nd rfl (Or.inl rfl)) (pgs_cons (pg_name (i := 9) sc_law.nd rfl (Or.inl rfl)) pgs_nil)))) (pss_cons (ps_if (pt_not (pt_val (pk_call G_law_like (hr.mono (by omega)) T.g_law_like (pa_cons (pe_lamGL (T := Z) (c := c) (Pt := Pt) (k := 50) G_law_told T.g_law_told TB rfl zm zu (hr.mono (by omega)) (LamX.lamS_by (by show LamX.lamSB (defScope sLaw) _ = true; decide +kernel)) (by rfl) (fun _ _ _ _ _ => by rfl) (fun _ _ _ _ _ _ _ hr2 => (pk_call G_law_act (hr2.mono (by omega)) T.g_law_act (pa_cons (pv 12) (pa_cons (pv 13) pa_nil))))) (pa_cons (pv 8) pa_nil))))) (pss_one (ps_ret pe_bl)) pss_nil) (pss_one (ps_if (pt_not (pt_val (pe_isi (pv 8) T.isi T.tup b_tuple))) (pss_cons (ps_par (i := 3) (j := 5) rfl sc_law.nd rfl rfl (by decide) rfl rfl (pa_cons (pe_op (addA K) (pe_slice (slA K) (pv 3) po_none (po_some (pe_op (addA K) (pv 4) pe_int))) (pe_lst (pa_cons (pv 9) pa_nil))) (pa_cons (pe_op (addA K) (pe_slice (slA K) (pv 5) po_none (po_some (pv 4))) (pe_lst (pa_cons (pv 13) pa_nil))) pa_nil)) (by rfl)) (pss_one (ps_set (i := 4) sc_law.nd rfl (Or.inl rfl) (pe_op (addA K) (pv 4) pe_int)))) pss_nil)))))))) (pss_one (ps_if (pw_or (pt_cmpR ((neB K hr.units).or (op_neO T.oEq T.neT T.insT.hm G_Text_eq.fnR (hr.mono (by omega)) pass0)) (pk_prop (pk_prop (pv 12) T.clEditor T.p_Editor_present_text G_Editor_present_text (hr.mono (by omega))) T.clT T.pSteps G_Text_steps (hr.mono (by omega))) (pk_t1 call_tuple_of T.tup b_tuple (pe_ix (ixS K) (pv 3) (pv 4) (fun _ _ => rfl))) (nomark _)) (pw_or1 (pt_not (pt_val (pk_call G_law_like (hr.mono (by omega)) T.g_law_like (pa_cons (pk_prop (pv 12) T.clEditor T.p_Editor_history G_Editor_history (hr.mono (by omega))) (pa_cons (pe_slice (slA K) (pv 5) po_none (po_some (pv 4))) pa_nil))))))).pt (pss_one (ps_ret pe_bl)) pss_nil))))) (pss_cons (ps_setLc (i := 10) (own := [("_law_step", 14)]) (g := gName 14) (tt := tYes) rfl sc_law.nd rfl rfl (sw_true rfl rfl rfl (by decide +kernel)) (pi_range1 (by rfl) T.rng (pa_cons (pv 4) pa_nil)) (blkOk_by (N := ["_law_script", "_law_d", "_law_start", "_law_rows", "_law_k", "_law_done", "_law_turn", "_law_pick_here", "_law_due", "_law_later", "_law_back", "_law_again", "_law_editor", "_law_operation", "_law_step"]) (sc := defScope sLaw) (by decide +kernel)) (fun _ _ _ _ _ => (pg_name (i := 14) sc_law.nd rfl (Or.inl rfl))) (fun _ _ _ _ _ => pts_nil) (fun _ _ _ _ _ => (pe_methR0 (pv 12) T.clEditor T.m_Editor_undo G_Editor_undo.fnR (hr.mono (by omega)) pass0))) (pss_cons (ps_if (pw_or (pt_cmpR ((neB K hr.units).or (op_neO T.oEq T.neT T.insT.hm G_Text_eq.fnR (hr.mono (by omega)) pass0)) (pk_prop (pk_prop (pv 12) T.clEditor T.p_Editor_present_text G_Editor_present_text (hr.mono (by omega))) T.clT T.pSteps G_Text_steps (hr.mono (by omega))) (pk_t1 call_tuple_of T.tup b_tuple (pv 2)) (nomark _)) (pw_or (pt_cmpR (inA K) pe_bl (pv 10) rfl) (pw_or1 (pt_val (pe_methR0 (pv 12) T.clEditor T.m_Editor_undo G_Editor_undo.fnR (hr.mono (by omega)) pass0))))).pt (pss_one (ps_ret pe_bl)) pss_nil) (pss_cons (ps_setLc (i := 10) (own := [("_law_step", 14)]) (g := gName 14) (tt := tYes) rfl sc_law.nd rfl rfl (sw_true rfl rfl rfl (by decide +kernel)) (pi_range1 (by rfl) T.rng (pa_cons (pv 4) pa_nil)) (blkOk_by (N := ["_law_script", "_law_d", "_law_start", "_law_rows", "_law_k", "_law_done", "_law_turn", "_law_pick_here", "_law_due", "_law_later", "_law_back", "_law_again", "_law_editor", "_law_operation", "_law_step"]) (sc := defScope sLaw) (by decide +kernel)) (fun _ _ _ _ _ => (pg_name (i := 14) sc_law.nd rfl (Or.inl rfl))) (fun _ _ _ _ _ => pts_nil) (fun _ _ _ _ _ => (pe_methR0 (pv 12) T.clEditor T.m_Editor_redo G_Editor_redo.fnR (hr.mono (by omega)) pass0))) (pss_cons (ps_if (pw_or (pt_cmpR ((neB K hr.units).or (op_neO T.oEq T.neT T.insT.hm G_Text_eq.fnR (hr.mono (by omega)) pass0)) (pk_prop (pk_prop (pv 12) T.clEditor T.p_Editor_present_text G_Editor_present_text (hr.mono (by omega))) T.clT T.pSteps G_Text_steps (hr.mono (by omega))) (pk_t1 call_tuple_of T.tup b_tuple (pe_ix (ixS K) (pv 3) (pv 4) (fun _ _ => rfl))) (nomark _)) (pw_or1 (pt_cmpR (inA K) pe_bl (pv 10) rfl))).pt (pss_one (ps_ret pe_bl)) pss_nil) (pss_cons (ps_set (i := 11) sc_law.nd rfl (Or.inl rfl) (ClX.pe_cmeth (pe_gR T.g_Editor) T.rd_Editor T.cm_Editor_replay G_Editor_replay.fnR (hr.mono (by omega)) pass0 (pa_cons (pk_t1 call_tuple_of T.tup b_tuple (pv 2)) (pa_cons (pe_slice (slA K) (pv 5) po_none (po_some (pv 4))) pa_nil)))) (pss_one (ps_ret (pe_and (pe_cmpR ((eqB K hr.units).or (op_eqO T.oEq G_Text_eq.fnR (hr.mono (by omega)) pass0)) (pk_prop (pv 11) T.clEditor T.p_Editor_present_text G_Editor_present_text (hr.mono (by omega))) (pk_prop (pv 12) T.clEditor T.p_Editor_present_text G_Editor_present_text (hr.mono (by omega))) (nomark _)) (pe_and (pe_cmpR ((eqB K hr.units).or (op_eqO T.oEq G_Text_eq.fnR (hr.mono (by omega)) pass0)) (pk_prop (pv 11) T.clEditor T.p_Editor_history G_Editor_history (hr.mono (by omega))) (pk_prop (pv 12) T.clEditor T.p_Editor_history G_Editor_history (hr.mono (by omega))) (nomark _)) (pe_one (pe_cmpR ((eqB K hr.units).or (op_eqO T.oEq G_Text_eq.fnR (hr.mono (by omega)) pass0)) (pk_b1 (call_lenO T.o_Editor_len G_Editor_len.fnR (hr.mono (by omega)) pass0) T.len b_len (pv 11)) (pv 4) (nomark _))))))))))))))))), ?_⟩
    refine ⟨_, rfl, _, _, rfl, hs, fun r H2 n s1 row => ?_⟩
    refine ⟨_, rfl, _, _, _, _, rfl, row, (by omega), (by omega), (by omega), (by omega), fun l as st H21 row1 b n1 h e h1 h2 h3 h4 e1 => ?_⟩
    refine ⟨rfl, _, rfl, _, _, rfl, (.inl ⟨(SqL.of e), fun l1 n2 => ?_⟩)⟩
    have ne_l1 := row_ne row1 n2
    generalize hE : upd H21 l1 _ = H1
    have s2 : Same H21 H1 := hE ▸ same_upd n2
    have e_l1 := (congrFun hE l1).symm.trans upd_same
    clear hE
    generalize hσ : List.set _ _ _ = σ1
    simp only [L2.start, List.set_cons_zero, List.set_cons_succ, List.map_cons, List.map_nil, List.length_cons, List.length_nil, List.replicate_succ, List.replicate_zero, List.cons_append, List.nil_append, Nat.reduceAdd, Nat.reduceSub] at hσ
    subst hσ
    refine ⟨(by (show 0 ≤ _; decide)), fun p n3 => ?_⟩
    have ne_p := row_ne (RowAt.same row1 s2) n3
    have s3 : Same H1 (upd H1 p (.lst [])) := same_upd n3
    have e_p : (upd H1 p (.lst [])) p = some (.lst []) := upd_same
    generalize upd H1 p (.lst []) = H4 at s3 e_p ⊢
    have row4 : RowAt K (scr, ns) H4 r := (row1.same s2).same s3
    refine ⟨l1, p, [r], as, [], st, [], rfl, (fun q hq => ?_), SqT.of (s3 _ _ e_l1), h1.same (s2.trans s3), h2, (by omega), e_p, OpsAt.nil, trivial, Nat.zero_le _, fun e0 H5 nE s5 hed => ?_⟩
    · obtain rfl : q = r := by simpa using hq
      obtain ⟨_, hx⟩ := row4.lst
      exact ⟨_, hx⟩
    have hed0 : EdAt K H5 e0 [r] [] (st :: runs st []) 0 := hed
    clear hed
    refine ⟨_, rfl, (by (show 1 ≤ _; decide)), fun p1 n4 => ?_⟩
    have ne_p1 := row_ne (RowAt.same row4 s5) n4
    generalize hE : upd H5 p1 _ = H11
    have s4 : Same H5 H11 := hE ▸ same_upd n4
    have e_p1 := (congrFun hE p1).symm.trans upd_same
    clear hE
    refine ⟨(by (show 0 ≤ _; decide)), fun p2 n5 => ?_⟩
    have ne_p2 := row_ne (RowAt.same row4 (s5.trans s4)) n5
    refine ⟨_, _, _, rfl, ?_⟩
    generalize hσ : List.set _ _ _ = σ1
    simp only [L2.start, List.set_cons_zero, List.set_cons_succ, List.map_cons, List.map_nil, List.length_cons, List.length_nil, List.replicate_succ, List.replicate_zero, List.cons_append, List.nil_append, Nat.reduceAdd, Nat.reduceSub] at hσ
    subst hσ
    refine ⟨_, rfl, ?_⟩
    refine ⟨_, _, rfl, ?_⟩
    refine ⟨_, (RowAt.same row4 (same_own (s5.trans s4) ((s5.trans s4).free n5))), (by omega), (by omega), fun v H22 row2 b1 h5 h6 => ?_⟩
    refine ⟨_, rfl, (by omega), (by omega), ?_⟩
    refine for_range (lo := 0) (n := v.toNat) (fun i σ HB => ∃ (R D : Addr) (ops : List Op) (d : Nat) (v6 v7 v8 v9 v10 v11 v13 v14 : Option V), σ = [some (.ref scr), some (.ref r), some (.ref l), some (.ref R), some (.int (d : Nat)), some (.ref D), v6, v7, v8, v9, v10, v11, some (.ref e0), v13, v14] ∧ LSt K (scr, ns) Z r e0 l R D st ops d HB ∧ ops.length ≤ i) ?_ ?_ ?_
    · have sA : Same H21 H11 := s2.trans (s3.trans (s5.trans s4))
      have sX : Same H11 (upd H11 p2 (.lst [])) := same_upd n5
      have rowX : RowAt K (scr, ns) (upd H11 p2 (.lst [])) r := (row1.same sA).same sX
      refine ⟨p1, p2, [], 0, _, _, _, _, _, _, _, _, rfl, ⟨row2, (((hT.same s1).row row b).same (sA.trans sX)).row rowX b1, (hed0.same (s4.trans sX)).rowB rowX b1 (List.mem_singleton.mpr rfl), ⟨as, b1 _ _ h (sX _ _ (sA _ _ e)), steps_row rowX b1 (h1.same (sA.trans sX))⟩, ⟨[l], b1 _ _ ne_p1 (sX _ _ e_p1), ⟨rfl, fun j x hx => ?_⟩⟩, ⟨[], b1 _ _ ne_p2 upd_same, OpsAt.nil⟩, trivial, fun j hj => ?_, Nat.le_refl _⟩, Nat.zero_le _⟩
      · cases j with
        | zero => cases hx; exact ⟨l, as, rfl, b1 _ _ h (sX _ _ (sA _ _ e)), steps_row rowX b1 (h1.same (sA.trans sX))⟩
        | succ j => simp [runs] at hx
      · obtain rfl : j = 0 := by simpa using hj
        exact ⟨h2, by show st.length ≤ _; omega, by show sz st ≤ _; omega⟩
    · rintro i σ HB hi ⟨R, D, ops, d, v6, v7, v8, v9, v10, v11, v13, v14, rfl, ls, few⟩
      have hi16 : i < 16 := by omega
      have hrow := ls.row
      refine ⟨_, rfl, _, _, rfl, _, hrow, (by omega), (by omega), fun v1 H23 row3 b2 h7 h8 => ?_⟩
      refine ⟨fun σ HX => ∃ (R D : Addr) (ops : List Op) (d : Nat) (v7 v8 v9 v10 v11 v13 v14 : Option V), σ = [some (.ref scr), some (.ref r), some (.ref l), some (.ref R), some (.int (d : Nat)), some (.ref D), some (.int (0 + (i : Nat))), v7, v8, v9, v10, v11, some (.ref e0), v13, v14] ∧ LSt K (scr, ns) Z r e0 l R D st ops d HX ∧ ops.length ≤ i + 1, ?_, ?_⟩
      · have ls2 := ls.draw row3 b2
        have hed := ls2.ed
        obtain ⟨dxe, lge, hee, hloge⟩ := hed.obj
        refine ⟨_, rfl, (.inl (.inl ⟨rfl, _, rfl, ?_⟩))⟩
        generalize hσ : List.set _ _ _ = σ1
        simp only [L2.start, List.set_cons_zero, List.set_cons_succ, List.map_cons, List.map_nil, List.length_cons, List.length_nil, List.replicate_succ, List.replicate_zero, List.cons_append, List.nil_append, Nat.reduceAdd, Nat.reduceSub] at hσ
        subst hσ
        refine iB (fun hv => ?_) fun hv => ?_
        · refine ⟨_, rfl, _, _, _, rfl, hee, rfl, _, _, _, _, _, rfl, hed, fun b3 H24 h9 b4 h10 => ?_⟩
          refine ⟨_, rfl, _, _, rfl, rfl, (.inl (.inl ⟨rfl, _, rfl, ?_⟩))⟩
          refine iF (bl_ne (h9.trans ⟨fun z => by omega, fun z => by omega⟩)) ?_
          refine ⟨_, rfl, _, _, rfl, rfl, _, _, rfl, ?_⟩
          have ez : (if (d : Int) - 1 > 0 then (d : Int) - 1 else 0) = ((d - 1 : Nat) : Int) := by split <;> omega
          rw [ez]
          exact ⟨R, D, ops, d - 1, _, _, _, _, _, _, _, rfl, ls2.move b4 h10 (by have := ls2.dle; omega), by omega⟩
        · refine ⟨_, rfl, (.inl (.inl ⟨rfl, _, rfl, ?_⟩))⟩
          refine iB (fun hv2 => ?_) fun hv2 => ?_
          · have hdle := ls2.dle
            obtain ⟨ra, hR, hra⟩ := ls2.rows
            have hral : (ra.map V.ref).length = ops.length + 1 := by
              rw [List.length_map, hra.len]
              show (runs st ops).length + 1 = _
              rw [runs_len]
            refine ⟨_, rfl, _, _, _, rfl, hee, rfl, _, _, _, _, _, rfl, hed, (by omega), fun b3 H24 h9 b4 h10 => ?_⟩
            refine ⟨_, rfl, (.inl ⟨_, _, rfl, rfl, _, rfl, (.inr (.inl ⟨_, _, rfl, (.inl (SqL.of (b4 _ _ (ne_of hR hee (by intro z; cases z)) hR))), _, _, rfl, rfl, (.inl (.inl ⟨rfl, _, rfl, ?_⟩))⟩))⟩)⟩
            refine iF (bl_ne (h9.trans ⟨fun z => by omega, fun z => by omega⟩)) ?_
            refine ⟨_, rfl, (.inr (.inl ⟨_, _, rfl, (.inl (SqL.of (b4 _ _ (ne_of hR hee (by intro z; cases z)) hR))), _, _, rfl, rfl, _, rfl, (.inl ⟨_, _, rfl, rfl, _, _, rfl, ?_⟩)⟩))⟩
            have ez : (if (d : Int) + 1 < ((ra.map V.ref).length : Nat) - 1 then (d : Int) + 1 else ((ra.map V.ref).length : Nat) - 1) = ((min (d + 1) ops.length : Nat) : Int) := by split <;> omega
            rw [ez]
            exact ⟨R, D, ops, min (d + 1) ops.length, _, _, _, _, _, _, _, rfl, ls2.move b4 h10 (by omega), by omega⟩
          · obtain ⟨gcur, lcur, zcur⟩ := ls2.bd d ls2.dle
            have hcur := sts_at st ops d ls2.dle
            have hdle := ls2.dle
            obtain ⟨ra, hR, hra⟩ := ls2.rows
            obtain ⟨x0, xs0, hx0, hX, hsx⟩ := hra.at_ d _ hcur
            have hxr := refs_rowD ls2.row hX
            have hRr := refs_rowD ls2.row hR
            obtain ⟨da, hD, hda⟩ := ls2.done
            have hDr := refs_rowD ls2.row hD
            have hat0 : atI (ra.map V.ref) (d : Int) = some (.ref x0) := atI_nat (by rw [List.getElem?_map, hx0]; rfl)
            refine ⟨_, rfl, _, rfl, _, rfl, (.inl ⟨_, _, _, _, rfl, rfl, (SqL.of hR), hat0, _, _, _, _, _, rfl, row3, hX, hsx, gcur, (by omega), (by omega), hxr, fun t o H24 row5 b3 h9 h10 h11 h12 h13 => ?_⟩)⟩
            refine ⟨_, rfl, _, rfl, (.inl ⟨_, _, _, _, rfl, rfl, (SqL.of (b3 _ _ hRr hR)), hat0, _, rfl, _, _, _, _, _, rfl, (b3 _ _ hxr hX), (steps_row row3 b3 hsx), gcur, (by omega), h9, h10, (by omega), (by omega), fun p3 l2 as2 H25 s6 n6 e2 e3 h14 => ?_⟩)⟩
            have ne_l2 := row_ne row5 n6
            refine ⟨_, _, rfl, (SqT.of e2), rfl, _, _, rfl, _, _, rfl, rfl, ?_, fun f1 c' H26 n7 x tb e4 e5 => ?_⟩
            rotate_left 1
            have ne_f1 := row_ne (RowAt.same row5 s6) n7
            generalize hσ : List.set _ _ _ = σ1
            simp only [L2.start, List.set_cons_zero, List.set_cons_succ, List.map_cons, List.map_nil, List.length_cons, List.length_nil, List.replicate_succ, List.replicate_zero, List.cons_append, List.nil_append, Nat.reduceAdd, Nat.reduceSub] at hσ
            subst hσ
            refine ⟨_, _, rfl, e4, e5, _, rfl, _, rfl, ?_⟩
            rotate_left
            · exact ((ls2.draw row5 b3).same s6).tb
            have ls5 := ((ls2.draw row5 b3).same s6).extN x tb
            refine ⟨e0, t, [r], ops, st :: runs st ops, d, o, _, rfl, ls5.ed, ls5.N, sqT_extN x (same_sqT s6 h9), hcur, h10, by omega, fun H27 b4 hed2 => ?_⟩
            have f27 : F2 r e0 H25 H27 := (F2.extN x).trans (F2.butE b4)
            have w25 := ((ls2.draw row5 b3).same s6).two
            have e37 := f27.lst w25 e3
            have hs27 := f27.steps w25 h14
            have row27 := ls5.rowE b4
            have tb27 := ls5.tbE b4
            refine ⟨_, rfl, _, _, rfl, (.inl ⟨rfl, rfl⟩), fun H28 s7 => ?_⟩
            refine ⟨_, rfl, ?_⟩
            refine iF (nF rfl) ?_
            refine ⟨_, rfl, _, _, _, _, rfl, (.base (.int _)), rfl, _, rfl, ?_⟩
            refine iT (nT rfl) ?_
            refine ⟨_, rfl, _, rfl, (.inl ⟨_, _, rfl, rfl, _, rfl, (.inl ⟨_, _, rfl, (SqL.of (s7 _ _ (b4 _ _ (ne_of (Pk.ExtN.at_ x (s6 _ _ (b3 _ _ hRr hR))) (Pk.ExtN.at_ x (s6 _ _ (b3 _ _ (ins_ne (row3.same (Same.refl _)) hee) hee))) (by intro z; cases z)) (Pk.ExtN.at_ x (s6 _ _ (b3 _ _ hRr hR)))))), fun p4 n8 => ?_⟩)⟩)⟩
            have ne_p4 := row_ne (RowAt.same row27 s7) n8
            generalize hE : upd H28 p4 _ = H12
            have s8 : Same H28 H12 := hE ▸ same_upd n8
            have e_p4 := (congrFun hE p4).symm.trans upd_same
            clear hE
            refine ⟨_, rfl, (by (show 1 ≤ _; decide)), fun p5 n9 => ?_⟩
            have ne_p5 := row_ne (RowAt.same row27 (s7.trans s8)) n9
            generalize hE : upd H12 p5 _ = H13
            have s9 : Same H12 H13 := hE ▸ same_upd n9
            have e_p5 := (congrFun hE p5).symm.trans upd_same
            clear hE
            have e_q4 : H12 p4 = some (.lst ((ra.take (d + 1)).map V.ref)) := by rw [e_p4]; exact congrArg (fun z => some (HO.lst z)) (cut_refs ra (d + 1))
            clear e_p4
            have zr : ((ra.take (d + 1)).map V.ref).length + [V.ref l2].length ≤ sizeLine := by
              rw [List.length_map, List.length_take]
              exact small_ok (by show _ + 1 ≤ _; omega)
            refine (.inr (.inr (.inl ⟨_, _, _, _, rfl, rfl, (s9 _ _ e_q4), e_p5, (by omega), fun p6 n10 => ?_⟩)))
            have ne_p6 := row_ne (RowAt.same row27 ((s7.trans s8).trans s9)) n10
            generalize hE : upd H13 p6 _ = H14
            have s10 : Same H13 H14 := hE ▸ same_upd n10
            have e_p6 := (congrFun hE p6).symm.trans upd_same
            clear hE
            refine ⟨_, rfl, _, rfl, _, rfl, (.inl ⟨_, _, rfl, (SqL.of (s10 _ _ (s9 _ _ (s8 _ _ (s7 _ _ (b4 _ _ (ne_of (Pk.ExtN.at_ x (s6 _ _ (b3 _ _ hDr hD))) (Pk.ExtN.at_ x (s6 _ _ (b3 _ _ (ins_ne (row3.same (Same.refl _)) hee) hee))) (by intro z; cases z)) (Pk.ExtN.at_ x (s6 _ _ (b3 _ _ hDr hD))))))))), fun p7 n11 => ?_⟩)⟩
            have ne_p7 := row_ne (RowAt.same row27 (((s7.trans s8).trans s9).trans s10)) n11
            generalize hE : upd H14 p7 _ = H15
            have s11 : Same H14 H15 := hE ▸ same_upd n11
            have e_p7 := (congrFun hE p7).symm.trans upd_same
            clear hE
            refine ⟨_, rfl, (by (show 1 ≤ _; decide)), fun p8 n12 => ?_⟩
            have ne_p8 := row_ne (RowAt.same row27 ((((s7.trans s8).trans s9).trans s10).trans s11)) n12
            generalize hE : upd H15 p8 _ = H16
            have s12 : Same H15 H16 := hE ▸ same_upd n12
            have e_p8 := (congrFun hE p8).symm.trans upd_same
            clear hE
            have e_q7 : H15 p7 = some (.lst ((da.take d).map V.ref)) := by rw [e_p7]; exact congrArg (fun z => some (HO.lst z)) (cut_refs da d)
            clear e_p7
            have zd : ((da.take d).map V.ref).length + [V.ref t].length ≤ sizeLine := by
              rw [List.length_map, List.length_take]
              exact small_ok (by show _ + 1 ≤ _; omega)
            refine (.inr (.inr (.inl ⟨_, _, _, _, rfl, rfl, (s12 _ _ e_q7), e_p8, (by omega), fun p9 n13 => ?_⟩)))
            have ne_p9 := row_ne (RowAt.same row27 (((((s7.trans s8).trans s9).trans s10).trans s11).trans s12)) n13
            generalize hE : upd H16 p9 _ = H17
            have s13 : Same H16 H17 := hE ▸ same_upd n13
            have e_p9 := (congrFun hE p9).symm.trans upd_same
            clear hE
            refine ⟨_, _, rfl, _, rfl, (.inl ⟨_, _, rfl, rfl, ?_⟩)⟩
            generalize hσ : List.set _ _ _ = σ1
            simp only [L2.start, List.set_cons_zero, List.set_cons_succ, List.map_cons, List.map_nil, List.length_cons, List.length_nil, List.replicate_succ, List.replicate_zero, List.cons_append, List.nil_append, Nat.reduceAdd, Nat.reduceSub] at hσ
            subst hσ
            have sZ : Same H27 H17 := by
              exact ((((((s7.trans s8).trans s9).trans s10).trans s11).trans s12).trans s13)
            have f237 : F2 r e0 H23 H27 := (F2.butR b3).trans ((F2.same s6).trans f27)
            have ht27 : SqT K H27 t (opV o) := ((F2.same s6).trans f27).tup (ls2.draw row5 b3).two h9
            have hA := ((f237.sta ls2.two hra).take (d + 1)).snoc e37 hs27
            rw [sts_next] at hA
            have hB := ((f237.ops ls2.two hda).take d).snoc ht27
            have e6 : H17 p6 = some (HO.lst (List.map V.ref (List.take (d + 1) ra) ++ [V.ref l2])) := by
              exact (s13 _ _ (s12 _ _ (s11 _ _ e_p6)))
            have hfin : (ops.take d ++ [o]).length ≤ i + 1 := by
              rw [List.length_append, List.length_take]
              show _ + 1 ≤ _
              omega
            exact ⟨p6, p9, ops.take d ++ [o], d + 1, _, _, _, _, _, _, _, rfl, ls5.exec b4 hed2 h10 h12 h13 h11 sZ ⟨ra.take (d + 1) ++ [l2], by rw [e6, List.map_append]; rfl, hA.same sZ⟩ ⟨da.take d ++ [t], by rw [e_p9, List.map_append]; rfl, hB.same sZ⟩, hfin⟩
      · rintro σ HX ⟨R, D, ops, d, v7, v8, v9, v10, v11, v13, v14, rfl, ls, few⟩
        have hcur := sts_at st ops d ls.dle
        have hed := ls.ed
        obtain ⟨dxe, lge, hee, hloge⟩ := hed.obj
        obtain ⟨gcur, lcur, zcur⟩ := ls.bd d ls.dle
        have hdle := ls.dle
        obtain ⟨ra, hR, hra⟩ := ls.rows
        obtain ⟨x0, xs0, hx0, hX, hsx⟩ := hra.at_ d _ hcur
        have hat0 : atI (ra.map V.ref) (d : Int) = some (.ref x0) := atI_nat (by rw [List.getElem?_map, hx0]; rfl)
        obtain ⟨da, hD, hda⟩ := ls.done
        refine ⟨_, rfl, _, _, _, rfl, hee, _, _, _, _, _, _, rfl, hed, hcur, fun x t => ?_⟩
        obtain ⟨dx_x, ts_x, sp_x, as_x, ss_x, hx_x, hts_x, hst_x, hsp_x, hss_x⟩ := t.obj
        have hty_x := typed_small t
        have hnk_x := text_nk t
        have hg_x := t.good
        refine ⟨_, _, _, rfl, hx_x, _, _, rfl, t, fun ts as1 h9 h10 => ?_⟩
        refine ⟨_, rfl, _, rfl, (.inl ⟨_, _, _, _, rfl, rfl, (SqL.of hR), hat0, _, _, rfl, (.inl ⟨(SqL.of hX), fun l2 n6 => ?_⟩)⟩)⟩
        generalize hE : upd HX l2 _ = H12
        have s6 : Same HX H12 := hE ▸ same_upd n6
        have e_l2 := (congrFun hE l2).symm.trans upd_same
        clear hE
        refine .inl (.inr (.inr (.inl ⟨_, _, steps_dp (same_sqT s6 h9) (h10.same s6), steps_dp (SqT.of e_l2) (hsx.same s6), sts_shaped gcur, sts_shaped gcur, ?_⟩)))
        rw [stsD_eqv, decide_eq_true rfl]
        refine ⟨_, rfl, ?_⟩
        refine iF (nF rfl) ?_
        refine ⟨_, rfl, _, _, _, rfl, (s6 _ _ hee), _, _, _, _, _, rfl, (hed.same s6), fun l3 as2 H24 n7 s7 e2 h11 => ?_⟩
        refine ⟨_, rfl, _, rfl, _, rfl, (.inl ⟨_, _, rfl, (SqL.of (s7 _ _ (s6 _ _ hD))), fun p3 n8 => ?_⟩)⟩
        generalize hE : upd H24 p3 _ = H13
        have s8 : Same H24 H13 := hE ▸ same_upd n8
        have e_p3 := (congrFun hE p3).symm.trans upd_same
        clear hE
        refine ⟨_, _, rfl, ?_, fun H25 s9 => ?_⟩
        rotate_left 1
        refine ⟨_, rfl, ?_⟩
        refine iF (nF rfl) ?_
        refine ⟨_, _, _, _, _, _, _, _, _, _, _, _, rfl, (ls.same (((s6.trans s7).trans s8).trans s9)), ?_⟩
        exact (by omega)
        have e_q3 : H13 p3 = some (.lst ((da.take d).map V.ref)) := by rw [e_p3]; exact congrArg (fun z => some (HO.lst z)) (cut_refs da d)
        exact like_ops (s8 _ _ e2) e_q3 (h11.same s8) ((hda.take d).same (s6.trans (s7.trans s8))) (by rw [List.length_take]; omega)
    · rintro σ HB ⟨R, D, ops, d, v6, v7, v8, v9, v10, v11, v13, v14, rfl, ls, few⟩
      have hrow := ls.row
      have hdle := ls.dle
      refine ⟨_, rfl, _, rfl, (by omega), (by omega), fun D1 n6 => ?_⟩
      have ne_D1 := row_ne hrow n6
      refine lc_all (walk_range (lo := 0) (n := ((d : Nat) : Int).toNat)) (fun j HC => BkAt K (scr, ns) Z r e0 D1 ops (st :: runs st ops) HB (d - j) j HC) ⟨F2.same (same_upd n6), hrow.same (same_upd n6), ls.tb.same (same_upd n6), (ls.ed.more n6).same (same_upd n6), upd_same⟩ (fun _ _ _ _ => trivial) ?_ ?_
      · rintro j v2 HC HD hj bk ⟨rfl, rfl⟩
        have hed := bk.ed
        have eC := bk.lst
        obtain ⟨dxe, lge, hee, hloge⟩ := hed.obj
        have hj2 : (List.replicate j (V.bl true)).length < sizeLine := by
          rw [List.length_replicate]
          exact small_lt (by omega)
        refine ⟨rfl, _, rfl, _, _, _, rfl, hee, rfl, _, _, _, _, _, rfl, hed, fun b2 H23 h7 b3 h8 => ?_⟩
        refine ⟨_, (b3 _ _ (ne_of eC hee (by intro z; cases z)) eC), (by omega), ?_⟩
        generalize hE : upd H23 D1 _ = H12
        have b4 : But D1 H23 H12 := hE ▸ but_upd
        have e_D1 := (congrFun hE D1).symm.trans upd_same
        clear hE
        obtain rfl : b2 = true := h7.mpr (by omega)
        exact bk.next hrow n6 b3 h8 (by assumption) (by assumption)
      · rintro HC bk
        have lsC := ls.f2 bk.f2 bk.row bk.tb (bk.ed.sub (by simp)) (by omega)
        rw [Int.toNat_natCast, Nat.sub_self] at lsC
        have eC := bk.lst
        have hed := lsC.ed
        obtain ⟨dxe, lge, hee, hloge⟩ := hed.obj
        obtain ⟨asl, hl0, hstl⟩ := lsC.st0
        refine ⟨_, rfl, _, _, _, rfl, hee, _, _, _, _, _, _, rfl, hed, rfl, fun x t => ?_⟩
        obtain ⟨dx_x, ts_x, sp_x, as_x, ss_x, hx_x, hts_x, hst_x, hsp_x, hss_x⟩ := t.obj
        have hty_x := typed_small t
        have hnk_x := text_nk t
        have hg_x := t.good
        refine ⟨_, _, _, rfl, hx_x, _, _, rfl, t, fun ts as1 h7 h8 => ?_⟩
        refine ⟨_, rfl, _, _, rfl, (.inl ⟨(SqL.of hl0), fun l2 n7 => ?_⟩)⟩
        generalize hE : upd HC l2 _ = H12
        have s6 : Same HC H12 := hE ▸ same_upd n7
        have e_l2 := (congrFun hE l2).symm.trans upd_same
        clear hE
        refine .inl (.inr (.inr (.inl ⟨_, _, steps_dp (same_sqT s6 h7) (h8.same s6), steps_dp (SqT.of e_l2) (hstl.same s6), sts_shaped h2, sts_shaped h2, ?_⟩)))
        rw [stsD_eqv, decide_eq_true rfl]
        refine ⟨_, rfl, ?_⟩
        refine iF (nF rfl) ?_
        refine ⟨_, rfl, ?_⟩
        refine .inl ⟨D1, _, rfl, .inl (SqL.of (s6 _ _ eC)), rfl, flat_rep _, ?_⟩
        rw [inV_rep]
        refine ⟨_, rfl, ?_⟩
        refine iF rfl ?_
        refine ⟨_, rfl, _, _, _, rfl, (s6 _ _ hee), rfl, _, _, _, _, _, rfl, (hed.same s6), fun b2 H23 h9 b3 h10 => ?_⟩
        refine ⟨_, rfl, ?_⟩
        obtain rfl : b2 = false := by
          cases b2 with
          | false => rfl
          | true => exact absurd (h9.mp rfl) (Nat.lt_irrefl _)
        refine iF rfl ?_
        have ls2 := (lsC.same s6).move b3 h10 (by omega)
        have hrow2 := ls2.row
        refine ⟨_, rfl, _, rfl, (by omega), (by omega), fun D2 n8 => ?_⟩
        have ne_D2 := row_ne hrow2 n8
        refine lc_all (walk_range (lo := 0) (n := ((d : Nat) : Int).toNat)) (fun j HE => BkAt K (scr, ns) Z r e0 D2 ops (st :: runs st ops) H23 j j HE) ⟨F2.same (same_upd n8), hrow2.same (same_upd n8), ls2.tb.same (same_upd n8), (ls2.ed.more n8).same (same_upd n8), upd_same⟩ (fun _ _ _ _ => trivial) ?_ ?_
        · rintro j v2 HE HF hj bk2 ⟨rfl, rfl⟩
          have hed2 := bk2.ed
          have eE := bk2.lst
          have hjd : j < d := by omega
          have hj3 : j ≤ ops.length := by omega
          obtain ⟨dxe2, lge2, hee2, hloge2⟩ := hed2.obj
          have hj2 : (List.replicate j (V.bl true)).length < sizeLine := by
            rw [List.length_replicate]
            exact small_lt (by omega)
          refine ⟨rfl, _, rfl, _, _, _, rfl, hee2, rfl, _, _, _, _, _, rfl, hed2, (by omega), fun b2 H24 h11 b4 h12 => ?_⟩
          refine ⟨_, (b4 _ _ (ne_of eE hee2 (by intro z; cases z)) eE), (by omega), ?_⟩
          generalize hE : upd H24 D2 _ = H13
          have b5 : But D2 H24 H13 := hE ▸ but_upd
          have e_D2 := (congrFun hE D2).symm.trans upd_same
          clear hE
          obtain rfl : b2 = true := h11.mpr (by omega)
          rw [Nat.min_eq_left (by omega)] at h12
          exact bk2.next hrow2 n8 b4 h12 b5 e_D2
        · rintro HE bk2
          have lsE := ls2.f2 bk2.f2 bk2.row bk2.tb (bk2.ed.sub (by simp)) (by omega)
          rw [Int.toNat_natCast] at lsE
          have eE := bk2.lst
          have hed2 := lsE.ed
          have hcur := sts_at st ops d hdle
          obtain ⟨dxe2, lge2, hee2, hloge2⟩ := hed2.obj
          obtain ⟨gcur, lcur, zcur⟩ := lsE.bd d hdle
          obtain ⟨ra, hR, hra⟩ := lsE.rows
          obtain ⟨x0, xs0, hx0, hX, hsx⟩ := hra.at_ d _ hcur
          have hat0 : atI (ra.map V.ref) (d : Int) = some (.ref x0) := atI_nat (by rw [List.getElem?_map, hx0]; rfl)
          obtain ⟨da, hD, hda⟩ := lsE.done
          obtain ⟨asl2, hl2, hstl2⟩ := lsE.st0
          refine ⟨_, rfl, _, _, _, rfl, hee2, _, _, _, _, _, _, rfl, hed2, hcur, fun x1 t1 => ?_⟩
          obtain ⟨dx_x1, ts_x1, sp_x1, as_x1, ss_x1, hx_x1, hts_x1, hst_x1, hsp_x1, hss_x1⟩ := t1.obj
          have hty_x1 := typed_small t1
          have hnk_x1 := text_nk t1
          have hg_x1 := t1.good
          generalize hσ : List.set _ _ _ = σ1
          simp only [L2.start, List.set_cons_zero, List.set_cons_succ, List.map_cons, List.map_nil, List.length_cons, List.length_nil, List.replicate_succ, List.replicate_zero, List.cons_append, List.nil_append, Nat.reduceAdd, Nat.reduceSub] at hσ
          subst hσ
          refine ⟨_, _, _, rfl, hx_x1, _, _, rfl, t1, fun ts1 as2 h11 h12 => ?_⟩
          refine ⟨_, rfl, _, rfl, (.inl ⟨_, _, _, _, rfl, rfl, (SqL.of hR), hat0, _, _, rfl, (.inl ⟨(SqL.of hX), fun l3 n9 => ?_⟩)⟩)⟩
          generalize hE : upd HE l3 _ = H13
          have s7 : Same HE H13 := hE ▸ same_upd n9
          have e_l3 := (congrFun hE l3).symm.trans upd_same
          clear hE
          refine .inl (.inr (.inr (.inl ⟨_, _, steps_dp (same_sqT s7 h11) (h12.same s7), steps_dp (SqT.of e_l3) (hsx.same s7), sts_shaped gcur, sts_shaped gcur, ?_⟩)))
          rw [stsD_eqv, decide_eq_true rfl]
          refine ⟨_, rfl, ?_⟩
          refine iF (nF rfl) ?_
          refine ⟨_, rfl, ?_⟩
          refine .inl ⟨D2, _, rfl, .inl (SqL.of (s7 _ _ eE)), rfl, flat_rep _, ?_⟩
          rw [inV_rep]
          refine ⟨_, rfl, ?_⟩
          refine iF rfl ?_
          refine ⟨rfl, _, rfl, _, _, rfl, (.inl ⟨(SqL.of (s7 _ _ hl2)), fun l4 n10 => ?_⟩)⟩
          generalize hE : upd H13 l4 _ = H14
          have s8 : Same H13 H14 := hE ▸ same_upd n10
          have e_l4 := (congrFun hE l4).symm.trans upd_same
          clear hE
          refine ⟨_, rfl, _, rfl, _, rfl, (.inl ⟨_, _, rfl, (SqL.of (s8 _ _ (s7 _ _ hD))), fun p3 n11 => ?_⟩)⟩
          generalize hE : upd H14 p3 _ = H15
          have s9 : Same H14 H15 := hE ▸ same_upd n11
          have e_p3 := (congrFun hE p3).symm.trans upd_same
          clear hE
          have e_q9 : H15 p3 = some (.lst ((da.take d).map V.ref)) := by rw [e_p3]; exact congrArg (fun z => some (HO.lst z)) (cut_refs da d)
          clear e_p3
          have sE : Same HE H15 := s7.trans (s8.trans s9)
          refine ⟨l4, p3, [r], asl2, da.take d, st, ops.take d, rfl, fun q hq => ?_, SqT.of (s9 _ _ e_l4), hstl2.same sE, h2, by omega, e_q9, (hda.take d).same sE, okOps_take lsE.ok d, by rw [List.length_take]; omega, fun e1 H6 nE1 s10 hed1 => ?_⟩
          · obtain rfl : q = r := by simpa using hq
            obtain ⟨_, hx⟩ := (lsE.row.same sE).lst
            exact ⟨_, hx⟩
          have hedE := hed2.same (sE.trans s10)
          have hl9 : (ops.take d).length = d := by rw [List.length_take]; omega
          rw [hl9] at hed1
          have hcur1 : ([st] ++ runs st (ops.take d))[d]? = some (fins st (ops.take d)) := by
            have z := sts_at st (ops.take d) d (by omega)
            rwa [List.take_take, Nat.min_self] at z

          obtain ⟨dxe3, lge3, hee3, hloge3⟩ := hed1.obj
          refine ⟨_, rfl, _, _, _, rfl, hee3, _, _, _, _, _, _, rfl, hed1, hcur1, fun x2 t2 => ?_⟩
          obtain ⟨dx_x2, ts_x2, sp_x2, as_x2, ss_x2, hx_x2, hts_x2, hst_x2, hsp_x2, hss_x2⟩ := t2.obj
          have hty_x2 := typed_small t2
          have hnk_x2 := text_nk t2
          have hg_x2 := t2.good
          refine ⟨_, rfl, _, _, _, rfl, (s10 _ _ (sE _ _ hee2)), _, _, _, _, _, _, rfl, hedE, hcur, fun x3 t3 => ?_⟩
          obtain ⟨dx_x3, ts_x3, sp_x3, as_x3, ss_x3, hx_x3, hts_x3, hst_x3, hsp_x3, hss_x3⟩ := t3.obj
          have hty_x3 := typed_small t3
          have hnk_x3 := text_nk t3
          have hg_x3 := t3.good
          refine (.inr ⟨_, _, _, rfl, hx_x2, (.inl ⟨_, ⟨_, ⟨_, ⟨rfl, hx_x3⟩⟩⟩⟩), _, _, _, _, rfl, t2, t3, _, rfl, ?_⟩)
          refine iT (dT rfl) ?_
          refine ⟨_, rfl, _, _, _, rfl, hee3, _, _, _, _, _, rfl, hed1, fun l5 as3 H24 n12 s11 e2 h13 => ?_⟩
          refine ⟨_, rfl, _, _, _, rfl, (s11 _ _ (s10 _ _ (sE _ _ hee2))), _, _, _, _, _, rfl, (hedE.same s11), fun l6 as4 H25 n13 s12 e3 h14 => ?_⟩
          have hflat := ops_flat (okOps_take lsE.ok d)
          rw [List.take_take, Nat.min_self] at h13
          refine .inl (.inr (.inr (.inl (eq_ops (s12 _ _ e2) e3 (h13.same s12) h14 hflat ⟨_, rfl, ?_⟩))))
          refine iT rfl ?_
          refine ⟨_, rfl, _, _, _, rfl, (s12 _ _ (s11 _ _ hee3)), _, _, _, _, _, rfl, (hed1.same (s11.trans s12)), fun H26 s13 => ?_⟩
          refine ⟨_, rfl, (by omega), (by omega), _, rfl, (.inl (.inl ⟨rfl, ?_⟩))⟩
          refine qBl (q _) ?_
          exact (decide_eq_true rfl).symm
end
end KL
namespace KL
open PySem PySem.W PySem.Calls PyProof.Rows L2 He He5 Pk
open PySem.Spec
theorem facts {P : Program} {w : World} {K : PySem.W.Frag} {h : Heap} {mg : PySem.Str → Option Value} {f : Addr} {cs : List (Addr × Addr)} (X : K.In h) (G : h.Ns mainGlobals mg) (hfa : mg ("law" : PySem.Str) = some (.ref f)) (c0 : SaysS fa fn exB ts ls w h K cs) :
    ∃ fd : FuncData, (∀ (s : Shared) (v : Value), BindsTo s fd ⟨[v], []⟩ [("_law_script", v)]) ∧ ∀ base : Heap, K.In base → base.Ns mainGlobals mg → (∀ p ∈ cs, LamX.TabB base mg p.1 p.2) → FnOk P w K mg base CX0 60 f fd ["_law_script"] (spLawT K (zOf cs qs)) := by
  have cR := c0.r
  have c := cR.m
  obtain ⟨e0, e⟩ := ba c.more
  obtain ⟨e1, e⟩ := ba e
  obtain ⟨e2, e⟩ := ba e
  obtain ⟨e3, e⟩ := ba e
  obtain ⟨e4, e⟩ := ba e
  obtain ⟨e5, e⟩ := ba e
  obtain ⟨e6, e⟩ := ba e
  obtain ⟨e7, e⟩ := ba e
  obtain ⟨e8, e⟩ := ba e
  obtain ⟨e9, e⟩ := ba e
  obtain ⟨e10, e⟩ := ba e
  obtain ⟨e11, e⟩ := ba e
  obtain ⟨e12, e⟩ := ba e
  obtain ⟨e13, e⟩ := ba e
  obtain ⟨e14, e⟩ := ba e
  obtain ⟨e15, e⟩ := ba e
  obtain ⟨e16, e⟩ := ba e
  obtain ⟨e17, e⟩ := ba e
  obtain ⟨e18, e⟩ := ba e
  obtain ⟨e19, e⟩ := ba e
  obtain ⟨e20, e⟩ := ba e
  obtain ⟨e21, e⟩ := ba e
  obtain ⟨e22, e⟩ := ba e
  obtain ⟨e23, e⟩ := ba e
  obtain ⟨e24, e⟩ := ba e
  obtain ⟨e25, e⟩ := ba e
  obtain ⟨e26, e⟩ := ba e
  obtain ⟨e27, e⟩ := ba e
  obtain ⟨e28, e⟩ := ba e
  obtain ⟨e29, e⟩ := ba e
  obtain ⟨e30, e⟩ := ba e
  obtain ⟨e31, e⟩ := ba e
  obtain ⟨e32, e⟩ := ba e
  obtain ⟨e33, e⟩ := ba e
  obtain ⟨e34, e⟩ := ba e
  obtain ⟨e35, e⟩ := ba e
  obtain ⟨e36, e⟩ := ba e
  have T : Tc w K mg := {
    isi := free_ok X G (c.says.fact 0 (f := .free "isinstance") rfl)
    int := free_ok X G (c.says.fact 1 (f := .free "int") rfl)
    bool := free_ok X G (c.says.fact 2 (f := .free "bool") rfl)
    str := free_ok X G (c.says.fact 3 (f := .free "str") rfl)
    tup := free_ok X G (c.says.fact 4 (f := .free "tuple") rfl)
    lst := free_ok X G (c.says.fact 5 (f := .free "list") rfl)
    len := free_ok X G (c.says.fact 6 (f := .free "len") rfl)
    all := free_ok X G (c.says.fact 7 (f := .free "all") rfl)
    rng := free_ok X G (c.says.fact 8 (f := .free "range") rfl)
    enu := free_ok X G (c.says.fact 9 (f := .free "enumerate") rfl)
    zip := free_ok X G (c.says.fact 10 (f := .free "zip") rfl)
    min := free_ok X G (c.says.fact 11 (f := .free "min") rfl)
    max := free_ok X G (c.says.fact 12 (f := .free "max") rfl)
    dm := free_ok X G (c.says.fact 13 (f := .free "divmod") rfl)
    ValueError := free_ok X G (c.says.fact 14 (f := .free "ValueError") rfl)
    TypeError := free_ok X G (c.says.fact 15 (f := .free "TypeError") rfl)
    super := free_ok X G (c.says.fact 16 (f := .free "super") rfl)
    NotImplemented := free_ok X G (c.says.fact 17 (f := .free "NotImplemented") rfl)
    letters := str_ok X G (c.says.fact 18 (f := .str "LETTERS" "abcdefghijklmnopqrstuvwxyz") rfl)
    longest := int_ok X G (c.says.fact 19 (f := .int "LONGEST_WORD" 20) rfl)
    mostSteps := int_ok X G (c.says.fact 20 (f := .int "MOST_STEPS" 30) rfl)
    mostTimes := int_ok X G (c.says.fact 21 (f := .int "MOST_TIMES" 1000000000) rfl)
    g_LENGTHS := glo_ok X G (c.says.fact 22 (f := .glo "LENGTHS") rfl)
    k_LENGTHS := ⟨c0.tab 0 _ rfl, fun p hp => by
      simp only [List.mem_cons, List.not_mem_nil, or_false] at hp
      rcases hp with rfl | rfl | rfl
      · exact nsInt_ok e0
      · exact nsInt_ok e1
      · exact nsInt_ok e2⟩
    gIsNumber := glo_ok X G (c.says.fact 23 (f := .glo "is_number") rfl)
    gIsLetter := glo_ok X G (c.says.fact 24 (f := .glo "is_letter") rfl)
    gIsWord := glo_ok X G (c.says.fact 25 (f := .glo "is_word") rfl)
    gCounts := glo_ok X G (c.says.fact 26 (f := .glo "key_counts") rfl)
    gAddW := glo_ok X G (c.says.fact 27 (f := .glo "_add_weight") rfl)
    gLeave := glo_ok X G (c.says.fact 28 (f := .glo "_leave_pasted") rfl)
    gCheckRange := glo_ok X G (c.says.fact 29 (f := .glo "_check_range") rfl)
    gIsStep := glo_ok X G (c.says.fact 30 (f := .glo "is_step") rfl)
    gSpanOf := glo_ok X G (c.says.fact 31 (f := .glo "span_of") rfl)
    gSpansOf := glo_ok X G (c.says.fact 32 (f := .glo "spans_of") rfl)
    gKeyAt := glo_ok X G (c.says.fact 33 (f := .glo "key_at") rfl)
    gMoved := glo_ok X G (c.says.fact 34 (f := .glo "moved_step") rfl)
    g_check_operations := glo_ok X G (c.says.fact 35 (f := .glo "check_operations") rfl)
    g_is_operation := glo_ok X G (c.says.fact 36 (f := .glo "is_operation") rfl)
    g_executed := glo_ok X G (c.says.fact 37 (f := .glo "executed") rfl)
    g_with_place_retyped := glo_ok X G (c.says.fact 38 (f := .glo "_with_place_retyped") rfl)
    g_law_dice := glo_ok X G (c.says.fact 39 (f := .glo "_law_dice") rfl)
    g_law_next := glo_ok X G (c.says.fact 40 (f := .glo "_law_next") rfl)
    g_law_like := glo_ok X G (c.says.fact 41 (f := .glo "_law_like") rfl)
    g_law_pick := glo_ok X G (c.says.fact 42 (f := .glo "_law_pick") rfl)
    g_law_told := glo_ok X G (c.says.fact 43 (f := .glo "_law_told") rfl)
    gWord := glo_ok X G (c.says.fact 44 (f := .glo "_law_word") rfl)
    g_law_drawn := glo_ok X G (c.says.fact 45 (f := .glo "_law_drawn") rfl)
    gSteps := glo_ok X G (c.says.fact 46 (f := .glo "_law_steps") rfl)
    gKeys := glo_ok X G (c.says.fact 47 (f := .glo "_law_keys") rfl)
    g_law_is_step := glo_ok X G (c.says.fact 48 (f := .glo "_law_is_step") rfl)
    g_law_after := glo_ok X G (c.says.fact 49 (f := .glo "_law_after") rfl)
    g_law_deed := glo_ok X G (c.says.fact 50 (f := .glo "_law_deed") rfl)
    g_law_act := glo_ok X G (c.says.fact 51 (f := .glo "_law_act") rfl)
    g_law := glo_ok X G (c.says.fact 52 (f := .glo "law") rfl)
    g_TextError := glo_ok X G (c.says.fact 53 (f := .glo "TextError") rfl)
    g_InvalidStep := glo_ok X G (c.says.fact 54 (f := .glo "InvalidStep") rfl)
    g_TooLong := glo_ok X G (c.says.fact 55 (f := .glo "TooLong") rfl)
    g_InvalidPlace := glo_ok X G (c.says.fact 56 (f := .glo "InvalidPlace") rfl)
    g_InvalidKey := glo_ok X G (c.says.fact 57 (f := .glo "InvalidKey") rfl)
    g_InvalidLetter := glo_ok X G (c.says.fact 58 (f := .glo "InvalidLetter") rfl)
    g_InvalidNumber := glo_ok X G (c.says.fact 59 (f := .glo "InvalidNumber") rfl)
    g_AlreadyOpen := glo_ok X G (c.says.fact 60 (f := .glo "AlreadyOpen") rfl)
    g_InvalidOperation := glo_ok X G (c.says.fact 61 (f := .glo "InvalidOperation") rfl)
    g_Contradiction := glo_ok X G (c.says.fact 62 (f := .glo "Contradiction") rfl)
    g_NotationError := glo_ok X G (c.says.fact 63 (f := .glo "NotationError") rfl)
    g_InvalidCount := glo_ok X G (c.says.fact 64 (f := .glo "InvalidCount") rfl)
    g_DecodeError := glo_ok X G (c.says.fact 65 (f := .glo "DecodeError") rfl)
    gSpan := glo_ok X G (c.says.fact 66 (f := .glo "Span") rfl)
    clS := cls_ok (c.says.fact 67 (f := .cls "Span") rfl)
    mkS := mkr_ok (c.says.fact 68 (f := .mkr "Span") rfl)
    nS1 := noat_ok (c.says.fact 69 (f := .noat "Span" "begin") rfl)
    nS2 := noat_ok (c.says.fact 70 (f := .noat "Span" "end") rfl)
    nS3 := noat_ok (c.says.fact 71 (f := .noat "Span" "key") rfl)
    nS4 := noat_ok (c.says.fact 72 (f := .noat "Span" "source") rfl)
    nS5 := noat_ok (c.says.fact 73 (f := .noat "Span" "width") rfl)
    gText := glo_ok X G (c.says.fact 74 (f := .glo "Text") rfl)
    clT := cls_ok (c.says.fact 75 (f := .cls "Text") rfl)
    mkT := mkr_ok (c.says.fact 76 (f := .mkr "Text") rfl)
    nT1 := noat_ok (c.says.fact 77 (f := .noat "Text" "_steps") rfl)
    nT2 := noat_ok (c.says.fact 78 (f := .noat "Text" "spans") rfl)
    nT3 := noat_ok (c.says.fact 79 (f := .noat "Text" "_size") rfl)
    nT4 := noat_ok (c.says.fact 80 (f := .noat "Text" "_typed") rfl)
    cmOf := cmet_ok e3
    pSteps := prop_ok e4
    pTyped := prop_ok e5
    pSize := prop_ok e6
    callO := ⟨(op_ok e7).at_, (op_ok e7).fn, (op_ok e7).fi⟩
    oGet := op_ok e8
    mCheck := meth_ok (c.says.fact 81 (f := .meth "Text" "_check_place") rfl)
    o_Text_iter := op_ok e9
    oHas := op_ok e10
    oEq := op_ok e11
    oAdd := op_ok e12
    oMul := op_ok e13
    mRet := meth_ok (c.says.fact 82 (f := .meth "Text" "retyped") rfl)
    mWith := meth_ok (c.says.fact 83 (f := .meth "Text" "with_letters") rfl)
    maxSize := cval_ok e14
    rd := cread_ok e15
    g_Log := glo_ok X G (c.says.fact 84 (f := .glo "Log") rfl)
    clLog := cls_ok (c.says.fact 85 (f := .cls "Log") rfl)
    mkLog := mkr_ok (c.says.fact 86 (f := .mkr "Log") rfl)
    n_Log_texts := noat_ok (c.says.fact 87 (f := .noat "Log" "texts") rfl)
    n_Log_operations := noat_ok (c.says.fact 88 (f := .noat "Log" "operations") rfl)
    n_Log_done := noat_ok (c.says.fact 89 (f := .noat "Log" "done") rfl)
    m_Log_moved := meth_ok (c.says.fact 90 (f := .meth "Log" "moved") rfl)
    m_Log_after := meth_ok (c.says.fact 91 (f := .meth "Log" "after") rfl)
    g_Editor := glo_ok X G (c.says.fact 92 (f := .glo "Editor") rfl)
    clEditor := cls_ok (c.says.fact 93 (f := .cls "Editor") rfl)
    mkEditor := mkr_ok (c.says.fact 94 (f := .mkr "Editor") rfl)
    n_Editor_log := noat_ok (c.says.fact 95 (f := .noat "Editor" "_log") rfl)
    n_Editor_kept := noat_ok (c.says.fact 96 (f := .noat "Editor" "_kept") rfl)
    cm_Editor_replay := cmet_ok e16
    p_Editor_present_text := prop_ok e17
    p_Editor_history := prop_ok e18
    o_Editor_len := op_ok e19
    m_Editor_write := meth_ok (c.says.fact 97 (f := .meth "Editor" "write") rfl)
    m_Editor_paste := meth_ok (c.says.fact 98 (f := .meth "Editor" "paste") rfl)
    m_Editor_retype := meth_ok (c.says.fact 99 (f := .meth "Editor" "retype") rfl)
    m_Editor_execute := meth_ok (c.says.fact 100 (f := .meth "Editor" "_execute") rfl)
    m_Editor_undo := meth_ok (c.says.fact 101 (f := .meth "Editor" "undo") rfl)
    m_Editor_redo := meth_ok (c.says.fact 102 (f := .meth "Editor" "redo") rfl)
    m_Editor_apply := meth_ok (c.says.fact 103 (f := .meth "Editor" "apply") rfl)
    bm_Editor_apply := bm_ok (meth_ok (c.says.fact 103 (f := .meth "Editor" "apply") rfl)) e20
    o_Editor_enter := op_ok e21
    o_Editor_exit := op_ok e22
    rd_Editor := cread_ok e23
    ne_Span_Text := of_decide_eq_true e24
    ne_Span_Log := of_decide_eq_true e25
    ne_Span_Editor := of_decide_eq_true e26
    ne_Text_Log := of_decide_eq_true e27
    ne_Text_Editor := of_decide_eq_true e28
    ne_Log_Editor := of_decide_eq_true e29
    tMul := opT_ok e30
    first := e31
    insT := ins_ok (cls_ok (c.says.fact 75 (f := .cls "Text") rfl)) e32
    csct := of_decide_eq_true e33
    subT := of_decide_eq_true e34
    neT := eqO_ok e35
    tupT := of_decide_eq_true e36 }
  obtain ⟨fd, F⟩ := c.says.def_ 28 (d := gD "law" (top 60)) rfl
  have e0 := hfa.symm.trans T.g_law
  cases e0
  have b := FunD.bindsA (ps := ["_law_script"]) F fun _ _ _ _ _ _ us hl => match us, hl with | [_], _ => rfl
  refine ⟨fd, fun s v => b s [v] rfl, fun base _ _ htb => ?_⟩
  obtain ⟨pc0, hc0, hk0⟩ := cR.at_ 0 _ rfl
  have h_ok_law_dice : Kp P w K mg base 1 (ga K "_law_dice") (spDice K) := ok_law_dice (c.says.def_ 15 (d := gD "_law_dice" (top 47)) rfl) T
  have h_ok_law_next : Kp P w K mg base 1 (ga K "_law_next") (spTaken K) := ok_law_next (c.says.def_ 16 (d := gD "_law_next" (top 48)) rfl) T
  have h_ok_law_pick : Kp P w K mg base 2 (ga K "_law_pick") (spPick K) := ok_law_pick (c.says.def_ 18 (d := gD "_law_pick" (top 50)) rfl) T h_ok_law_next
  have h_ok_law_word : Kp P w K mg base 3 (ga K "_law_word") (spWordD K) := ok_law_word (c.says.def_ 20 (d := gD "_law_word" (top 52)) rfl) T h_ok_law_next h_ok_law_pick
  have h_ok_law_drawn : Kp P w K mg base 4 (ga K "_law_drawn") (spDrawn K) := ok_law_drawn (c.says.def_ 21 (d := gD "_law_drawn" (top 53)) rfl) T h_ok_law_next h_ok_law_word
  have h_ok_law_steps : Kp P w K mg base 5 (ga K "_law_steps") (spStepsD K) := ok_law_steps (c.says.def_ 22 (d := gD "_law_steps" (top 54)) rfl) T h_ok_law_next h_ok_law_drawn
  have h_ok_law_keys : Kp P w K mg base 1 (ga K "_law_keys") (spKeysD K) := ok_law_keys (c.says.def_ 23 (d := gD "_law_keys" (top 55)) rfl) T
  have h_ok_law_deed : Kp P w K mg base 6 (ga K "_law_deed") (spDeed0 K) := ok_law_deed (c.says.def_ 26 (d := gD "_law_deed" (top 58)) rfl) T h_ok_law_keys h_ok_law_next h_ok_law_pick h_ok_law_drawn
  have h_ok_law_is_step : Kp P w K mg base 1 (ga K "_law_is_step") (spIsStepD K) := ok_law_is_step (c.says.def_ 24 (d := gD "_law_is_step" (top 56)) rfl) T
  have h_ok_law_after : Kp P w K mg base 3 (ga K "_law_after") (spAfterD K) := ok_law_after (c.says.def_ 25 (d := gD "_law_after" (top 57)) rfl) T h_ok_law_keys h_ok_law_is_step
  have h_ok_told0 : LamG w K mg "_law_told" "_law_work" (ga K "_law_told") TTn := ok_told0 (c.says.def_ 19 (d := gD "_law_told" (top 51)) rfl)
  have h_ok_like3 : Kp P w K mg base 5 (ga K "_law_like") (spLike K 3) := ok_like3 (c.says.def_ 17 (d := gD "_law_like" (top 49)) rfl) T
  have h_ok_is_operation : Kp P w K mg base 2 (ga K "is_operation") (spIsOp K) := ok_is_operation (c.says.def_ 12 (d := gD "is_operation" (top 41)) rfl) T
  have h_ok_check_operations : Kp P w K mg base 4 (ga K "check_operations") (spCheckOps K) := ok_check_operations (c.says.def_ 11 (d := gD "check_operations" (top 40)) rfl) T h_ok_is_operation
  have h_ok_is_number : Kp P w K mg base 1 (ga K "is_number") spIsNumber := ok_is_number (c.says.def_ 0 (d := gD "is_number" (top 18)) rfl) T
  have h_ok_check : Kp P w K mg base 2 (ma K (CT K) "_check_place") (spCheck K) := ok_check (c.says.def_ 36 (d := mD "Text" "_check_place" "Text._check_place" (inClass (top 36) 9)) rfl) T h_ok_is_number
  have h_ok_key_at : Kp P w K mg base 1 (ga K "key_at") (spKeyAt K) := ok_key_at (c.says.def_ 10 (d := gD "key_at" (top 33)) rfl) T
  have h_ok_call : Kp P w K mg base 3 (ma K (CT K) "__call__") (spCall K) := ok_call (c.says.def_ 35 (d := mD "Text" "__call__" "Text.__call__" (inClass (top 36) 7)) rfl) T h_ok_check h_ok_key_at
  have h_ok_is_letter : Kp P w K mg base 1 (ga K "is_letter") spIsLetter := ok_is_letter (c.says.def_ 1 (d := gD "is_letter" (top 19)) rfl) T
  have h_ok_is_word : Kp P w K mg base 1 (ga K "is_word") spIsWord := ok_is_word (c.says.def_ 2 (d := gD "is_word" (top 20)) rfl) T
  have h_ok_is_step : Kp P w K mg base 2 (ga K "is_step") (spIsStep K) := ok_is_step (c.says.def_ 7 (d := gD "is_step" (top 30)) rfl) T h_ok_is_word h_ok_is_number
  have h_ok_span_init : Kp P w K mg base 1 (ma K (CS K) "__init__") (spSpanInit (CS K)) := ok_span_init (c.says.def_ 29 (d := mD "Span" "__init__" "Span.__init__" (inClass (top 29) 0)) rfl) T
  have h_ok_span_of : Kp P w K mg base 3 (ga K "span_of") (spSpanOf K) := ok_span_of (c.says.def_ 8 (d := gD "span_of" (top 31)) rfl) T h_ok_span_init
  have h_ok_spans_of : Kp P w K mg base 4 (ga K "spans_of") (spSpansOf K) := ok_spans_of (c.says.def_ 9 (d := gD "spans_of" (top 32)) rfl) T h_ok_is_step h_ok_span_of
  have h_ok_init : FnR P w K mg base CX0 5 (ma K (CT K) "__init__") (spInit5 K) := ok_init (c.says.def_ 30 (d := mD "Text" "__init__" "Text.__init__" (inClass (top 36) 1)) rfl) T h_ok_spans_of
  have h_ok_with : Kp P w K mg base 7 (ma K (CT K) "with_letters") (spWith K) := ok_with (c.says.def_ 39 (d := mD "Text" "with_letters" "Text.with_letters" (inClass (top 36) 16)) rfl) T h_ok_init
  have h_ok_ret : Kp P w K mg base 8 (ma K (CT K) "retyped") (spRet K) := ok_ret (c.says.def_ 38 (d := mD "Text" "retyped" "Text.retyped" (inClass (top 36) 15)) rfl) T h_ok_is_number h_ok_is_letter h_ok_with
  have h_ok_typed : Kp P w K mg base 1 (pgA K (CT K) "typed_keys") (spTyped K) := ok_typed (c.says.def_ 33 (d := pD "Text" "typed_keys" "Text.typed_keys" (inClass (top 36) 5)) rfl) T
  have h_ok_size : Kp P w K mg base 1 (pgA K (CT K) "size") (spSize K) := ok_size (c.says.def_ 34 (d := pD "Text" "size" "Text.size" (inClass (top 36) 6)) rfl) T
  have h_ok_checkrange : Kp P w K mg base 3 (ga K "_check_range") (spCheckRange K) := ok_checkrange (c.says.def_ 6 (d := gD "_check_range" (top 25)) rfl) T h_ok_is_number h_ok_size
  have h_ok_addw : Kp P w K mg base 1 (ga K "_add_weight") spAddW := ok_addw (c.says.def_ 4 (d := gD "_add_weight" (top 23)) rfl)
  have h_ok_leave : Kp P w K mg base 2 (ga K "_leave_pasted") (spLeave K) := ok_leave (c.says.def_ 5 (d := gD "_leave_pasted" (top 24)) rfl) T h_ok_addw
  have h_ok_counts : Kp P w K mg base 4 (ga K "key_counts") (spCounts K) := ok_counts (c.says.def_ 3 (d := gD "key_counts" (top 22)) rfl) T h_ok_checkrange h_ok_typed h_ok_addw h_ok_leave
  have h_ok_with_place_retyped : Kp P w K mg base 12 (ga K "_with_place_retyped") (spWPR K) := ok_with_place_retyped (c.says.def_ 14 (d := gD "_with_place_retyped" (top 43)) rfl) T h_ok_call h_ok_ret h_ok_typed h_ok_size h_ok_counts
  have h_ok_of : Kp P w K mg base 7 (wf K (CT K) "classmethod" "of_steps") (spOf K) := ok_of (c.says.def_ 31 (d := cD "Text" "of_steps" "Text.of_steps" (inClass (top 36) 3)) rfl) T h_ok_init
  have h_ok_stepsp : Kp P w K mg base 1 (pgA K (CT K) "steps") (spStepsP K) := ok_stepsp (c.says.def_ 32 (d := pD "Text" "steps" "Text.steps" (inClass (top 36) 4)) rfl) T
  have h_ok_executed : Kp P w K mg base 14 (ga K "executed") (spExec K) := ok_executed (c.says.def_ 13 (d := gD "executed" (top 42)) rfl) T h_ok_with_place_retyped h_ok_of h_ok_stepsp h_ok_size
  have h_ok_Log_init : Kp P w K mg base 2 (ma K (ga K "Log") "__init__") (spLogInit K) := ok_Log_init (c.says.def_ 40 (d := mD "Log" "__init__" "Log.__init__" (inClass (top 39) 0)) rfl) T
  have h_ok_Log_after : Kp P w K mg base 18 (ma K (ga K "Log") "after") (spAfter K) := ok_Log_after (c.says.def_ 42 (d := mD "Log" "after" "Log.after" (inClass (top 39) 2)) rfl) T h_ok_check_operations h_ok_executed h_ok_Log_init
  have h_ok_Editor_apply : FnR P w K mg base CX0 20 (ma K (ga K "Editor") "apply") (spStar (spApply K)) := ok_Editor_apply (c.says.def_ 54 (d := mD "Editor" "apply" "Editor.apply" (inClass (top 45) 11)) rfl) T h_ok_Log_after
  have h_ok_Editor_execute : Kp P w K mg base 22 (ma K (ga K "Editor") "_execute") (spExe K) := ok_Editor_execute (c.says.def_ 51 (d := mD "Editor" "_execute" "Editor._execute" (inClass (top 45) 8)) rfl) T h_ok_Editor_apply
  have h_ok_Editor_write : Kp P w K mg base 24 (ma K (ga K "Editor") "write") (spWrite K) := ok_Editor_write (c.says.def_ 48 (d := mD "Editor" "write" "Editor.write" (inClass (top 45) 5)) rfl) T h_ok_Editor_execute
  have h_ok_Editor_paste : Kp P w K mg base 24 (ma K (ga K "Editor") "paste") (spPaste K) := ok_Editor_paste (c.says.def_ 49 (d := mD "Editor" "paste" "Editor.paste" (inClass (top 45) 6)) rfl) T h_ok_Editor_execute
  have h_ok_Editor_retype : Kp P w K mg base 24 (ma K (ga K "Editor") "retype") (spRetype K) := ok_Editor_retype (c.says.def_ 50 (d := mD "Editor" "retype" "Editor.retype" (inClass (top 45) 7)) rfl) T h_ok_Editor_execute
  have h_ok_law_act : Kp P w K mg base 26 (ga K "_law_act") (spExe K) := ok_law_act (c.says.def_ 27 (d := gD "_law_act" (top 59)) rfl) T h_ok_Editor_write h_ok_Editor_paste h_ok_Editor_retype
  have h_ok_Editor_init : FnR P w K mg base CX0 10 (ma K (ga K "Editor") "__init__") (spStar (spEdInit K)) := ok_Editor_init (c.says.def_ 43 (d := mD "Editor" "__init__" "Editor.__init__" (inClass (top 45) 0)) rfl) T h_ok_init h_ok_Log_init
  have h_ok_Editor_replay : Kp P w K mg base 24 (wf K (ga K "Editor") "classmethod" "replay") (spReplay K) := ok_Editor_replay (c.says.def_ 44 (d := cD "Editor" "replay" "Editor.replay" (inClass (top 45) 1)) rfl) T h_ok_Editor_init h_ok_Editor_apply
  have h_ok_Log_moved : Kp P w K mg base 4 (ma K (ga K "Log") "moved") (spMoved2 K) := ok_Log_moved (c.says.def_ 41 (d := mD "Log" "moved" "Log.moved" (inClass (top 39) 1)) rfl) T h_ok_Log_init
  have h_ok_Editor_undo : Kp P w K mg base 8 (ma K (ga K "Editor") "undo") (spUndo K) := ok_Editor_undo (c.says.def_ 52 (d := mD "Editor" "undo" "Editor.undo" (inClass (top 45) 9)) rfl) T h_ok_Log_moved
  have h_ok_Editor_redo : Kp P w K mg base 8 (ma K (ga K "Editor") "redo") (spRedo K) := ok_Editor_redo (c.says.def_ 53 (d := mD "Editor" "redo" "Editor.redo" (inClass (top 45) 10)) rfl) T h_ok_Log_moved
  have h_ok_Editor_present_text : Kp P w K mg base 2 (pgA K (ga K "Editor") "present_text") (spPresent K) := ok_Editor_present_text (c.says.def_ 45 (d := pD "Editor" "present_text" "Editor.present_text" (inClass (top 45) 2)) rfl) T
  have h_ok_Editor_history : Kp P w K mg base 2 (pgA K (ga K "Editor") "history") (spHistory K) := ok_Editor_history (c.says.def_ 46 (d := pD "Editor" "history" "Editor.history" (inClass (top 45) 3)) rfl) T
  have h_ok_Editor_len : Kp P w K mg base 4 (ma K (ga K "Editor") "__len__") (spEdLen K) := ok_Editor_len (c.says.def_ 47 (d := mD "Editor" "__len__" "Editor.__len__" (inClass (top 45) 4)) rfl) T h_ok_Editor_history
  have h_ok_eq : Kp P w K mg base 1 (ma K (CT K) "__eq__") (spEqT K) := ok_eq (c.says.def_ 37 (d := mD "Text" "__eq__" "Text.__eq__" (inClass (top 36) 12)) rfl) T
  exact ok_law F T h_ok_law_dice h_ok_law_next h_ok_law_steps h_ok_law_deed h_ok_law_after h_ok_told0 h_ok_like3 h_ok_law_act h_ok_Editor_replay h_ok_Editor_undo h_ok_Editor_redo h_ok_Editor_present_text h_ok_Editor_history h_ok_Editor_len h_ok_stepsp h_ok_eq ⟨_, codeOf (x := "law") (qual := "law") (st := sLaw) F hk0, lamD_at cR.nd hc0 rfl (htb _ (List.mem_of_getElem? hc0))⟩
end KL
open PySem PySem.W PySem.Calls PyProof.Rows
theorem PySem.Challenge.cw_pastekeys_k43_undo_and_redo_holds : PySem.Challenge.rw_pastekeys_k43_undo_and_redo.Holds := by
  w_on; o_law
  refine HandSHeadRun.head_any (r := KL.R) (q := view KL.R.prog [60]) (H := KL.hk) (ob := KL.ob) (M := 12000) (loose := KL.loose) (d := HandSHeadRun.topDef KL.R.prog 60) (kwd := []) KL.ob_eq
    (by kernel_rfl) (fun s => by kernel_rfl) KL.run (by kernel_rfl) (by kernel_rfl) (by kernel_rfl) (by rfl) (by first | assumption | decide +kernel) (by decide +kernel) ⟨rfl, rfl, rfl, rfl, rfl, by decide +kernel⟩ ?hw ?hc
  case hw => w_witness2
  case hc =>
    refine Pk.walk_ofET (l := PySem.Challenge.rw_pastekeys_k43_undo_and_redo) (n := 63) (k := 60) (x := "_law_script") (CX := L2.CX0) rfl (by decide) (by kernel_rfl) ⟨rfl, by decide, by decide⟩ ?F (fun _ _ _ _ z => z)
    intro w mg fa h Y G hmg0
    obtain ⟨K, cs, c⟩ := Y
    have hmg : mg ("law" : PySem.Str) = some (.ref fa) := by
      have e : (HandSHeadRun.topDef KL.R.prog 60).name = ("law" : PySem.Str) := by kernel_rfl
      rw [← e]
      exact hmg0
    obtain ⟨fd, hb, hF⟩ := KL.facts (P := (PySem.Challenge.rw_pastekeys_k43_undo_and_redo).prog) (w := w) c.r.inn G hmg c
    refine ⟨K, fd, cs, KL.spLawT K (Pk.zOf cs KL.qs), c.r.inn, c.r.tab, c.r.non, c.r.code, hb, fun H a ns hl ht hS => ?_, hF⟩
    exact ⟨a, ns, rfl, hS, Pk.TbAt.nil (fun z hz => by
      obtain ⟨p, hp, e⟩ := Pk.zOf_fst hz
      rw [← e]
      exact ht p hp), fun _ => rfl⟩
