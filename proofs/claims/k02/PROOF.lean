import PyProof.Rows.All
import Wide.All
import OpenK.AllK
import Wide.FinOn
import KE.KStateDown
import HandS.ForMost
import HandS.More
import HandS.Star
import HandS.Property
import HandS.ClsMeth
import HandS.Defaults
import HandS.Head0
import HandS.Head1
import HandS.Head2
import HandS.HeadEnd
import HandS.HeadHook1
import HandS.HeadHook2
import HandS.HeadNt
import HandS.OwnEq
import HandS.IsInst
import KE.GoesEnum
import KE.KOpsOwn
import HandS.Text
import HandS.Iter
import HandS.Comp
import HandS.Conv
import HandS.Wide
import HandS.TupAny
import KE.KDictZip
import HandS.Walk
import PyProof.ListStr
import HandS.Codes
import HandS.SlotsOwn
import PyProof.InstNe
import HandS.NamedTup0
import HandS.Style
import HandS.Dict
import HandS.WideBits
import HandS.Zip
import PySem.Challenge.RW_pastekeys_k02_keys_of_places
set_option Elab.async false
set_option linter.all false
set_option maxRecDepth 100000
set_option maxHeartbeats 0
namespace Pk
open PySem PySem.W PySem.Calls PyProof.Rows He He5
/-! ### a hook: facts, defs, one more Bool -/
abbrev AlM : Type := He.AlD × Bool
def obsM (fa : List Fa) (fn : List DefA) (ex : Frag → Bool) (K : Frag) : AlM := (obsA fa fn K, ex K)
def valM (fn : List DefA) : AlM := (valA fn, true)
structure SaysM (fa : List Fa) (fn : List DefA) (ex : Frag → Bool) (K : Frag) : Prop where
  says : SaysA fa fn K
  more : ex K = true
theorem saysM_of {fa : List Fa} {fn : List DefA} {ex : Frag → Bool} {K : Frag} (h : obsM fa fn ex K = valM fn) : SaysM fa fn ex K := by
  have h1 : obsA fa fn K = valA fn := congrArg Prod.fst h
  have h2 : ex K = true := congrArg Prod.snd h
  exact { says := h1, more := h2 }
def obsMG (n : Nat) (fa : List Fa) (fn : List DefA) (ex : Frag → Bool) (g : Addr → Option Obj) : AlM := obsM fa fn ex (frG g (asA g n))
def hookM (n : Nat) (fa : List Fa) (fn : List DefA) (ex : Frag → Bool) : PySem.W.Hook where
  α := AlM
  obs := fun s => obsMG n fa fn ex s.heap.get?
  val := fun _ => valM fn
  says := fun _ h => ∃ K : Frag, K.In h ∧ SaysM fa fn ex K
  of := fun _ _ e => ⟨_, frG_in, saysM_of e⟩
  keeps := fun _ _ _ ⟨K, hK, c⟩ k => ⟨K, Frag.In.keeps hK k, c⟩
theorem obsMG_eq {n : Nat} {fa : List Fa} {fn : List DefA} {ex : Frag → Bool} {g : Addr → Option Obj} {s : Shared} (h : ∀ a, g a = s.heap.get? a) : obsMG n fa fn ex g = (hookM n fa fn ex).obs s := by
  have e : g = s.heap.get? := funext h
  rw [e] <;> rfl
end Pk
namespace Pk
open PySem PySem.W PySem.Calls PyProof.Rows He He5
/-! ### more facts of a class -/
def pgA (K : Frag) (C : Addr) (f : PySem.Str) : Addr := match recIn K (ma K C f) "property" with
  | some (.ref g :: _) => g
  | _ => 0
def propB (K : Frag) (C : Addr) (f : PySem.Str) : Bool := eqO (findIn K (.ref C) f) (some (some (.ref (ma K C f)))) && (eqO (specialIn K (.ref (ma K C f)) "__get__") (some (some (.builtin "property.__get__"))) && (decide (takesIn K (.ref (ma K C f)) = some true) &&
  (match recIn K (ma K C f) "property" with
    | some (.ref _ :: _) => true
    | _ => false)))
theorem prop_ok {K : Frag} {C : Addr} {f : PySem.Str} (h : propB K C f = true) : L2.PropOf K C f (ma K C f) (pgA K C f) := by
  obtain ⟨h1, h⟩ := ba h
  obtain ⟨h2, h⟩ := ba h
  obtain ⟨h3, h4⟩ := ba h
  refine ⟨eqO_ok h1, eqO_ok h2, of_decide_eq_true h3, ?_⟩
  unfold pgA
  split at h4
  · rename_i f' r e
    exact ⟨r, by rw [e]⟩
  · cases h4
def creadB (K : Frag) (C : Addr) : Bool := readsIn K C (.type "type") && eqO (specialIn K (.ref C) "__getattribute__") (some (some (.builtin "type.__getattribute__")))
theorem cread_ok {K : Frag} {C : Addr} (h : creadB K C = true) : ClX.CRead K C (.type "type") := by
  obtain ⟨h1, h2⟩ := ba h
  exact ⟨h1, eqO_ok h2⟩
def cmetB (K : Frag) (C : Addr) (m : PySem.Str) : Bool := wrapB K C "classmethod" "classmethod.__get__" m && fnIn K (wf K C "classmethod" m)
theorem cmet_ok {K : Frag} {C : Addr} {m : PySem.Str} (h : cmetB K C m = true) : ClX.CMet K C (.type "type") m (ma K C m) (wf K C "classmethod" m) := by
  obtain ⟨h1, h2⟩ := ba h
  exact cmet_of h1 h2
def cvalB (K : Frag) (C : Addr) (f : PySem.Str) (i : Int) : Bool := match findCls K (.ref C) (.type "type") f with
  | some (.val (.int j _)) => decide (j = i)
  | _ => false
theorem cval_ok {K : Frag} {C : Addr} {f : PySem.Str} {i : Int} (h : cvalB K C f i = true) : ∃ t, ClX.CVal K C (.type "type") f (.int i) (.int i t) := by
  unfold cvalB at h
  split at h
  · rename_i j t e
    have ej : j = i := of_decide_eq_true h
    subst ej
    exact ⟨t, e, ⟨t, rfl⟩⟩
  · cases h
/-- a def of the class at an address: found, a function -/
def opB (K : Frag) (C : Addr) (m : PySem.Str) : Bool := eqO (findIn K (.ref C) m) (some (some (.ref (ma K C m)))) && (isFn K (.ref (ma K C m)) && fnIn K (ma K C m))
structure OpF (K : Frag) (C : Addr) (m : PySem.Str) (f : Addr) : Prop where
  at_ : findIn K (.ref C) m = some (some (.ref f))
  fn : isFn K (.ref f) = true
  fi : fnIn K f = true
theorem op_ok {K : Frag} {C : Addr} {m : PySem.Str} (h : opB K C m = true) : OpF K C m (ma K C m) := by
  obtain ⟨h1, h⟩ := ba h
  obtain ⟨h2, h3⟩ := ba h
  exact ⟨eqO_ok h1, h2, h3⟩
/-- an operator with a built-in number at the right -/
def opTB (K : Frag) (C : Addr) (nm : String) (T : String) : Bool := selfFirst K C && (eqO (findIn K (.ref C) (dunderR nm)) (some none) && ((findIn K (.type T) (PySem.dunder nm)).isSome && ((findIn K (.type T) (dunderR nm)).isSome && decide (subIn K (.type T) (.ref C) = some false))))
structure OpT (K : Frag) (C : Addr) (nm : String) (T : String) : Prop where
  first : selfFirst K C = true
  noR : findIn K (.ref C) (dunderR nm) = some none
  l : ∃ fo, findIn K (.type T) (PySem.dunder nm) = some fo
  r : ∃ fo, findIn K (.type T) (dunderR nm) = some fo
  sub : subIn K (.type T) (.ref C) = some false
theorem opT_ok {K : Frag} {C : Addr} {nm T : String} (h : opTB K C nm T = true) : OpT K C nm T := by
  obtain ⟨h1, h⟩ := ba h
  obtain ⟨h2, h⟩ := ba h
  obtain ⟨h3, h⟩ := ba h
  obtain ⟨h4, h5⟩ := ba h
  exact ⟨h1, eqO_ok h2, Option.isSome_iff_exists.mp h3, Option.isSome_iff_exists.mp h4, of_decide_eq_true h5⟩
end Pk
/-! ## Rules that the layer lacks: operators of an own class, C(*x), cls(*x), enumerate over a tuple -/
namespace Pk
open PySem PySem.Spec PyProof.Rows L2
theorem no_tup_iter {h : Heap} {a it : Addr} {its : Array Value} {i : Nat} (p : h.IsTuple a its) (q : h.IsTupleIter it a i) : a ≠ it := fun e => by
  obtain ⟨o1, e1, c1, _⟩ := p
  obtain ⟨o2, e2, c2, _⟩ := q
  rw [e, e2] at e1
  cases e1
  rw [c2] at c1
  exact absurd c1 (by decide)
/-! ### enumerate(v) begins -/
theorem enum_new_meets {v : Value} {ob : Obj} {P : Heap → Prop} (B : Begins v ob P) :
    Meets (Builtin.«enumerate.__new__» ⟨[.type "enumerate", v], []⟩) (fun _ R s => P s.heap ∧
      R (.ok (.ret (.ref (s.heap.push ob).objs.size))) { s with heap := (s.heap.push ob).push { cls := .type "enumerate", data := .fields #[.none, .bool false, .ref s.heap.objs.size, rawInt 0, .none, .none] } }) :=
  .of_wp fun prog w A R s hh => by
    obtain ⟨hp, g, d, tk, os⟩ := s
    obtain ⟨hP, hR⟩ := hh
    have subE := sub_enumerate
    have mk : ∀ {A' : Around} {E : Value → Shared → Prop} {Q : Value → Shared → Prop}, Q (.ref hp.objs.size) ⟨hp.push ob, g, d, tk, os⟩ → wpAny (model prog w) A' (pyIter v) Q E ⟨hp, g, d, tk, os⟩ := fun q => B.iter prog w _ _ ⟨hp, g, d, tk, os⟩ _ hP q
    wp_walk using mk
    refine wpAny_stack_any fun stk => wpAny_pure ?_
    split
    · rename_i cc _ _ _ _ _
      cases (cc == Value.type "enumerate") <;> (wp_walk using mk; exact ⟨_, rfl, hR⟩)
    · wp_walk using mk
      exact ⟨_, rfl, hR⟩
theorem enum_new {prog : Program} {w : World} {A : Around} {E : Value → Shared → Prop} {s : Shared} {v : Value} {ob : Obj} {P : Heap → Prop} {Q : Value → Shared → Prop} (B : Begins v ob P) (hP : P s.heap)
    (hQ : ∀ h2, IsEnum h2 (s.heap.objs.size + 1) s.heap.objs.size 0 .none → h2.get? s.heap.objs.size = some ob → (∀ b o, s.heap.get? b = some o → h2.get? b = some o) → Q (.ref (s.heap.objs.size + 1)) { s with heap := h2 }) :
    wpAny (model prog w) A (call (.type "enumerate") [v]) Q E s := by
  refine callType_new F.called_enumerate (by decide) (F.typeCall_enumerate_1 _) (F.newCall_enumerate_1 _) (fun obj => F.args_object_init_2 obj _) F.entry_enumerate_new (enum_new_meets B) ⟨hP, ?_⟩
  have sz : (s.heap.push ob).objs.size = s.heap.objs.size + 1 := Heap.size_push ..
  have at_ := Heap.get?_push_size (s.heap.push ob) (o := { cls := .type "enumerate", data := .fields #[.none, .bool false, .ref s.heap.objs.size, rawInt 0, .none, .none] }) rfl
  rw [sz] at at_
  show _ ∧ _
  rw [sz]
  exact ⟨⟨_, at_, rfl⟩, hQ _ at_ (Heap.get?_push_of_some _ (Heap.get?_push_size _ B.free)) fun b o y => Heap.get?_push_of_some _ (Heap.get?_push_of_some _ y)⟩
/-! ### for i, x in enumerate(tuple) -/
def IteT (K : PySem.W.Frag) (a : Addr) : It :=
  ⟨fun i H => ∃ (xs : List V) (x : V), SqT K H a xs ∧ xs[i]? = some x, fun i H v H2 => ∃ T x, v = .ref T ∧ H T = none ∧ H2 = upd H T (.tup [.int (i : Nat), x]) ∧ ∀ xs, SqT K H a xs → xs[i]? = some x, fun i H => ∃ xs : List V, SqT K H a xs ∧ xs.length ≤ i⟩
theorem turn_enumT {P : Program} {w : World} {K : PySem.W.Frag} {elts : List Expr} {kk : Nat} {tpos : Pos} (a e it : Addr) :
    Turn P w K (.Tuple elts kk tpos) (IteT K a) [e, it] e (fun i h => (∃ old, IsEnum h e it ((i : Nat) : Int) old) ∧ h.IsTupleIter it a i ∧ e ≠ it ∧ e ≠ a) where
  mem := List.mem_cons_self
  obj := fun i h st b hb => by
    obtain ⟨⟨old, h1⟩, hit, _⟩ := st
    obtain ⟨o, ho, hc, hd⟩ := hit
    have hb2 : b = e ∨ b = it := by simpa using hb
    rcases hb2 with z | z
    · exact ⟨_, by rw [z]; exact h1, fun v q => by cases q⟩
    · exact ⟨o, by rw [z]; exact ho, fun v q => by rw [hd] at q; cases q⟩
  keep := fun i h h2 st k => let ⟨⟨old, h1⟩, hi, n1, n2⟩ := st; ⟨⟨old, k e List.mem_cons_self _ h1⟩, hi.at fun o q => k it (by simp) o q, n1, n2⟩
  item := by
    intro X hP hw hK hc i pins s σ H E I hf st hg
    subst hP hw hK
    obtain ⟨⟨old, hen⟩, hit, n1, n2⟩ := st
    obtain ⟨xs, x, hq, hx⟩ := hg
    obtain ⟨its, rv, p, hz⟩ := I.tuple hq
    obtain ⟨u, hu, ru⟩ := rv.get hx
    have pT : s.heap.IsTuple a its.toArray := p
    have nai := no_tup_iter pT hit
    have le_ : e < s.heap.objs.size := Heap.lt_size hen
    have li_ : it < s.heap.objs.size := by
      obtain ⟨_, q, _⟩ := id hit
      exact Heap.lt_size q
    have hcalm : X.A.in1.handled = none := I.ok.hd hc
    have hsz : i < its.toArray.size := by
      have q := (List.getElem?_eq_some_iff.mp hu).1
      simpa using q
    refine wpAny_pyNext_enum_itemC (Draws.tuple (prog := X.prog) (w := X.w) hcalm it a nai its.toArray) hen ⟨hit, pT⟩ hsz n1 (by simp [n1, n2]) fun y h1 tk hy ho1 st1 hT _ hk => ?_
    have ey : y = u := by
      have q : its.toArray[i]? = some u := by simpa using hu
      rw [q] at hy
      exact (Option.some.inj hy).symm
    subst ey
    refine ⟨_, rfl, wpAny_letOwnedTupleGo_enum (s := { s with heap := h1, toks := tk + 1 }) ho1 fun h2 hen2 sb => ?_⟩
    have hT2 := (sb.2 _ (Nat.ne_of_gt le_)).trans hT
    have new : ObjOk X.prog X.w (upd H s.heap.objs.size (.tup [.int (i : Nat), x])) h2 s.heap.objs.size (.tup [.int (i : Nat), x]) :=
      ⟨(by decide : 2 ≤ sizeLine), [.int (i : Nat) tk, y], .cons ⟨_, rfl⟩ (.cons ru .nil), ⟨_, hT2, rfl, _, rfl⟩⟩
    have I2 : Inv X pins σ (upd H s.heap.objs.size (.tup [.int (i : Nat), x])) { s with heap := h2, toks := tk + 1 } :=
      I.turnedNew (ch := [e, it]) (fun b ob hb q => (sb.2 b (fun z => hb (by simp [z]))).trans (hk b ob (fun z => hb (by simp [z])) (fun z => hb (by simp [z])) q)) hf (Nat.le_refl _) new
    refine ⟨.ref s.heap.objs.size, _, I2, rfl, ⟨_, x, rfl, I.hok.fresh (Nat.le_refl _), rfl, fun ys hy2 => by rw [I.tuple_inj hy2 hq]; exact hx⟩, ⟨⟨y, ?_⟩, st1.1.at fun o q => (sb.2 it n1.symm).trans q, n1, n2⟩, fun b hb => ?_⟩
    · rw [Int.natCast_succ]
      exact hen2
    · have hb2 : b < s.heap.objs.size := by
        have q : b = e ∨ b = it := by simpa using hb
        rcases q with z | z <;> rw [z] <;> assumption
      rw [upd_ne (Nat.ne_of_lt hb2)]
      exact (hf b hb).1
  done := by
    intro X hP hw hK hc i pins s σ H E I hf st hg
    subst hP hw hK
    obtain ⟨⟨old, hen⟩, hit, n1, n2⟩ := st
    obtain ⟨xs, hq, hx⟩ := hg
    obtain ⟨its, rv, p, hz⟩ := I.tuple hq
    obtain ⟨f0, f1, f2, f3, f4, f5⟩ := hf it (by simp)
    have pT : s.heap.IsTuple a its.toArray := p
    have nai := no_tup_iter pT hit
    have hcalm : X.A.in1.handled = none := I.ok.hd hc
    have hl := rv.length
    have D0 := Draws.tuple (prog := X.prog) (w := X.w) hcalm it a nai its.toArray
    refine wpAny_pyNext_enum_endD (n := i) (i := (i : Int)) (St := fun j h => j = i ∧ h.IsTupleIter it a i ∧ h.IsTuple a its.toArray) (P := fun _ _ => True) (fp := [it, a]) ⟨?_, ?_, ?_, ?_⟩ hen ⟨rfl, hit, pT⟩ fun h1 eb => ⟨rfl, I.turned (t' := s.toks) (fun b o hb q => eb b o hb q) f0 f1 f3 f4 f5⟩
    · exact fun j h z => let ⟨o, ho, _⟩ := z.2.1; ⟨o, ho⟩
    · exact fun j h h2 z k => ⟨z.1, D0.frame i h h2 z.2 k⟩
    · intro j s2 Q2 E2 hj st2 hQ2
      exact absurd st2.1 (Nat.ne_of_lt hj)
    · intro s2 Q2 E2 st2 hE2
      exact wpAny_nextOf_tuple_end hcalm st2.2.1 st2.2.2 (by simp; omega) hE2
  self := fun A i s Q E st h => let ⟨⟨_, hen⟩, _⟩ := st; wpAny_pyIter_enum hen h
def iEnumT (K : PySem.W.Frag) (ta : TA) : TI := fun σ H R => ta σ H fun vs H1 => ∃ a xs, vs = [.ref a] ∧ SqT K H1 a xs ∧ R (IteT K a) H1
theorem pi_enumT {X : Cx} {e : Expr} {ta : TA} {p pos tpos : Pos} {elts : List Expr} {kk : Nat} (hg : Gl X "enumerate") (hm : X.mg "enumerate" = none) (ha : PA X [e] ta) (hs : starEach [e] X.env = [(false, eval e X.env)] := by rfl) :
    PI X (.Tuple elts kk tpos) (.Call (.Name "enumerate" p) [e] [] pos) (iEnumT X.K ta) := ⟨fun pins s σ H R I h => by
  refine Call_ (ld_blt I hg hm boot_enumerate (PyProof.Rows.callWith_type1 (thn (ha.run pos pins s σ H _ I h) fun us s1 ⟨vs, H1, I1, r1, a, xs, ev, hq, q⟩ => ?_) hs rfl))
  subst ev
  cases r1 with
  | cons r rr =>
    cases rr
    cases r
    obtain ⟨its, rv, pt, hz⟩ := I1.tuple hq
    have pT : s1.heap.IsTuple a its.toArray := pt
    refine enum_new (begins_tuple a its.toArray) pT fun h2 hen hit hk => wpAny_pyIter_enum hen ?_
    have I2 : Inv X pins σ H1 { s1 with heap := h2 } := I1.kept (t' := s1.toks) hk
    obtain ⟨o, ho, _⟩ := id pT
    have hlt := Heap.lt_size ho
    refine ⟨s1.heap.objs.size + 1, [s1.heap.objs.size + 1, s1.heap.objs.size], _, _, H1, rfl, I2, turn_enumT a (s1.heap.objs.size + 1) s1.heap.objs.size, ⟨⟨.none, hen⟩, ⟨_, hit, rfl, rfl⟩, Nat.succ_ne_self _, fun z => absurd (show s1.heap.objs.size + 1 < s1.heap.objs.size by rw [z]; exact hlt) (Nat.not_lt.mpr (Nat.le_succ _))⟩, fun b hb => ?_, q⟩
    have hb2 : b = s1.heap.objs.size + 1 ∨ b = s1.heap.objs.size := by simpa using hb
    have hle : s1.heap.objs.size ≤ b := by
      rcases hb2 with z | z
      · rw [z]; exact Nat.le_succ _
      · rw [z]; exact Nat.le_refl _
    exact I1.fpOk hle (I1.hok.fresh hle)⟩
/-! ### operators of an own class -/
theorem cmp_back {X : Cx} {pins : List (Addr × Obj)} {σ : L2.St} {Q : VK} {u : Value} {s : Shared} (h : EP X pins σ Q u s) : PySem.W.CmpBack (EP X pins σ Q) u s := by
  have h0 := h
  obtain ⟨v, H, I, r, q⟩ := h
  cases u with
  | notImplemented => cases v <;> first | (cases r; done) | (obtain ⟨_, z⟩ := r; cases z)
  | _ => exact h0
section
variable {X : Cx} {CX : CXT} {k : Nat} {C f : Addr} {sp : Sp} {E : XK}
/-- a op b: both of the class -/
def rOwn (C : Addr) (sp : Sp) (E : XK) : R2 := fun x y H Q => ∃ a b da fa db fb, x = .ref a ∧ y = .ref b ∧ H a = some (.ins C da fa) ∧ H b = some (.ins C db fb) ∧ sp [x, y] H Q E
theorem op_own {op : Operator} (hs : OpF X.K C (PySem.dunder op.info.2) f) (hc : PySem.W.selfFirst X.K C = true) (F : FnR X.prog X.w X.K X.mg X.base CX k f sp) (hr : Room k X.A) (hx : Passes CX X E) : OpR X (binaryOp op) (rOwn C sp E) := by
  intro pins s σ H x y v u Q I rx ry ⟨a, b, da, fa, db, fb, ex, ey, ha, hb, q⟩
  subst ex ey
  cases rx
  cases ry
  obtain ⟨mA, O, _⟩ := ins_get I.hok ha
  obtain ⟨oa, JA, _⟩ := O.look
  obtain ⟨mB, O2, _⟩ := ins_get I.hok hb
  obtain ⟨ob, JB, _⟩ := O2.look
  obtain ⟨m, hF⟩ := I.fr
  refine PySem.W.binop_K hF I.ok.mod.kin JA JB.type hc hs.at_ hs.fn (wpAny_call ?_)
  refine codeAny_mono (run_fnR F hr hx I (vs := [V.ref a, V.ref b]) (.cons rfl (.cons rfl .nil)) q) fun r s2 hq => ?_
  cases r with
  | error e => exact hq
  | ok fl => cases fl with
    | ret w => exact cmp_back hq
    | _ => exact hq.elim
/-- a op n: n an int -/
def rOwnI (C : Addr) (sp : Sp) (E : XK) : R2 := fun x y H Q => ∃ a n da fa, x = .ref a ∧ y = .int n ∧ H a = some (.ins C da fa) ∧ sp [x, y] H Q E
theorem op_ownI {op : Operator} (hs : OpF X.K C (PySem.dunder op.info.2) f) (ht : OpT X.K C op.info.2 "int") (F : FnR X.prog X.w X.K X.mg X.base CX k f sp) (hr : Room k X.A) (hx : Passes CX X E) : OpR X (binaryOp op) (rOwnI C sp E) := by
  intro pins s σ H x y v u Q I rx ry ⟨a, n, da, fa, ex, ey, ha, q⟩
  subst ex ey
  cases rx
  obtain ⟨t, et⟩ := ry
  subst et
  obtain ⟨mA, O, _⟩ := ins_get I.hok ha
  obtain ⟨oa, JA, _⟩ := O.look
  obtain ⟨m, hF⟩ := I.fr
  obtain ⟨fo, h1⟩ := ht.l
  obtain ⟨ro, h2⟩ := ht.r
  refine PySem.W.ksp_binT (T := "int") hF I.ok.mod.kin JA rfl ht.first hs.at_ hs.fn ht.noR (.inl rfl) h1 h2 ht.sub (wpAny_call ?_)
  refine codeAny_mono (run_fnR F hr hx I (vs := [V.ref a, V.int n]) (.cons rfl (.cons ⟨t, rfl⟩ .nil)) q) fun r s2 hq => ?_
  cases r with
  | error e => exact hq
  | ok fl => cases fl with
    | ret w => exact cmp_back hq
    | _ => exact hq.elim
/-- a[i]: __getitem__ of an own class -/
def rGetO (C : Addr) (sp : Sp) (E : XK) : R2 := fun x y H Q => ∃ a da fa, x = .ref a ∧ H a = some (.ins C da fa) ∧ sp [x, y] H Q E
/-- x in a: __contains__ -/
def rInO (C : Addr) (sp : Sp) (E : XK) : R2 := fun x y H Q => ∃ a da fa, y = .ref a ∧ H a = some (.ins C da fa) ∧ sp [y, x] H (fun v H2 => ∃ b, v = .bl b ∧ Q v H2) E
/-! ### C(*x) -/
def tMakeS (K : PySem.W.Frag) (C : Addr) (sp : Sp) (E : XK) (te : TE) : TE := fun σ H Q => te σ H fun y H1 => ∃ a xs, y = V.ref a ∧ (SqT K H1 a xs ∨ SqL K H1 a xs) ∧ ∀ x dx, H1 x = none → H1 dx = none → dx ≠ x →
  sp (V.ref x :: xs) (upd (upd H1 dx (.own x)) x (.ins C dx [])) (fun v H2 => v = .non ∧ Q (.ref x) H2) E
variable {x : Str} {e : Expr} {te : TE} {p pos sp_ : Pos} {i : Nat}
theorem pe_makeS (M : Mk X.K C f) (F : FnR X.prog X.w X.K X.mg X.base CX k f sp) (hr : Room (k + 1) X.A) (hg : Gl X x) (hm : X.mg x = some (.ref C)) (hx : Passes CX X E) (he : PE X e te) (hd : (x == ("__debug__" : Str)) = false := by decide)
    (hst : starEach [.Starred e sp_] X.env = [(true, eval e X.env)] := by rfl) : PE X (.Call (.Name x p) [.Starred e sp_] [] pos) (tMakeS X.K C sp E te) := ⟨fun pins s σ H Q I h => by
  refine wpAny_Call_Name_kw (ld_glob I hg hm ?_ hd)
  refine PySem.W.callWith_S (h₀ := X.base) I.ok.mod.kin M.kp (thn (he.run pins s σ H _ I h) fun v s1 ⟨y, H1, I1, ry, a, xs, ey, hxs, q⟩ => ?_) hst
  subst ey
  cases ry
  exact StX.star_any I1 hxs fun us s2 I2 rv => ⟨I2.kIn, StX.run_makeR M F hr hx I2 rv q⟩⟩
/-- cls(*x): the class stands in a local -/
theorem pe_makeSL (M : Mk X.K C f) (F : FnR X.prog X.w X.K X.mg X.base CX k f sp) (hr : Room (k + 1) X.A) (hN : X.N[i]? = some x) (hv : Vis X.env.scope x) (hx : Passes CX X E) (he : PE X e te) (hd : (x == ("__debug__" : Str)) = false := by decide) (hcd : (x == ("__classdict__" : Str)) = false := by decide)
    (hst : starEach [.Starred e sp_] X.env = [(true, eval e X.env)] := by rfl) : PE X (.Call (.Name x p) [.Starred e sp_] [] pos) (fun σ H Q => σ[i]? = some (some (.ref C)) ∧ tMakeS X.K C sp E te σ H Q) := ⟨fun pins s σ H Q I h => by
  obtain ⟨hs, h⟩ := h
  refine wpAny_Call_Name_kw (thn ((pe_var (pos := p) hN hv hd hcd).run pins s σ H (fun v H1 => v = .ref C ∧ H1 = H) I ⟨.ref C, hs, rfl, rfl⟩) fun uu s0 ⟨v0, H0, I0, r0, e0, e1⟩ => ?_)
  subst e0 e1
  cases r0
  refine PySem.W.callWith_S (h₀ := X.base) I0.ok.mod.kin M.kp (thn (he.run pins s0 σ _ _ I0 h) fun v s1 ⟨y, H1, I1, ry, a, xs, ey, hxs, q⟩ => ?_) hst
  subst ey
  cases ry
  exact StX.star_any I1 hxs fun us s2 I2 rv => ⟨I2.kIn, StX.run_makeR M F hr hx I2 rv q⟩⟩
end
end Pk
/-! ## Promises without exceptions, their calls; isinstance of built-in types -/
namespace Pk
open PySem PySem.Spec PyProof.Rows L2
/-- the def at f keeps sp (nothing is raised) -/
def Kp (P : Program) (w : World) (K : PySem.W.Frag) (mg : Str → Option Value) (base : Heap) (k : Nat) (f : Addr) (sp : Sp) : Prop := ∃ fd ps, FnOk P w K mg base CX0 k f fd ps sp ∧ Binds K fd ps [] ∧ PySem.W.keepIn K (.ref f) = true
section
variable {P : Program} {w : World} {K : PySem.W.Frag} {mg : Str → Option Value} {base : Heap} {k j : Nat} {f : Addr} {sp : Sp}
theorem Kp.mono (G : Kp P w K mg base j f sp) (h : j ≤ k) : Kp P w K mg base k f sp := by
  obtain ⟨fd, ps, F, b, kp⟩ := G
  exact ⟨fd, ps, F.mono h, b, kp⟩
theorem Kp.fnR (G : Kp P w K mg base k f sp) : FnR P w K mg base CX0 k f sp := by
  obtain ⟨fd, ps, F, b, kp⟩ := G
  exact (F.raw b .nil).imp fun vs H Q E h => by rw [List.append_nil]; exact h
/-- a def of the text keeps its promise: the body's term and its reading -/
theorem kp_of {x qual : Str} {st : Stmt} {kws : List (Str × V)} {N ps : List Str} (D : ∃ fd, FunD K x qual (defArgs st) (defBody st) (defScope st) [] kws f fd) (S : FnScope N ps (defScope st))
    (hb : ∀ (kV doc pm : Value) (an : Option Addr) (cdv ct : Value) (us : List Value), us.length = ps.length → bindArgs (PySem.W.fnOf x qual (defArgs st) (defBody st) (defScope st) .none kV doc pm an cdv ct) ⟨us, []⟩ = pure (ps.zip us))
    (len : ∀ vs H Q E, sp vs H Q E → vs.length = ps.length)
    (hbody : ∀ (cdv : Value) (A : Around) (outer : List Env) (s : Shared) (H : Hp) (vs : List V) (Q : VK) (E : XK), Room k (A.deeper (envOfC qual (defScope st) s.heap.objs.size f cdv)) → sp vs H Q E →
      ∃ t, PSs (cxOf CX0 P w K mg base N qual (defScope st) f cdv A outer s H E).nox (defBody st) t ∧ t { nx := fun _ H' => Q .non H', rt := Q } (start N vs) H) : Kp P w K mg base (k + 1) f sp := by
  obtain ⟨fd, F⟩ := D
  refine ⟨fd, ps, F.ok S len fun cdv A outer s H vs Q E hr h => ?_, F.bindsN hb, F.kp⟩
  obtain ⟨t, h1, h2⟩ := hbody cdv A outer s H vs Q E hr h
  exact ⟨t, h1.nox, h2⟩
end
theorem b_int : bootBuiltins "int" = some (.type "int") := by decide +kernel
theorem b_bool : bootBuiltins "bool" = some (.type "bool") := by decide +kernel
theorem b_str : bootBuiltins "str" = some (.type "str") := by decide +kernel
theorem b_tuple : bootBuiltins "tuple" = some (.type "tuple") := by decide +kernel
theorem b_list : bootBuiltins "list" = some (.type "list") := by decide +kernel
theorem b_len : bootBuiltins "len" = some (.builtin "len") := by decide +kernel
theorem b_all : bootBuiltins "all" = some (.builtin "all") := by decide +kernel
theorem b_min : bootBuiltins "min" = some (.builtin "min") := by decide +kernel
theorem b_max : bootBuiltins "max" = some (.builtin "max") := by decide +kernel
section
variable {X : Cx} {k : Nat} {f C : Addr} {sp : Sp} {x m : Str} {p pos apos : Pos} {e o : Expr} {es : List Expr} {t : TA} {te ta : TE}
def tCl (sp : Sp) (t : TA) : TE := fun σ H Q => t σ H fun vs H1 => sp vs H1 Q E0
theorem pk_call (G : Kp X.prog X.w X.K X.mg X.base k f sp) (hr : Room k X.A) (hm : X.mg x = some (.ref f)) (ha : PA X (e :: es) t) (hg : Gl X x := by rfl) (hdb : (x == ("__debug__" : Str)) = false := by decide)
    (he : starEach (e :: es) X.env = (false, eval e X.env) :: starEach es X.env := by rfl) (hpl : (backTo pos (starEach es X.env)).any (·.1) = false := by rfl) : PE X (.Call (.Name x p) (e :: es) [] pos) (tCl sp t) := ⟨fun pins s σ H Q I h => by
  obtain ⟨fd, ps, F, b, kp⟩ := G
  refine (pe_call F hr hg hm kp b .nil pass0 ha hdb he hpl).run pins s σ H Q I ?_
  show t σ H fun vs H1 => sp (vs ++ []) H1 Q E0
  simp only [List.append_nil]
  exact h⟩
/-- isinstance(x, T), T a built-in type, by names of types -/
def rIsiB (K : PySem.W.Frag) : List V → Hp → VK → Prop := fun xs H Q => ∃ (x : V) (ty t : String) (r : Bool), xs = [x, .ty ty] ∧ TyX K H x (.type t) ∧ kitB t ty = some r ∧ Q (.bl r) H
theorem call_isiB : CallR X (.builtin "isinstance") (rIsiB X.K) := fun pins s σ H xs us Q I r h => by
  obtain ⟨x, ty, t, b, ex, h1, h2, q⟩ := h
  exact call_isi pins s σ H xs us Q I r ⟨x, .ty ty, .type t, .type ty, b, ex, .ty ty, h1, kit_ty h2, q⟩
/-- a built-in type as a value -/
theorem pe_ty {y : Str} {ty : String} (hm : X.mg y = none) (hb : bootBuiltins y = some (.type ty)) (hg : Gl X y := by rfl) (hn : y ≠ "__name__" := by decide) (hd : (y == ("__debug__" : Str)) = false := by decide) : PE X (.Name y p) (tC (.ty ty)) := pe_bltn hg hm hb rfl hn hd
theorem pe_isi {ty : String} {y : Str} {p2 : Pos} (he : PE X e te) (hi : X.mg ("isinstance" : Str) = none) (hy : X.mg y = none) (hb : bootBuiltins y = some (.type ty)) (hn : y ≠ "__name__" := by decide) (hd : (y == ("__debug__" : Str)) = false := by decide) (hgi : Gl X "isinstance" := by rfl) (hgy : Gl X y := by rfl)
    (h1 : starEach (e :: [.Name y p2]) X.env = (false, eval e X.env) :: starEach [.Name y p2] X.env := by rfl) (hpl : (backTo pos (starEach [.Name y p2] X.env)).any (·.1) = false := by rfl) :
    PE X (.Call (.Name "isinstance" p) [e, .Name y p2] [] pos) (tCB (rIsiB X.K) (tCons te (tCons (tC (.ty ty)) tNil))) := pe_callB call_isiB hgi hi boot_isinstance (pa_cons he (pa_cons (pe_ty hy hb hgy hn hd) pa_nil) h1) (by decide) (by decide) h1 hpl
theorem pk_prop {fl : Str} {g pa : Addr} (he : PE X e te) (c : Cls X.K C) (hp : PropOf X.K C fl pa g) (G : Kp X.prog X.w X.K X.mg X.base k g sp) (hr : Room (k + 1) X.A) (hab : attributeBase e fl X.env (eval e X.env) = eval e X.env := by rfl) : PE X (.Attribute e fl pos) (tProp C sp [] E0 te) := by
  obtain ⟨fd, ps, F, b, kp⟩ := G
  exact pe_prop he c hp F hr b .nil pass0 hab
/-- constants of the module -/
theorem pe_gI {i : Int} {tk : Tok} (hm : X.mg x = some (.int i tk)) (hg : Gl X x := by rfl) (hd : (x == ("__debug__" : Str)) = false := by decide) : PE X (.Name x p) (tC (.int i)) := pe_glob hg hm ⟨tk, rfl⟩ hd
theorem pe_gS {z : Str} {tk : Tok} (hm : X.mg x = some (.str z tk)) (hg : Gl X x := by rfl) (hd : (x == ("__debug__" : Str)) = false := by decide) : PE X (.Name x p) (tC (.str z)) := pe_glob hg hm ⟨tk, rfl⟩ hd
theorem pe_gR {a : Addr} (hm : X.mg x = some (.ref a)) (hg : Gl X x := by rfl) (hd : (x == ("__debug__" : Str)) = false := by decide) : PE X (.Name x p) (tC (.ref a)) := pe_glob hg hm rfl hd
/-- built-ins by short words: of one argument -/
theorem pk_b1 {y : Str} {id : String} {r : List V → Hp → VK → Prop} (hc : CallR X (.builtin id) r) (hm : X.mg y = none) (hv : bootBuiltins y = some (.builtin id)) (he : PE X e te) (hg : Gl X y := by rfl) (hn : y ≠ "__name__" := by decide) (hd : (y == ("__debug__" : Str)) = false := by decide)
    (h1 : starEach [e] X.env = [(false, eval e X.env)] := by rfl) : PE X (.Call (.Name y p) [e] [] pos) (tCB r (tCons te tNil)) := pe_callB hc hg hm hv (pa_cons he pa_nil h1) hn hd h1 rfl
theorem pk_t1 {y : Str} {ty : String} {r : List V → Hp → VK → Prop} (hc : CallR X (.type ty) r) (hm : X.mg y = none) (hv : bootBuiltins y = some (.type ty)) (he : PE X e te) (hg : Gl X y := by rfl) (hn : y ≠ "__name__" := by decide) (hd : (y == ("__debug__" : Str)) = false := by decide)
    (h1 : starEach [e] X.env = [(false, eval e X.env)] := by rfl) : PE X (.Call (.Name y p) [e] [] pos) (tCB r (tCons te tNil)) := pe_callTy hc hg hm hv (pa_cons he pa_nil h1) hn hd h1 rfl
end
end Pk
/-! ## for i, (x, y) in enumerate(zip(l1, l2)) -/
namespace Pk
open PySem PySem.Spec PyProof.Rows L2
/-- a zip of two lists at turn i; held: the pair that it gave last, which still lives -/
structure ZAt (h : Heap) (z TI TO i1 i2 a b : Addr) (i : Nat) (held : Option Addr) : Prop where
  pair : IsPair h TI (.ref i1) (.ref i2)
  it1 : h.IsListIter i1 a i
  it2 : h.IsListIter i2 b i
  out : ∃ x y, IsPair h TO x y
  at_ : match held with
    | none => IsZip h z TI TO .none
    | some T => ∃ f, IsZipHeld h z TI TO T f
section
variable {prog : Program} {w : World} {A : Around} {E : Value → Shared → Prop} {s : Shared} {z TI TO i1 i2 a b : Addr} {i : Nat} {held : Option Addr}
theorem ZAt.ty {h : Heap} (Z : ZAt h z TI TO i1 i2 a b i held) : ∃ o, h.get? z = some o ∧ o.cls = .type "zip" := by
  have h0 := Z.at_
  cases held with
  | none => exact ⟨_, h0, rfl⟩
  | some T =>
    obtain ⟨f, h1⟩ := h0
    exact ⟨_, h1, rfl⟩
theorem zip_turn {xs ys : Array Value} {x y : Value} {Q : Value → Shared → Prop} (D : ZipApart z TI TO i1 i2 a b) (Z : ZAt s.heap z TI TO i1 i2 a b i held) (alive : ∀ T, held = some T → ∃ o, s.heap.get? T = some o)
    (l1 : s.heap.IsList a xs) (l2 : s.heap.IsList b ys) (ex : xs[i]? = some x) (ey : ys[i]? = some y)
    (q : ∀ h2, ZAt h2 z TI TO i1 i2 a b (i + 1) (some (held.getD s.heap.objs.size)) → IsPair h2 s.heap.objs.size x y → h2.objs.size = s.heap.objs.size + 1 → (∀ c o, c ∉ [z, TO, i1, i2] → s.heap.get? c = some o → h2.get? c = some o) → Q (.ref s.heap.objs.size) { s with heap := h2 }) :
    wpAny (model prog w) A (Builtin.SmallTypes.nextOf (.ref z)) Q E s := by
  have ty : s.TypeIs (.ref z) "zip" := Z.ty
  have hp := Z.pair
  have h1 := Z.it1
  have h2 := Z.it2
  unfold Builtin.SmallTypes.nextOf
  refine wpAny_bind (wpAny_callSpecial?_slot (name := Str.ofString "__next__") ty F.slot_zip_next (wpAny_call_entry F.slot_zip_next ty F.entry_zip_next ?_ (F.args_zip_next_1 _)))
  have nTI : TI ∉ [z, TO, i1, i2] := by simp [D.TIz, D.TITO, D.TIi1, D.TIi2]
  have h0 := Z.at_
  cases held with
  | none =>
    have hz : IsZip _ z TI TO .none := h0
    obtain ⟨x0, y0, hTO⟩ := Z.out
    refine zip_next_item D hz hp hTO h1 h2 l1 l2 ex ey fun hq a1 a2 a3 a4 a5 a6 a7 => wpAny_pure ?_
    have kp : ∀ c o, c ∉ [z, TO, i1, i2] → s.heap.get? c = some o → hq.get? c = some o := fun c o hc e => by
      simp only [List.mem_cons, List.not_mem_nil, or_false, not_or] at hc
      exact a7 c o hc.1 hc.2.1 hc.2.2.1 hc.2.2.2 e
    exact q hq ⟨kp _ _ nTI hp, a3, a4, ⟨_, _, a2⟩, false, a1⟩ a5 a6 kp
  | some T =>
    obtain ⟨f, hz⟩ := h0
    obtain ⟨oT, hT⟩ := alive T rfl
    refine zip_next_item_held D hz hT hp h1 h2 l1 l2 ex ey fun hq a1 a3 a4 a5 a6 a7 => wpAny_pure ?_
    have kp : ∀ c o, c ∉ [z, TO, i1, i2] → s.heap.get? c = some o → hq.get? c = some o := fun c o hc e => by
      simp only [List.mem_cons, List.not_mem_nil, or_false, not_or] at hc
      exact a7 c o hc.1 hc.2.2.1 hc.2.2.2 e
    exact q hq ⟨kp _ _ nTI hp, a3, a4, let ⟨x0, y0, hTO⟩ := Z.out; ⟨x0, y0, a7 _ _ D.TOz D.TOi1 D.TOi2 hTO⟩, true, a1⟩ a5 a6 kp
theorem zip_over {xs ys : Array Value} {Q : Value → Shared → Prop} (hh : A.handled = none) (D : ZipApart z TI TO i1 i2 a b) (Z : ZAt s.heap z TI TO i1 i2 a b i held) (alive : ∀ T, held = some T → ∃ o, s.heap.get? T = some o)
    (l1 : s.heap.IsList a xs) (l2 : s.heap.IsList b ys) (none_ : xs[i]? = none ∨ ys[i]? = none)
    (q : ∀ h2 e, (∀ c o, c ∉ [z, TO, i1, i2] → s.heap.get? c = some o → h2.get? c = some o) → (∃ o, h2.get? e = some o ∧ o.cls = .type "StopIteration") → E (.ref e) { s with heap := h2 }) :
    wpAny (model prog w) A (Builtin.SmallTypes.nextOf (.ref z)) Q E s := by
  have ty : s.TypeIs (.ref z) "zip" := Z.ty
  have hp := Z.pair
  have h1 := Z.it1
  have h2 := Z.it2
  unfold Builtin.SmallTypes.nextOf
  refine wpAny_bind (wpAny_callSpecial?_slot (name := Str.ofString "__next__") ty F.slot_zip_next (wpAny_call_entry F.slot_zip_next ty F.entry_zip_next ?_ (F.args_zip_next_1 _)))
  have h0 := Z.at_
  cases held with
  | none =>
    have hz : IsZip _ z TI TO .none := h0
    obtain ⟨x0, y0, hTO⟩ := Z.out
    refine zip_next_end hh D hz hp hTO h1 h2 l1 l2 none_ fun hq e a7 he => q hq e (fun c o hc k => ?_) he
    simp only [List.mem_cons, List.not_mem_nil, or_false, not_or] at hc
    exact a7 c o hc.1 hc.2.1 hc.2.2.1 hc.2.2.2 k
  | some T =>
    obtain ⟨f, hz⟩ := h0
    obtain ⟨oT, hT⟩ := alive T rfl
    refine zip_next_end_held hh D hz hT hp h1 h2 l1 l2 none_ fun hq e a7 he => q hq e (fun c o hc k => ?_) he
    simp only [List.mem_cons, List.not_mem_nil, or_false, not_or] at hc
    exact a7 c o hc.1 hc.2.2.1 hc.2.2.2 k
/-- one turn of an enumerate, whatever it goes through -/
theorem enum_turn {elts : List Expr} {kk : Nat} {tpos : Pos} {en it : Addr} {c : Int} {prev : Value} {G : Value → Heap → Nat → Prop} {Q : Option Value → Shared → Prop}
    (here : IsEnum s.heap en it c prev)
    (inner : wpAny (model prog w) A.in1 (Builtin.SmallTypes.nextOf (.ref it)) (fun x s1 => ∃ h1 tk, s1 = { s with heap := h1, toks := tk } ∧ IsEnum h1 en it c prev ∧ G x h1 tk) (fun _ _ => False) s)
    (fin : ∀ x h1 tk, G x h1 tk → ∀ h2, IsEnumOut h2 en it (c + 1) x h1.objs.size → h2.get? h1.objs.size = some { cls := .type "tuple", data := .seq #[.int c tk, x] } → (∀ b o, b ≠ en → h1.get? b = some o → h2.get? b = some o) → Q (some (.ref h1.objs.size)) { s with heap := h2, toks := tk + 1 }) :
    wpAny (model prog w) A (pyNext (.ref en)) Q E s := by
  have ty : s.TypeIs (.ref en) "enumerate" := ⟨_, here, rfl⟩
  unfold pyNext
  refine wpAny_bind (wpAny_attempt (wpAny_callSpecial?_slot (name := Str.ofString "__next__") ty F.slot_enumerate_next (wpAny_call_entry F.slot_enumerate_next ty F.entry_enumerate_next ?_ (F.args_enumerate_next_1 _))))
  change wpAny _ _ (field (Value.ref en) 2 >>= _) _ _ s
  refine wpAny_bind (wpAny_field (i := 2) here rfl (x := .ref it) rfl ?_)
  refine wpAny_bind (wpAny_mono inner (fun x s1 r1 => ?_) fun _ _ z => z.elim)
  obtain ⟨h1, tk, rfl, here1, g1⟩ := r1
  change wpAny _ _ (field (Value.ref en) 3 >>= _) _ _ _
  refine wpAny_bind (wpAny_field (i := 3) here1 rfl (x := rawInt c) rfl ?_)
  change wpAny _ _ (field (Value.ref en) 4 >>= _) _ _ _
  refine wpAny_bind (wpAny_field (i := 4) here1 rfl (x := .none) rfl ?_)
  change wpAny _ _ (mkInt c >>= _) _ _ _
  refine wpAny_bind (m := mkInt c) (wpAny_mkInt ?_)
  change wpAny _ _ (setField (Value.ref en) 3 (rawInt (c + 1)) >>= _) _ _ _
  refine wpAny_bind (m := setField (.ref en) 3 (rawInt (c + 1))) (wpAny_setField_rec here1 (by simp) fun h2 here2 same2 => ?_)
  replace here2 : IsEnum h2 en it (c + 1) prev := here2
  replace same2 : Heap.SameBut en h1 h2 := same2
  change wpAny _ _ (setField (Value.ref en) 4 Value.none >>= _) _ _ _
  refine wpAny_bind (m := setField (.ref en) 4 .none) (wpAny_setField_rec here2 (by simp) fun h3 here3 same3 => ?_)
  replace here3 : IsEnum h3 en it (c + 1) prev := here3
  replace same3 : Heap.SameBut en h2 h3 := same3
  have size3 : h3.objs.size = h1.objs.size := by rw [same3.1, same2.1]
  change wpAny _ _ (newTuple [Value.int c tk, x] >>= _) _ _ _
  refine wpAny_bind (m := newTuple [.int c tk, x]) (wpAny_newTuple ?_)
  have here4 : IsEnum (h3.push { cls := .type "tuple", data := .seq #[.int c tk, x] }) en it (c + 1) prev := Heap.get?_push_of_some _ here3
  have tup4 : (h3.push { cls := .type "tuple", data := .seq #[.int c tk, x] }).get? h1.objs.size = some { cls := .type "tuple", data := .seq #[.int c tk, x] } := by
    rw [← size3]
    exact Heap.get?_push_size _ rfl
  have keep4 : ∀ b o, b ≠ en → h1.get? b = some o → (h3.push { cls := .type "tuple", data := .seq #[.int c tk, x] }).get? b = some o := fun b o n e => Heap.get?_push_of_some _ (same3.extBut b o n (same2.extBut b o n e))
  have lt1 : en < h1.objs.size := Heap.lt_size here1
  show wpAny _ _ (Builtin.SmallTypes.ownedTupleIsFree (.ref en) >>= _) _ _ _
  rw [size3]
  generalize h3.push { cls := .type "tuple", data := .seq #[.int c tk, x] } = h4 at here4 tup4 keep4
  change wpAny _ _ _ _ _ { s with heap := h4, toks := tk + 1 }
  clear here3 same3 here2 same2 size3 h3 h2
  refine wpAny_bind ?_
  unfold Builtin.SmallTypes.ownedTupleIsFree
  refine wpAny_bind (wpAny_field (i := 0) here4 rfl (x := .none) rfl (wpAny_pure ?_))
  simp only [if_true]
  refine wpAny_bind (wpAny_rule ?_)
  refine wpAny_bind (wpAny_field here4 rfl (x := prev) rfl ?_)
  refine wpAny_bind (wpAny_setField_rec here4 (by simp) fun h5 here5 same5 => ?_)
  replace here5 : IsEnum h5 en it (c + 1) x := here5
  replace same5 : Heap.SameBut en h4 h5 := same5
  refine wpAny_bind ?_
  unfold Builtin.SmallTypes.ownedTupleHandOut
  refine wpAny_bind (wpAny_setField_rec here5 (by simp) fun h6 here6 same6 => ?_)
  replace here6 : IsEnumOut h6 en it (c + 1) x h1.objs.size := here6
  replace same6 : Heap.SameBut en h5 h6 := same6
  refine wpAny_setField_rec here6 (by simp) fun h7 here7 same7 => ?_
  replace here7 : IsEnumOut h7 en it (c + 1) x h1.objs.size := here7
  replace same7 : Heap.SameBut en h6 h7 := same7
  have keep7 : ∀ b o, b ≠ en → h4.get? b = some o → h7.get? b = some o := fun b o n e => same7.extBut b o n (same6.extBut b o n (same5.extBut b o n e))
  exact wpAny_bind (wpAny_letGo (wpAny_pure ⟨_, rfl, wpAny_pure (fin x h1 tk g1 h7 here7 (keep7 _ _ (Nat.ne_of_gt lt1) tup4) fun b o n e => keep7 b o n (keep4 b o n e))⟩))
theorem enum_over {en it : Addr} {c : Int} {prev : Value} {G : Heap → Prop} {Q : Option Value → Shared → Prop}
    (here : IsEnum s.heap en it c prev)
    (inner : ∀ Q2 : Value → Shared → Prop, wpAny (model prog w) A.in1 (Builtin.SmallTypes.nextOf (.ref it)) Q2 (fun ev s1 => ∃ e h1, ev = .ref e ∧ s1 = { s with heap := h1 } ∧ (∃ o, h1.get? e = some o ∧ o.cls = .type "StopIteration") ∧ G h1) s)
    (fin : ∀ h1, G h1 → Q none { s with heap := h1 }) : wpAny (model prog w) A (pyNext (.ref en)) Q E s := by
  have ty : s.TypeIs (.ref en) "enumerate" := ⟨_, here, rfl⟩
  unfold pyNext
  refine wpAny_bind (wpAny_attempt (wpAny_callSpecial?_slot (name := Str.ofString "__next__") ty F.slot_enumerate_next (wpAny_call_entry F.slot_enumerate_next ty F.entry_enumerate_next ?_ (F.args_enumerate_next_1 _))))
  change wpAny _ _ (field (Value.ref en) 2 >>= _) _ _ s
  refine wpAny_bind (wpAny_field (i := 2) here rfl (x := .ref it) rfl ?_)
  refine wpAny_bind (wpAny_mono (inner fun _ _ => False) (fun _ _ z => z.elim) fun ev s1 r1 => ?_)
  obtain ⟨e, h1, rfl, rfl, ⟨o, ho, hc⟩, g1⟩ := r1
  refine wpAny_bind (wpAny_isInstance (T := "StopIteration") (b := true) ⟨o, ho, hc⟩ isSubtype_stop ?_)
  exact wpAny_pure (fin h1 g1)
end
end Pk
namespace Pk
open PySem PySem.Spec PyProof.Rows L2
theorem enum_self_meets {z TI TO : Addr} : Meets (Builtin.«enumerate.__new__» ⟨[.type "enumerate", .ref z], []⟩) (fun _ R s => IsZip s.heap z TI TO .none ∧
      R (.ok (.ret (.ref s.heap.objs.size))) { s with heap := s.heap.push { cls := .type "enumerate", data := .fields #[.none, .bool false, .ref z, rawInt 0, .none, .none] } }) :=
  .of_wp fun prog w A R s hh => by
    obtain ⟨hp, g, d, tk, os⟩ := s
    obtain ⟨hP, hR⟩ := hh
    have subE := sub_enumerate
    have mk : ∀ {A' : Around} {E : Value → Shared → Prop} {Q : Value → Shared → Prop}, Q (.ref z) ⟨hp, g, d, tk, os⟩ → wpAny (model prog w) A' (pyIter (.ref z)) Q E ⟨hp, g, d, tk, os⟩ := fun q => wpAny_pyIter_zip hP q
    wp_walk using mk
    refine wpAny_stack_any fun stk => wpAny_pure ?_
    split
    · rename_i cc _ _ _ _ _
      cases (cc == Value.type "enumerate") <;> (wp_walk using mk; exact ⟨_, rfl, hR⟩)
    · wp_walk using mk
      exact ⟨_, rfl, hR⟩
theorem enum_zip_new {prog : Program} {w : World} {A : Around} {E : Value → Shared → Prop} {s : Shared} {z TI TO : Addr} {Q : Value → Shared → Prop} (hP : IsZip s.heap z TI TO .none)
    (hQ : ∀ h2, IsEnum h2 s.heap.objs.size z 0 .none → (∀ b o, s.heap.get? b = some o → h2.get? b = some o) → Q (.ref s.heap.objs.size) { s with heap := h2 }) :
    wpAny (model prog w) A (call (.type "enumerate") [.ref z]) Q E s := by
  refine callType_new F.called_enumerate (by decide) (F.typeCall_enumerate_1 _) (F.newCall_enumerate_1 _) (fun obj => F.args_object_init_2 obj _) F.entry_enumerate_new enum_self_meets ⟨hP, ?_⟩
  have at_ := Heap.get?_push_size s.heap (o := { cls := .type "enumerate", data := .fields #[.none, .bool false, .ref z, rawInt 0, .none, .none] }) rfl
  exact ⟨⟨_, at_, rfl⟩, hQ _ at_ fun b o y => Heap.get?_push_of_some _ y⟩
/-- for tg in enumerate(zip(e1, e2)), lists: each turn lays a pair and a pair of it; what a turn leaves keeps them -/
def tForEZ (K : PySem.W.Frag) (ta : TA) (g : TG) (tb : TS) : TS := fun D σ H => ta σ H fun vs H1 => ∃ (a b : Addr) (xs ys : List V), vs = [.ref a, .ref b] ∧ SqL K H1 a xs ∧ SqL K H1 b ys ∧
  ∃ W : Nat → Nat → L2.St → Hp → Prop, (∃ m, W 0 m σ H1) ∧ ∀ i m σ H, W i m σ H → SqL K H a xs ∧ SqL K H b ys ∧ (((xs.length ≤ i ∨ ys.length ≤ i) ∧ D.nx σ H) ∨
    ∃ x y, xs[i]? = some x ∧ ys[i]? = some y ∧ ∃ N : L2.St → Hp → Prop, (∀ σ2 H2, N σ2 H2 → ∃ m2, m2 < m ∧ W (i + 1) m2 σ2 H2) ∧
      ∀ T T2, H T = none → (upd H T (.tup [x, y])) T2 = none → g (.ref T2) σ (upd (upd H T (.tup [x, y])) T2 (.tup [.int (i : Nat), .ref T])) fun σ2 H2 =>
        tb { D with nx := fun σ3 H3 => Same (upd (upd H T (.tup [x, y])) T2 (.tup [.int (i : Nat), .ref T])) H3 ∧ N σ3 H3, ct := fun σ3 H3 => Same (upd (upd H T (.tup [x, y])) T2 (.tup [.int (i : Nat), .ref T])) H3 ∧ N σ3 H3, bk := D.nx } σ2 H2)
section
variable {X : Cx}
theorem ps_forEZ {p1 p2 pos1 pos2 pos tpos : Pos} {elts : List Expr} {kk : Nat} {e e2 : Expr} {ta : TA} {body : List Stmt} {g : TG} {tb : TS} (hp : PassesOwn (model X.prog X.w) X.A X.env X.xe) (hc : X.calm = true)
    (ge : Gl X "enumerate") (me : X.mg "enumerate" = none) (gz : Gl X "zip") (mz : X.mg "zip" = none) (ha : PA X [e, e2] ta) (hg : PG X (.Tuple elts kk tpos) g) (hb : PSs X body tb)
    (hs : starEach [e, e2] X.env = (false, eval e X.env) :: starEach [e2] X.env := by rfl) (hpl : (backTo pos2 (starEach [e2] X.env)).any (·.1) = false := by rfl)
    (na : starEach [.Call (.Name "zip" p2) [e, e2] [] pos2] X.env = (false, eval (.Call (.Name "zip" p2) [e, e2] [] pos2) X.env) :: starEach [] X.env := by rfl)
    (fs : ∀ x, foldedSetIterable (.Call (.Name "enumerate" p1) [.Call (.Name "zip" p2) [e, e2] [] pos2] [] pos1) X.env x = pure x := by intro _; rfl) :
    PS X (.For (.Tuple elts kk tpos) (.Call (.Name "enumerate" p1) [.Call (.Name "zip" p2) [e, e2] [] pos2] [] pos1) body [] pos) (tForEZ X.K ta g tb) := ⟨fun pins s σ H D I h => by
  refine wpAny_For (Call_ (ld_blt I ge me boot_enumerate (PyProof.Rows.callWith_type1 (PyProof.Rows.args_cons (Call_ (ld_blt I gz mz PyProof.Rows.boot_zip (PyProof.Rows.callWith_type1 (thn (ha.run pos2 pins s σ H _ I h) fun us s1 k1 => ?_) hs hpl))) na) na))) fs
  obtain ⟨vs, H1, I1, r1, a, b, xs, ys, ev, la, lb, W, ⟨m0, w0⟩, turn⟩ := k1
  subst ev
  cases r1 with
  | cons r rr =>
  cases rr with
  | cons r2 rr =>
  cases rr
  cases r
  cases r2
  obtain ⟨its, rv, q1, _⟩ := I1.list la
  obtain ⟨its2, rv2, q2, _⟩ := I1.list lb
  have lta : a < s1.heap.objs.size := q1.lt
  have ltb : b < s1.heap.objs.size := q2.lt
  have DD := PySem.W.ktu_apart s1.heap.objs.size a b lta ltb
  refine call_zip_2 q1.isList q2.isList fun h1 hz hTI hTO t1 t2 size1 kp1 => PyProof.Rows.args_nil (enum_zip_new hz fun h2 hen kp2 => ?_)
  have I2 : Inv X pins σ H1 { s1 with heap := h2 } := I1.kept (t' := s1.toks) fun b o e => kp2 b o (kp1 b o e)
  have kz := kp2 _ _ hz
  have kTI := kp2 _ _ hTI
  have kTO := kp2 _ _ hTO
  have k1 := t1.at fun o q => kp2 _ o q
  have k2 := t2.at fun o q => kp2 _ o q
  rw [size1] at hen ⊢
  have hen0 : IsEnum h2 (s1.heap.objs.size + 5) (s1.heap.objs.size + 4) 0 .none := hen
  have ft : ∀ c ∈ [s1.heap.objs.size + 5, s1.heap.objs.size + 4, s1.heap.objs.size + 2, s1.heap.objs.size + 3, s1.heap.objs.size, s1.heap.objs.size + 1], FpOk X pins H1 c := fun c hc => by
    have hle : s1.heap.objs.size ≤ c := by
      simp only [List.mem_cons, List.not_mem_nil, or_false] at hc
      omega
    exact I1.fpOk hle (I1.hok.fresh hle)
  have apart : ∀ c ∈ [s1.heap.objs.size + 4, s1.heap.objs.size + 2, s1.heap.objs.size + 3, s1.heap.objs.size, s1.heap.objs.size + 1], c ≠ s1.heap.objs.size + 5 := fun c hc => by
    simp only [List.mem_cons, List.not_mem_nil, or_false] at hc
    omega
  have nab : a ≠ s1.heap.objs.size + 5 ∧ b ≠ s1.heap.objs.size + 5 := ⟨Nat.ne_of_lt (Nat.lt_of_lt_of_le lta (Nat.le_add_right _ _)), Nat.ne_of_lt (Nat.lt_of_lt_of_le ltb (Nat.le_add_right _ _))⟩
  change wpAny _ _ (pyIter (.ref (s1.heap.objs.size + 5))) _ _ _
  generalize s1.heap.objs.size + 5 = en at *
  generalize s1.heap.objs.size + 4 = z at *
  generalize s1.heap.objs.size + 2 = TI at *
  generalize s1.heap.objs.size + 3 = TO at *
  generalize s1.heap.objs.size + 1 = i2 at *
  generalize s1.heap.objs.size = i1 at *
  refine wpAny_pyIter_enum hen0 ?_
  have stat : ∀ {H4 : Hp}, (∀ c ∈ [en, z, TI, TO, i1, i2], H4 c = none) → ∀ c ∈ [en, z, TI, TO, i1, i2], FpOk X pins H4 c := fun hn c hc => ⟨hn c hc, (ft c hc).2⟩
  refine codeAny_forLoop_any (fun n s4 => ∃ i σ4 H4 held, Inv X pins σ4 H4 s4 ∧ (∃ prev, IsEnum s4.heap en z ((i : Nat) : Int) prev) ∧ ZAt s4.heap z TI TO i1 i2 a b i held ∧ (∀ T, held = some T → ∃ us, H4 T = some (.tup us)) ∧ (∀ c ∈ [en, z, TI, TO, i1, i2], H4 c = none) ∧ W i n σ4 H4) ?_ m0
    ⟨0, σ, H1, none, I2, ⟨_, hen0⟩, ⟨kTI, k1, k2, ⟨_, _, kTO⟩, kz⟩, fun _ q => (by cases q), fun c hc => (ft c hc).1, w0⟩
  rintro n s4 ⟨i, σ4, H4, held, I4, ⟨prev, en4⟩, Z4, alive4, fr4, w4⟩
  obtain ⟨la4, lb4, turn4⟩ := turn i n σ4 H4 w4
  obtain ⟨jts, rw1, u1, _⟩ := I4.list la4
  obtain ⟨jts2, rw2, u2, _⟩ := I4.list lb4
  have alive : ∀ T, held = some T → ∃ o, s4.heap.get? T = some o := fun T hT => by
    obtain ⟨us, hu⟩ := alive4 T hT
    obtain ⟨its, _, ⟨o, ho, _⟩, _⟩ := I4.tuple (xs := us) (.inl (.inl hu))
    exact ⟨o, ho⟩
  have hh : X.A.in1.handled = none := I4.ok.hd hc
  have ez : en ≠ z := fun q => apart z (by simp) q.symm
  have sub : ∀ c, c ∉ [en, z, TI, TO, i1, i2] → c ∉ [z, TO, i1, i2] := fun c hc q => hc (by
    simp only [List.mem_cons, List.not_mem_nil, or_false] at q ⊢
    rcases q with q | q | q | q <;> simp [q])
  have en_out : en ∉ [z, TO, i1, i2] := fun q => by
    simp only [List.mem_cons, List.not_mem_nil, or_false] at q
    rcases q with q | q | q | q
    · exact apart z (by simp) q.symm
    · exact apart TO (by simp) q.symm
    · exact apart i1 (by simp) q.symm
    · exact apart i2 (by simp) q.symm
  rcases turn4 with ⟨over, qn⟩ | ⟨x, y, hx, hy, N, hN, step⟩
  · have none_ : jts.toArray[i]? = none ∨ jts2.toArray[i]? = none := by
      have l1 := rw1.length
      have l2 := rw2.length
      rcases over with q | q
      · exact .inl (by simp; omega)
      · exact .inr (by simp; omega)
    refine wpAny_passesOwn hp (enum_over (G := fun h5 => ∀ c o, c ∉ [z, TO, i1, i2] → s4.heap.get? c = some o → h5.get? c = some o) en4 (fun Q2 => zip_over hh DD Z4 alive u1.isList u2.isList none_ fun h5 e k5 st5 => ⟨e, h5, rfl, rfl, st5, k5⟩) fun h5 k5 => ?_)
    exact wpAny_execs_nil ⟨σ4, H4, I4.turnedL (t' := s4.toks) (ch := [en, z, TI, TO, i1, i2]) (fun c o hc e => k5 c o (sub c hc) e) (stat fr4), qn⟩
  · obtain ⟨v1, hv1, rv1⟩ := rw1.get hx
    obtain ⟨v2, hv2, rv2⟩ := rw2.get hy
    refine wpAny_passesOwn hp (enum_turn (elts := elts) (kk := kk) (tpos := tpos) (G := fun u h5 tk => u = .ref s4.heap.objs.size ∧ tk = s4.toks ∧ ZAt h5 z TI TO i1 i2 a b (i + 1) (some (held.getD s4.heap.objs.size)) ∧ IsPair h5 s4.heap.objs.size v1 v2 ∧ h5.objs.size = s4.heap.objs.size + 1 ∧ (∀ c o, c ∉ [z, TO, i1, i2] → s4.heap.get? c = some o → h5.get? c = some o)) en4
      (zip_turn DD Z4 alive u1.isList u2.isList (x := v1) (y := v2) (by simpa using hv1) (by simpa using hv2) fun h5 Z5 p5 size5 k5 => ⟨h5, s4.toks, rfl, k5 _ _ en_out en4, rfl, rfl, Z5, p5, size5, k5⟩) fun u h5 tk g5 h6 out6 tup6 k6 => ?_)
    obtain ⟨rfl, rfl, Z5, p5, size5, k5⟩ := g5
    rw [size5] at out6 tup6 ⊢
    refine wpAny_passesOwn hp (wpAny_letOwnedTupleGo_enum (s := { s4 with heap := h6, toks := s4.toks + 1 }) out6 fun h7 en7 sb => ?_)
    have fresh4 : H4 s4.heap.objs.size = none := I4.hok.fresh (Nat.le_refl _)
    have lts : ∀ c ∈ [en, z, TI, TO, i1, i2], c < s4.heap.objs.size := fun c hc => by
      simp only [List.mem_cons, List.not_mem_nil, or_false] at hc
      obtain ⟨oz, hoz, _⟩ := Z4.ty
      obtain ⟨o1, ho1, _⟩ := Z4.it1
      obtain ⟨o2, ho2, _⟩ := Z4.it2
      rcases hc with q | q | q | q | q | q
      · rw [q]; exact Heap.lt_size en4
      · rw [q]; exact Heap.lt_size hoz
      · rw [q]; exact Heap.lt_size Z4.pair
      · rw [q]
        obtain ⟨_, _, hto⟩ := Z4.out
        exact Heap.lt_size hto
      · rw [q]; exact Heap.lt_size ho1
      · rw [q]; exact Heap.lt_size ho2
    have nf : ∀ c ∈ [en, z, TI, TO, i1, i2], c ≠ s4.heap.objs.size := fun c hc => Nat.ne_of_lt (lts c hc)
    have k57 : ∀ c o, c ≠ en → h5.get? c = some o → h7.get? c = some o := fun c o n e => (sb.2 c n).trans (k6 c o n e)
    have new5 : ObjOk X.prog X.w (upd H4 s4.heap.objs.size (.tup [x, y])) h5 s4.heap.objs.size (.tup [x, y]) := ⟨(by decide : 2 ≤ sizeLine), [v1, v2], .cons rv1 (.cons rv2 .nil), ⟨_, p5, rfl, _, rfl⟩⟩
    have I5 : Inv X pins σ4 (upd H4 s4.heap.objs.size (.tup [x, y])) { s4 with heap := h5, toks := s4.toks } :=
      I4.turnedNew (t' := s4.toks) (ch := [en, z, TI, TO, i1, i2]) (fun c o hc e => k5 c o (sub c hc) e) (stat fr4) (Nat.le_refl _) new5
    have fr5 : ∀ c ∈ [en, z, TI, TO, i1, i2], (upd H4 s4.heap.objs.size (.tup [x, y])) c = none := fun c hc => by
      rw [upd_ne (nf c hc)]
      exact fr4 c hc
    have tup7 : h7.get? (s4.heap.objs.size + 1) = some { cls := .type "tuple", data := .seq #[.int (i : Nat) s4.toks, .ref s4.heap.objs.size] } := (sb.2 _ (Nat.ne_of_gt (Nat.lt_succ_of_lt (lts en (by simp))))).trans tup6
    have new7 : ObjOk X.prog X.w (upd (upd H4 s4.heap.objs.size (.tup [x, y])) (s4.heap.objs.size + 1) (.tup [.int (i : Nat), .ref s4.heap.objs.size])) h7 (s4.heap.objs.size + 1) (.tup [.int (i : Nat), .ref s4.heap.objs.size]) :=
      ⟨(by decide : 2 ≤ sizeLine), [.int (i : Nat) s4.toks, .ref s4.heap.objs.size], .cons ⟨_, rfl⟩ (.cons rfl .nil), ⟨_, tup7, rfl, _, rfl⟩⟩
    have I7 : Inv X pins σ4 (upd (upd H4 s4.heap.objs.size (.tup [x, y])) (s4.heap.objs.size + 1) (.tup [.int (i : Nat), .ref s4.heap.objs.size])) { s4 with heap := h7, toks := s4.toks + 1 } :=
      I5.turnedNew (t' := s4.toks + 1) (ch := [en]) (fun c o hc e => k57 c o (fun q => hc (by simp [q])) e) (fun c hc => stat fr5 c (by simp only [List.mem_cons, List.not_mem_nil, or_false] at hc; simp [hc])) (Nat.le_of_eq size5) new7
    have fr7 : ∀ c ∈ [en, z, TI, TO, i1, i2], (upd (upd H4 s4.heap.objs.size (.tup [x, y])) (s4.heap.objs.size + 1) (.tup [.int (i : Nat), .ref s4.heap.objs.size])) c = none := fun c hc => by
      rw [upd_ne (Nat.ne_of_lt (Nat.lt_succ_of_lt (lts c hc)))]
      exact fr5 c hc
    have fresh5 : (upd H4 s4.heap.objs.size (.tup [x, y])) (s4.heap.objs.size + 1) = none := I5.hok.fresh (Nat.le_of_eq size5)
    have nTI : TI ≠ en := apart TI (by simp)
    have n1 : i1 ≠ en := apart i1 (by simp)
    have n2 : i2 ≠ en := apart i2 (by simp)
    have nz : z ≠ en := apart z (by simp)
    have nO : TO ≠ en := apart TO (by simp)
    have Z7 : ZAt h7 z TI TO i1 i2 a b (i + 1) (some (held.getD s4.heap.objs.size)) := ⟨k57 _ _ nTI Z5.pair, Z5.it1.at fun o q => k57 _ o n1 q, Z5.it2.at fun o q => k57 _ o n2 q, let ⟨_, _, q⟩ := Z5.out; ⟨_, _, k57 _ _ nO q⟩, let ⟨f, q⟩ := Z5.at_; ⟨f, k57 _ _ nz q⟩⟩
    have en7' : IsEnum h7 en z ((i + 1 : Nat) : Int) (.ref s4.heap.objs.size) := by
      rw [Int.natCast_succ]
      exact en7
    have alive7 : ∀ T, some (held.getD s4.heap.objs.size) = some T → ∃ us, (upd (upd H4 s4.heap.objs.size (.tup [x, y])) (s4.heap.objs.size + 1) (.tup [.int (i : Nat), .ref s4.heap.objs.size])) T = some (.tup us) := fun T hT => by
      have s57 : Same (upd H4 s4.heap.objs.size (.tup [x, y])) (upd (upd H4 s4.heap.objs.size (.tup [x, y])) (s4.heap.objs.size + 1) (.tup [.int (i : Nat), .ref s4.heap.objs.size])) := fun c o e => by
        rw [upd_ne (ne_of_none e fresh5)]
        exact e
      have s45 : Same H4 (upd H4 s4.heap.objs.size (.tup [x, y])) := fun c o e => by
        rw [upd_ne (ne_of_none e fresh4)]
        exact e
      cases held with
      | none =>
        cases hT
        exact ⟨_, s57 _ _ upd_same⟩
      | some T0 =>
        cases hT
        obtain ⟨us, hu⟩ := alive4 T0 rfl
        exact ⟨us, s57 _ _ (s45 _ _ hu)⟩
    have obj7 : ∀ c ∈ [en, z, TI, TO, i1, i2], ∃ o, h7.get? c = some o ∧ ∀ v, o.data ≠ .cell v := fun c hc => by
      obtain ⟨f, hz7⟩ := Z7.at_
      obtain ⟨_, _, hO7⟩ := Z7.out
      obtain ⟨o1, e1, _, d1⟩ := Z7.it1
      obtain ⟨o2, e2, _, d2⟩ := Z7.it2
      simp only [List.mem_cons, List.not_mem_nil, or_false] at hc
      rcases hc with q | q | q | q | q | q <;> rw [q]
      · exact ⟨_, en7', fun v q => nomatch q⟩
      · exact ⟨_, hz7, fun v q => nomatch q⟩
      · exact ⟨_, Z7.pair, fun v q => nomatch q⟩
      · exact ⟨_, hO7, fun v q => nomatch q⟩
      · exact ⟨o1, e1, fun v q => by rw [d1] at q; cases q⟩
      · exact ⟨o2, e2, fun v q => by rw [d2] at q; cases q⟩
    have I7p := I7.pinned (stat fr7) obj7
    refine wpAny_passesOwn hp (thn (hg.run _ _ σ4 _ (.ref (s4.heap.objs.size + 1)) _ _ I7p rfl (step s4.heap.objs.size (s4.heap.objs.size + 1) fresh4 fresh5)) fun _ s8 ⟨σ8, H8, I8, q8⟩ => ?_)
    refine wpAny_passesOwn hp (thn (hb.run _ s8 σ8 H8 _ I8 q8) fun f s9 q9 => ?_)
    have again : ∀ {σ9 : L2.St} {H9 : Hp}, Inv X (pins ++ pinsAt [en, z, TI, TO, i1, i2] h7) σ9 H9 s9 → Same (upd (upd H4 s4.heap.objs.size (.tup [x, y])) (s4.heap.objs.size + 1) (.tup [.int (i : Nat), .ref s4.heap.objs.size])) H9 ∧ N σ9 H9 →
        ∃ m, m < n ∧ ∃ i σ4 H4 held, Inv X pins σ4 H4 s9 ∧ (∃ prev, IsEnum s9.heap en z ((i : Nat) : Int) prev) ∧ ZAt s9.heap z TI TO i1 i2 a b i held ∧ (∀ T, held = some T → ∃ us, H4 T = some (.tup us)) ∧ (∀ c ∈ [en, z, TI, TO, i1, i2], H4 c = none) ∧ W i m σ4 H4 := fun {σ9 H9} I9 n9 => by
      obtain ⟨m9, hm, w9⟩ := hN σ9 H9 n9.2
      have pn : ∀ c ∈ [en, z, TI, TO, i1, i2], ∀ o, h7.get? c = some o → s9.heap.get? c = some o := fun c hc o e => (I9.pin (c, o) (List.mem_append_right _ (List.mem_append_right _ (mem_pinsAt hc e)))).1
      refine ⟨m9, hm, i + 1, σ9, H9, some (held.getD s4.heap.objs.size), I9.unpinned, ⟨_, pn en (by simp) _ en7'⟩, ⟨pn TI (by simp) _ Z7.pair, Z7.it1.at fun o q => pn i1 (by simp) o q, Z7.it2.at fun o q => pn i2 (by simp) o q, let ⟨_, _, q⟩ := Z7.out; ⟨_, _, pn TO (by simp) _ q⟩, let ⟨f, q⟩ := Z7.at_; ⟨f, pn z (by simp) _ q⟩⟩, fun T hT => ?_, fun c hc => ?_, w9⟩
      · obtain ⟨us, hu⟩ := alive7 T hT
        exact ⟨us, n9.1 _ _ hu⟩
      · obtain ⟨o, e, d⟩ := obj7 c hc
        exact (I9.pin (c, o) (List.mem_append_right _ (List.mem_append_right _ (mem_pinsAt hc e)))).2.1
    cases f with
    | next => obtain ⟨σ9, H9, I9, n9⟩ := q9; exact again I9 n9
    | cont => obtain ⟨σ9, H9, I9, n9⟩ := q9; exact again I9 n9
    | brk => obtain ⟨σ9, H9, I9, q9⟩ := q9; exact ⟨σ9, H9, I9.unpinned, q9⟩
    | ret v => obtain ⟨x9, σ9, H9, I9, r9, q9⟩ := q9; exact ⟨x9, σ9, H9, I9.unpinned, r9, q9⟩⟩
end
end Pk
/-! ## Texts in plain Lean: steps, sizes, the keys of all places -/
namespace Pk
open PySem L2
def sL (l : List Nat) : Str := ⟨l.toArray⟩
theorem sL_len (l : List Nat) : (sL l).length = l.length := by simp [sL, Str.length]
theorem sL_app (a b : List Nat) : sL a ++ sL b = sL (a ++ b) := by
  show Str.append (sL a) (sL b) = _
  simp [sL, Str.append]
theorem sL_inj {a b : List Nat} : sL a = sL b ↔ a = b := by
  constructor
  · intro h
    have h1 := congrArg (fun z : Str => z.cps.toList) h
    simpa [sL] using h1
  · intro h
    rw [h]
theorem sL_of (z : Str) : z = sL z.cps.toList := by cases z; simp [sL]
def isLet (c : Nat) : Bool := decide (97 ≤ c) && decide (c ≤ 122)
inductive Stp where
  | wr (w : List Nat)
  | pa (f l t : Nat)
  deriving DecidableEq
namespace Stp
/-- keys that are typed -/
def ks : Stp → Nat
  | wr w => w.length
  | pa _ _ _ => 0
/-- places that are added -/
def gr : Stp → Nat
  | wr w => w.length
  | pa f l t => (l + 1 - f) * t
/-- letters that are typed -/
def ty : Stp → List Nat
  | wr w => w
  | pa _ _ _ => []
def ok (s : Nat) : Stp → Bool
  | wr w => decide (1 ≤ w.length) && decide (w.length ≤ 20) && w.all isLet
  | pa f l t => decide (f ≤ l) && decide (l < s) && decide (1 ≤ t) && decide (t ≤ 1000000000)
end Stp
def sz (st : List Stp) : Nat := (st.map Stp.gr).sum
def nk (st : List Stp) : Nat := (st.map Stp.ks).sum
def typed (st : List Stp) : List Nat := st.flatMap Stp.ty
theorem sz_cons (x : Stp) (r : List Stp) : sz (x :: r) = x.gr + sz r := by simp [sz]
theorem sz_app (a b : List Stp) : sz (a ++ b) = sz a + sz b := by simp [sz]
theorem nk_app (a b : List Stp) : nk (a ++ b) = nk a + nk b := by simp [nk]
theorem typed_app (a b : List Stp) : typed (a ++ b) = typed a ++ typed b := by simp [typed]
theorem typed_len (st : List Stp) : (typed st).length = nk st := by
  induction st with
  | nil => rfl
  | cons x r ih =>
    have h : (x.ty).length = x.ks := by cases x <;> rfl
    simp only [typed, List.flatMap_cons, List.length_append, h, nk, List.map_cons, List.sum_cons] at ih ⊢
    rw [ih]
/-- every step is one where it stands, and the text is not too long behind it -/
def Goes (most : Nat) : Nat → List Stp → Prop
  | _, [] => True
  | s, x :: r => x.ok s = true ∧ s + x.gr ≤ most ∧ Goes most (s + x.gr) r
theorem goes_app {most : Nat} : ∀ {s : Nat} {a b : List Stp}, Goes most s (a ++ b) ↔ Goes most s a ∧ Goes most (s + sz a) b
  | s, [], b => by simp [Goes, sz]
  | s, x :: a, b => by
    show (x.ok s = true ∧ s + x.gr ≤ most ∧ Goes most (s + x.gr) (a ++ b)) ↔ (x.ok s = true ∧ s + x.gr ≤ most ∧ Goes most (s + x.gr) a) ∧ _
    rw [goes_app (a := a) (b := b), sz_cons, Nat.add_assoc]
    constructor
    · rintro ⟨h1, h2, h3, h4⟩; exact ⟨⟨h1, h2, h3⟩, h4⟩
    · rintro ⟨⟨h1, h2, h3⟩, h4⟩; exact ⟨h1, h2, h3, h4⟩
theorem goes_at {most : Nat} {st : List Stp} {i : Nat} {x : Stp} (h : Goes most 0 st) (e : st[i]? = some x) : x.ok (sz (st.take i)) = true ∧ sz (st.take i) + x.gr ≤ most := by
  have hlt : i < st.length := (List.getElem?_eq_some_iff.mp e).1
  have hd : st = st.take i ++ st.drop i := (List.take_append_drop i st).symm
  have hx : st.drop i = x :: st.drop (i + 1) := by
    rw [List.drop_eq_getElem_cons hlt]
    have := (List.getElem?_eq_some_iff.mp e).2
    rw [this]
  rw [hx] at hd
  rw [hd] at h
  have h2 := (goes_app.mp h).2
  rw [Nat.zero_add] at h2
  exact ⟨h2.1, h2.2.1⟩
theorem goes_mono {m n : Nat} (hmn : m ≤ n) : ∀ {s : Nat} {a : List Stp}, Goes m s a → Goes n s a
  | _, [], _ => trivial
  | _, _ :: _, h => ⟨h.1, Nat.le_trans h.2.1 hmn, goes_mono hmn h.2.2⟩
theorem goes_sz {most : Nat} : ∀ {s : Nat} {a : List Stp}, Goes most s a → a ≠ [] → s + sz a ≤ most
  | s, [], _, h => absurd rfl h
  | s, [x], h, _ => by rw [sz_cons]; simpa [sz] using h.2.1
  | s, x :: y :: r, h, _ => by
    have := goes_sz h.2.2 (by simp)
    rw [sz_cons]
    omega
theorem ks_le {s : Nat} {x : Stp} (h : x.ok s = true) : x.ks ≤ 20 := by
  cases x with
  | wr w => simp [Stp.ok] at h; exact h.1.2
  | pa f l t => exact Nat.zero_le _
theorem nk_le {most : Nat} : ∀ {s : Nat} {a : List Stp}, Goes most s a → nk a ≤ 20 * a.length
  | _, [], _ => by simp [nk]
  | s, x :: r, h => by
    have h1 := ks_le h.1
    have h2 := nk_le h.2.2
    simp only [nk, List.map_cons, List.sum_cons, List.length_cons] at h2 ⊢
    omega
theorem take_succ {α : Type} {l : List α} {i : Nat} {x : α} (e : l[i]? = some x) : l.take (i + 1) = l.take i ++ [x] := by
  rw [List.take_add_one, e]
  rfl
/-! ### the keys of all places -/
def exF (E : List Nat) (n : Nat) : List Stp → List Nat
  | [] => E
  | .wr w :: r => exF (E ++ List.range' n w.length) (n + w.length) r
  | .pa f l t :: r => exF (E ++ (List.replicate t ((E.drop f).take (l + 1 - f))).flatten) n r
def ex (st : List Stp) : List Nat := exF [] 0 st
/-- one more step -/
def ex1 (E : List Nat) (n : Nat) : Stp → List Nat
  | .wr w => E ++ List.range' n w.length
  | .pa f l t => E ++ (List.replicate t ((E.drop f).take (l + 1 - f))).flatten
theorem exF_app : ∀ (E : List Nat) (n : Nat) (a b : List Stp), exF E n (a ++ b) = exF (exF E n a) (n + nk a) b
  | E, n, [], b => by simp [exF, nk]
  | E, n, .wr w :: a, b => by
    show exF _ _ (a ++ b) = _
    rw [exF_app _ _ a b]
    simp [exF, nk, Stp.ks, Nat.add_assoc]
  | E, n, .pa f l t :: a, b => by
    show exF _ _ (a ++ b) = _
    rw [exF_app _ _ a b]
    simp [exF, nk, Stp.ks]
theorem ex_snoc (st : List Stp) (x : Stp) : ex (st ++ [x]) = ex1 (ex st) (nk st) x := by
  unfold ex
  rw [exF_app, Nat.zero_add]
  cases x <;> rfl
theorem ex1_pre (E : List Nat) (n : Nat) (x : Stp) : ∃ F, ex1 E n x = E ++ F := by
  cases x <;> exact ⟨_, rfl⟩
theorem ex1_len {E : List Nat} {n : Nat} {x : Stp} (h : x.ok E.length = true) : (ex1 E n x).length = E.length + x.gr := by
  cases x with
  | wr w => simp [ex1, Stp.gr]
  | pa f l t =>
    simp [Stp.ok] at h
    have e : min (l + 1 - f) (E.length - f) = l + 1 - f := by omega
    simp [ex1, Stp.gr, e, Nat.mul_comm]
theorem ex_len {most : Nat} (st : List Stp) (h : Goes most 0 st) : (ex st).length = sz st := by
  have key : ∀ k, k ≤ st.length → (ex (st.take k)).length = sz (st.take k) := by
    intro k
    induction k with
    | zero => intro _; rfl
    | succ k ih =>
      intro hk
      have e : st[k]? = some (st[k]'(by omega)) := List.getElem?_eq_getElem (by omega)
      have ih := ih (by omega)
      obtain ⟨o, _⟩ := goes_at h e
      rw [take_succ e, ex_snoc, sz_app, ex1_len (by rw [ih]; exact o), ih, sz_cons]
      simp [sz]
  have := key st.length (Nat.le_refl _)
  rwa [List.take_length] at this
theorem goes_take {most : Nat} {st : List Stp} (h : Goes most 0 st) (k : Nat) : Goes most 0 (st.take k) := by
  rw [← List.take_append_drop k st] at h
  exact (goes_app.mp h).1
theorem exF_pre : ∀ (E : List Nat) (n : Nat) (b : List Stp), ∃ F, exF E n b = E ++ F
  | E, n, [] => ⟨[], by simp [exF]⟩
  | E, n, .wr w :: r => by
    obtain ⟨F, h⟩ := exF_pre (E ++ List.range' n w.length) (n + w.length) r
    exact ⟨_, by show exF _ _ r = _; rw [h, List.append_assoc]⟩
  | E, n, .pa f l t :: r => by
    obtain ⟨F, h⟩ := exF_pre (E ++ (List.replicate t ((E.drop f).take (l + 1 - f))).flatten) n r
    exact ⟨_, by show exF _ _ r = _; rw [h, List.append_assoc]⟩
/-- the keys ahead of a step stay -/
theorem ex_pre (a b : List Stp) : ∃ F, ex (a ++ b) = ex a ++ F := by
  unfold ex
  rw [exF_app]
  exact exF_pre _ _ b
theorem ex_at_pre {most : Nat} {st : List Stp} {k p : Nat} (h : Goes most 0 st) (hp : p < sz (st.take k)) : (ex st)[p]? = (ex (st.take k))[p]? := by
  obtain ⟨F, e⟩ := ex_pre (st.take k) (st.drop k)
  rw [List.take_append_drop] at e
  rw [e, List.getElem?_append_left (by rw [ex_len _ (goes_take h k)]; exact hp)]
/-- a place that was written -/
theorem ex_wr {most : Nat} {st : List Stp} {k p : Nat} {w : List Nat} (h : Goes most 0 st) (e : st[k]? = some (.wr w)) (h1 : sz (st.take k) ≤ p) (h2 : p < sz (st.take (k + 1))) : (ex st)[p]? = some (nk (st.take k) + (p - sz (st.take k))) := by
  rw [ex_at_pre h h2, take_succ e, ex_snoc]
  have hl := ex_len _ (goes_take h k)
  rw [take_succ e, sz_app, sz_cons] at h2
  simp [sz, Stp.gr] at h2
  have h3 : p - sz (st.take k) < w.length := by simp [sz]; simp [sz] at h1; omega
  show (ex (st.take k) ++ List.range' (nk (st.take k)) w.length)[p]? = _
  rw [List.getElem?_append_right (by rw [hl]; exact h1), hl, List.getElem?_range' h3]
  simp
theorem rep_at (seg : List Nat) : ∀ (t j : Nat), j < seg.length * t → (List.replicate t seg).flatten[j]? = seg[j % seg.length]?
  | 0, j, h => by simp at h
  | t + 1, j, h => by
    rw [List.replicate_succ, List.flatten_cons]
    by_cases hj : j < seg.length
    · rw [List.getElem?_append_left hj, Nat.mod_eq_of_lt hj]
    · have hj' : seg.length ≤ j := by omega
      have hm : j % seg.length = (j - seg.length) % seg.length := Nat.mod_eq_sub_mod hj'
      rw [List.getElem?_append_right hj', hm]
      exact rep_at seg t (j - seg.length) (by rw [Nat.mul_succ] at h; omega)
/-- a place that was pasted -/
theorem ex_pa {most : Nat} {st : List Stp} {k p f l t : Nat} (h : Goes most 0 st) (e : st[k]? = some (.pa f l t)) (h1 : sz (st.take k) ≤ p) (h2 : p < sz (st.take (k + 1))) :
    (ex st)[p]? = (ex st)[f + (p - sz (st.take k)) % (l + 1 - f)]? ∧ f + (p - sz (st.take k)) % (l + 1 - f) < sz (st.take k) := by
  obtain ⟨o, _⟩ := goes_at h e
  simp [Stp.ok] at o
  have hl := ex_len _ (goes_take h k)
  have hm : (p - sz (st.take k)) % (l + 1 - f) < l + 1 - f := Nat.mod_lt _ (by omega)
  have hlt : f + (p - sz (st.take k)) % (l + 1 - f) < sz (st.take k) := by omega
  refine ⟨?_, hlt⟩
  rw [ex_at_pre h h2, ex_at_pre (k := k) h hlt, take_succ e, ex_snoc]
  rw [take_succ e, sz_app, sz_cons] at h2
  have hz : sz ([] : List Stp) = 0 := rfl
  rw [hz, Nat.add_zero] at h2
  have hgr : (Stp.pa f l t).gr = (l + 1 - f) * t := rfl
  rw [hgr] at h2
  have hseg : (((ex (st.take k)).drop f).take (l + 1 - f)).length = l + 1 - f := by
    rw [List.length_take, List.length_drop, hl]
    omega
  show (ex (st.take k) ++ (List.replicate t (((ex (st.take k)).drop f).take (l + 1 - f))).flatten)[p]? = _
  rw [List.getElem?_append_right (by rw [hl]; exact h1), hl, rep_at _ _ _ (by rw [hseg]; omega), hseg, List.getElem?_take_of_lt hm, List.getElem?_drop]
end Pk
/-! ## Texts in the heap -/
namespace Pk
open PySem PySem.Spec PyProof.Rows L2
abbrev Fr := PySem.W.Frag
theorem same_sqT {K : Fr} {H H2 : Hp} {a : Addr} {xs : List V} (e : Same H H2) (h : SqT K H a xs) : SqT K H2 a xs := by
  rcases h with (h | ⟨o, h⟩) | h
  · exact .inl (.inl (e _ _ h))
  · exact .inl (.inr ⟨o, e _ _ h⟩)
  · exact .inr h
theorem same_upd {H : Hp} {p : Addr} {o : HO} (h : H p = none) : Same H (upd H p o) := fun b u e => by
  rw [upd_ne (ne_of_none e h)]
  exact e
/-- all but the object at r stands -/
def But (r : Addr) (H H2 : Hp) : Prop := ∀ b o, b ≠ r → H b = some o → H2 b = some o
theorem But.refl (r : Addr) (H : Hp) : But r H H := fun _ _ _ h => h
theorem But.trans {r : Addr} {H H1 H2 : Hp} (a : But r H H1) (b : But r H1 H2) : But r H H2 := fun c o n h => b c o n (a c o n h)
theorem Same.but {r : Addr} {H H1 : Hp} (a : Same H H1) : But r H H1 := fun c o _ h => a c o h
/-- the values of a step -/
def stV : Stp → List V
  | .wr w => [.str "write", .str (sL w)]
  | .pa f l t => [.str "paste", .int f, .int l, .int t]
structure StepsAt (K : Fr) (H : Hp) (as : List Addr) (st : List Stp) : Prop where
  len : as.length = st.length
  at_ : ∀ (i : Nat) (x : Stp), st[i]? = some x → ∃ a, as[i]? = some a ∧ SqT K H a (stV x)
theorem StepsAt.same {K : Fr} {H H2 : Hp} {as : List Addr} {st : List Stp} (h : StepsAt K H as st) (e : Same H H2) : StepsAt K H2 as st :=
  ⟨h.len, fun i x hx => let ⟨a, h1, h2⟩ := h.at_ i x hx; ⟨a, h1, same_sqT e h2⟩⟩
theorem StepsAt.nil {K : Fr} {H : Hp} : StepsAt K H [] [] := ⟨rfl, fun i x h => by simp at h⟩
theorem StepsAt.snoc {K : Fr} {H : Hp} {as : List Addr} {st : List Stp} {a : Addr} {x : Stp} (h : StepsAt K H as st) (ha : SqT K H a (stV x)) : StepsAt K H (as ++ [a]) (st ++ [x]) := by
  refine ⟨by simp [h.len], fun i y hy => ?_⟩
  by_cases hi : i < st.length
  · rw [List.getElem?_append_left hi] at hy
    obtain ⟨b, h1, h2⟩ := h.at_ i y hy
    exact ⟨b, by rw [List.getElem?_append_left (by rw [h.len]; exact hi)]; exact h1, h2⟩
  · rw [List.getElem?_append_right (by omega)] at hy
    have hi0 : i - st.length = 0 := by
      have := (List.getElem?_eq_some_iff.mp hy).1
      simp at this
      omega
    rw [hi0] at hy
    have e : x = y := by simpa using hy
    subst e
    exact ⟨a, by rw [List.getElem?_append_right (by rw [h.len]; omega), h.len, hi0]; rfl, ha⟩
/-- the fields of a span: where it begins, the keys ahead of it -/
def spF (x : Stp) (s n : Nat) : List (Str × V) := match x with
  | .wr w => [("begin", .int s), ("end", .int (s + w.length : Nat)), ("key", .int n), ("source", .int 0), ("width", .int 0)]
  | .pa f l t => [("begin", .int s), ("end", .int (s + (l + 1 - f) * t : Nat)), ("key", .non), ("source", .int f), ("width", .int (l + 1 - f : Nat))]
structure SpansAt (CS : Addr) (H : Hp) (ss : List Addr) (st : List Stp) : Prop where
  len : ss.length = st.length
  at_ : ∀ (i : Nat) (x : Stp), st[i]? = some x → ∃ a dx, ss[i]? = some a ∧ H a = some (.ins CS dx (spF x (sz (st.take i)) (nk (st.take i))))
theorem SpansAt.same {CS : Addr} {H H2 : Hp} {ss : List Addr} {st : List Stp} (h : SpansAt CS H ss st) (e : Same H H2) : SpansAt CS H2 ss st :=
  ⟨h.len, fun i x hx => let ⟨a, dx, h1, h2⟩ := h.at_ i x hx; ⟨a, dx, h1, e _ _ h2⟩⟩
theorem SpansAt.nil {CS : Addr} {H : Hp} : SpansAt CS H [] [] := ⟨rfl, fun i x h => by simp at h⟩
theorem SpansAt.snoc {CS : Addr} {H : Hp} {ss : List Addr} {st : List Stp} {a dx : Addr} {x : Stp} (h : SpansAt CS H ss st) (ha : H a = some (.ins CS dx (spF x (sz st) (nk st)))) : SpansAt CS H (ss ++ [a]) (st ++ [x]) := by
  refine ⟨by simp [h.len], fun i y hy => ?_⟩
  by_cases hi : i < st.length
  · rw [List.getElem?_append_left hi] at hy
    obtain ⟨b, d, h1, h2⟩ := h.at_ i y hy
    refine ⟨b, d, by rw [List.getElem?_append_left (by rw [h.len]; exact hi)]; exact h1, ?_⟩
    rw [List.take_append_of_le_length (by omega)]
    exact h2
  · rw [List.getElem?_append_right (by omega)] at hy
    have hi0 : i - st.length = 0 := by
      have := (List.getElem?_eq_some_iff.mp hy).1
      simp at this
      omega
    rw [hi0] at hy
    have e : x = y := by simpa using hy
    subst e
    have hi1 : i = st.length := by omega
    refine ⟨a, dx, by rw [List.getElem?_append_right (by rw [h.len]; omega), h.len, hi0]; rfl, ?_⟩
    rw [hi1, List.take_left]
    exact ha
/-- the fields of a text -/
def txF (ts sp : Addr) (st : List Stp) : List (Str × V) := [("_steps", .ref ts), ("spans", .ref sp), ("_size", .int (sz st)), ("_typed", .str (sL (typed st)))]
def most : Nat := 1000000000000000000
/-- the text of the steps st stands at x -/
structure TextAt (K : Fr) (CT CS : Addr) (H : Hp) (x : Addr) (st : List Stp) : Prop where
  good : Goes most 0 st
  few : st.length ≤ 30
  obj : ∃ dx ts sp as ss, H x = some (.ins CT dx (txF ts sp st)) ∧ SqT K H ts (as.map V.ref) ∧ StepsAt K H as st ∧ SqT K H sp (ss.map V.ref) ∧ SpansAt CS H ss st
theorem TextAt.same {K : Fr} {CT CS : Addr} {H H2 : Hp} {x : Addr} {st : List Stp} (h : TextAt K CT CS H x st) (e : Same H H2) : TextAt K CT CS H2 x st := by
  obtain ⟨dx, ts, sp, as, ss, h1, h2, h3, h4, h5⟩ := h.obj
  exact ⟨h.good, h.few, dx, ts, sp, as, ss, e _ _ h1, same_sqT e h2, h3.same e, same_sqT e h4, h5.same e⟩
theorem sz_most {st : List Stp} (h : Goes most 0 st) : sz st ≤ most := by
  cases st with
  | nil => exact Nat.zero_le _
  | cons x r =>
    have := goes_sz h (by simp)
    rwa [Nat.zero_add] at this
end Pk
/-! ## Comprehensions that change nothing; walks -/
namespace Pk
open PySem PySem.Spec PyProof.Rows L2
theorem walk_enumT {K : Fr} {a : Addr} {xs : List V} : Walk (IteT K a) xs.length (fun H => SqT K H a xs) (YPair (fun i => some (.int (i : Nat))) (fun i => xs[i]?)) := by
  refine ⟨fun i _ hi q => ⟨xs, xs[i], q, by simp [hi]⟩, fun _ q => ⟨xs, q, Nat.le_refl _⟩, fun i H v H2 _ q y => ?_⟩
  obtain ⟨T, x, h1, h2, h3, h4⟩ := y
  exact ⟨T, .int (i : Nat), x, h1, h2, h3, rfl, h4 xs q⟩
/-! ### rules told of K by name: for a comprehension's block -/
section
variable {X : Cx}
theorem ixT (K : Fr) (h : X.K = K := by rfl) : IxR X (rIxT K) := h ▸ ix_tup
theorem ixL (K : Fr) (h : X.K = K := by rfl) : IxR X (rIxL K) := h ▸ ix_list
theorem slL (K : Fr) (h : X.K = K := by rfl) : SlR X (rSlL K) := h ▸ sl_list
theorem slT (K : Fr) (h : X.K = K := by rfl) : SlR X (rSlT K) := h ▸ sl_tup
theorem lenQ (K : Fr) (h : X.K = K := by rfl) : CallR X (.builtin "len") (fun xs H Q => ∃ p ys, xs = [.ref p] ∧ (SqL K H p ys ∨ SqT K H p ys) ∧ Q (.int ys.length) H) := h ▸ call_len_seq
theorem fldK (K : Fr) {e : Expr} {f : Str} {ta : TE} {pos : Pos} (ha : PE X e ta) (hb : attributeBase e f X.env (eval e X.env) = eval e X.env := by rfl) (h : X.K = K := by rfl) : PE X (.Attribute e f pos) (tFld K ta f) := by
  subst h
  exact pe_fld ha hb
end
section
variable {J : It} {n : Nat} {G : Hp → Prop} {Y : Nat → Hp → V → Hp → Prop} {g : TG} {te : TE} {tt : TT} {vs : List Nat} {σ : L2.St} {H1 : Hp} {D : Addr} {Qd : Hp → Prop}
/-- the values that a comprehension keeps -/
def keeps (n : Nat) (f : Nat → Bool) (v : Nat → V) : List V := ((List.range n).filter f).map v
theorem keeps_succ (n : Nat) (f : Nat → Bool) (v : Nat → V) : keeps (n + 1) f v = if f n = true then keeps n f v ++ [v n] else keeps n f v := by
  unfold keeps
  rw [List.range_succ, List.filter_append]
  by_cases h : f n = true
  · simp [h]
  · simp [h]
theorem keeps_le (n : Nat) (f : Nat → Bool) (v : Nat → V) : (keeps n f v).length ≤ n := by
  unfold keeps
  rw [List.length_map]
  exact Nat.le_trans (List.length_filter_le _ _) (by simp)
/-- with a test -/
theorem lc_keep (wk : Walk J n G Y) (hD : H1 D = none) (f : Nat → Bool) (v : Nat → V) (hn : n ≤ sizeLine) (hG : ∀ H, Same H1 H → G H)
    (hs : ∀ i x H H2 (N : VK) (N0 : Hp → Prop), i < n → Same H1 H → Y i H x H2 → (f i = true → ∀ H5, Same H H5 → N (v i) H5) → (f i = false → ∀ H5, Same H H5 → N0 H5) →
      g x (wipe σ vs) H2 fun σ2 H3 => wipe σ2 vs = wipe σ vs ∧ tt σ2 H3 fun b H4 => if b = true then te σ2 H4 N else N0 H4)
    (hd : ∀ H, Same H1 H → H D = some (.lst (keeps n f v)) → Qd H) :
    ∃ W : Nat → Nat → Hp → Prop, (∃ m, W 0 m (upd H1 D (.lst []))) ∧ ∀ i m H, W i m H →
      (J.stop i H ∧ Qd H) ∨ (J.go i H ∧ ∃ Nx : Hp → Prop, (∀ H', Nx H' → ∃ m', m' < m ∧ W (i + 1) m' H') ∧ ∀ x H', J.yld i H x H' → g x (wipe σ vs) H' fun σ2 H2 => wipe σ2 vs = wipe σ vs ∧ tt σ2 H2 fun b H3 =>
        if b = true then te σ2 H3 fun y H4 => ∃ acc, H4 D = some (.lst acc) ∧ acc.length < sizeLine ∧ Nx (upd H4 D (.lst (acc ++ [y]))) else Nx H3) := by
  refine lc_it wk (fun i H => Same H1 H ∧ H D = some (.lst (keeps i f v))) ⟨same_upd hD, upd_same⟩ (fun i H _ p => hG H p.1) ?_ fun H p => hd H p.1 p.2
  intro i x H H2 hi p y
  obtain ⟨p1, p2⟩ := p
  refine hs i x H H2 _ _ hi p1 y (fun hb H5 s5 => ?_) fun hb H5 s5 => ?_
  · refine ⟨_, s5 _ _ p2, Nat.lt_of_le_of_lt (keeps_le i f v) (by omega), fun b o e => ?_, ?_⟩
    · by_cases hbD : b = D
      · rw [hbD, hD] at e
        cases e
      · rw [upd_ne hbD]
        exact s5 _ _ (p1 _ _ e)
    · rw [upd_same, keeps_succ, if_pos hb]
  · refine ⟨p1.trans s5, ?_⟩
    rw [s5 _ _ p2, keeps_succ, hb]
    rfl
/-- without a test -/
theorem lc_map (wk : Walk J n G Y) (hD : H1 D = none) (v : Nat → V) (hn : n ≤ sizeLine) (hG : ∀ H, Same H1 H → G H)
    (hs : ∀ i x H H2 (N : VK), i < n → Same H1 H → Y i H x H2 → (∀ H5, Same H H5 → N (v i) H5) → g x (wipe σ vs) H2 fun σ2 H3 => wipe σ2 vs = wipe σ vs ∧ te σ2 H3 N)
    (hd : ∀ H, Same H1 H → H D = some (.lst ((List.range n).map v)) → Qd H) :
    ∃ W : Nat → Nat → Hp → Prop, (∃ m, W 0 m (upd H1 D (.lst []))) ∧ ∀ i m H, W i m H →
      (J.stop i H ∧ Qd H) ∨ (J.go i H ∧ ∃ Nx : Hp → Prop, (∀ H', Nx H' → ∃ m', m' < m ∧ W (i + 1) m' H') ∧ ∀ x H', J.yld i H x H' → g x (wipe σ vs) H' fun σ2 H2 => wipe σ2 vs = wipe σ vs ∧ tYes σ2 H2 fun b H3 =>
        if b = true then te σ2 H3 fun y H4 => ∃ acc, H4 D = some (.lst acc) ∧ acc.length < sizeLine ∧ Nx (upd H4 D (.lst (acc ++ [y]))) else Nx H3) := by
  refine lc_it wk (fun i H => Same H1 H ∧ H D = some (.lst ((List.range i).map v))) ⟨same_upd hD, upd_same⟩ (fun i H _ p => hG H p.1) ?_ fun H p => hd H p.1 p.2
  intro i x H H2 hi p y
  obtain ⟨p1, p2⟩ := p
  refine hs i x H H2 (fun y H4 => ∃ acc, H4 D = some (.lst acc) ∧ acc.length < sizeLine ∧ _) hi p1 y fun H5 s5 => ?_
  refine ⟨_, s5 _ _ p2, by rw [List.length_map, List.length_range]; omega, fun b o e => ?_, ?_⟩
  · by_cases hbD : b = D
    · rw [hbD, hD] at e
      cases e
    · rw [upd_ne hbD]
      exact s5 _ _ (p1 _ _ e)
  · rw [upd_same, List.range_succ, List.map_append]
    rfl
end
end Pk
namespace Pk
open PySem PySem.Spec PyProof.Rows L2
def tCO (C : Addr) (sp : Sp) (tf : TE) (t : TA) : TE := fun σ H Q => tf σ H fun y H1 => ∃ a, y = V.ref a ∧ t σ H1 fun vs H2 => (∃ dx fs, H2 a = some (.ins C dx fs)) ∧ sp (V.ref a :: vs) H2 Q E0
theorem pk_callO {X : Cx} {k : Nat} {C g : Addr} {sp : Sp} {fe e : Expr} {es : List Expr} {tf : TE} {t : TA} {pos : Pos} (hf : PE X fe tf) (c : StX.CallO X.K C g) (G : Kp X.prog X.w X.K X.mg X.base k g sp) (hr : Room k X.A) (ha : PA X (e :: es) t)
    (ht : eval (.Call fe (e :: es) [] pos) X.env = (do callWith pos (← eval fe X.env) [] (backTo pos (starEach (e :: es) X.env)) (backToKw pos (keywordEach [] X.env))) := by rfl)
    (he : starEach (e :: es) X.env = (false, eval e X.env) :: starEach es X.env := by rfl) (hpl : (backTo pos (starEach es X.env)).any (·.1) = false := by rfl) : PE X (.Call fe (e :: es) [] pos) (tCO C sp tf t) := ⟨fun pins s σ H Q I h => by
  refine Call_ (thn (hf.run pins s σ H _ I h) fun u s1 k1 => ?_) ht
  obtain ⟨y, H1, I1, ry, a, ey, q⟩ := k1
  subst ey
  obtain rfl : u = Value.ref a := ry
  refine StX.callO_with (thn (ha.run pos pins s1 σ H1 _ I1 q) fun us s2 k2 => ?_) he hpl
  obtain ⟨vs, H2, I2, r, hi, q2⟩ := k2
  obtain ⟨ox, od, J, hd⟩ := StX.insC_at I2 (.inr hi)
  exact ⟨⟨C, ox, od, J, hd⟩, StX.run_callO c G.fnR hr pass0 I2 (.inr hi) r q2⟩⟩
theorem vals_idx : ∀ (xs : List V) (us : List Value), xs.length = us.length → (∀ (j : Nat) x u, xs[j]? = some x → us[j]? = some u → RelV x u) → Vals xs us
  | [], [], _, _ => .nil
  | [], _ :: _, h, _ => by cases h
  | _ :: _, [], h, _ => by cases h
  | x :: xs, u :: us, h, k => .cons (k 0 x u rfl rfl) (vals_idx xs us (by simpa using h) fun j y v hy hv => k (j + 1) y v hy hv)
/-- list(s), s a text -/
def rListS : List V → Hp → VK → Prop := fun xs H Q => ∃ z : Str, xs = [.str z] ∧ z.length ≤ sizeLine ∧ ∀ l, H l = none → Q (.ref l) (upd H l (.lst (z.cps.toList.map fun c => V.str ⟨#[c]⟩)))
theorem call_listS {X : Cx} (hc : X.calm = true) : CallR X (.type "list") rListS := by
  intro pins s σ H xs us Q I r h
  obtain ⟨z, rfl, hz, q⟩ := h
  obtain ⟨u, rfl, t, rfl⟩ := vals1 r
  refine call_list_str (I.ok.hd hc) z t (fun h1 tk acc c1 hk e hi => ?_) (by rw [sizeLine_eq] at *; exact hz)
  refine ⟨.ref s.heap.objs.size, upd H s.heap.objs.size (.lst (z.cps.toList.map fun c => V.str ⟨#[c]⟩)), I.laid hk (Nat.le_refl _) (show ObjOk X.prog X.w _ _ _ (.lst _) from ⟨?_, acc.toList, c1, ?_, ?_⟩), rfl, q _ (I.hok.fresh (Nat.le_refl _))⟩
  · rw [List.length_map]
    exact hz
  · obtain ⟨h1, h2⟩ := hi
    refine vals_idx _ _ (by simp [h1]) fun j x u hx hu => ?_
    obtain ⟨c, t2, hc2, rfl⟩ := h2 j u (by rw [← hu, Array.getElem?_toList])
    rw [List.getElem?_map, Array.getElem?_toList, hc2] at hx
    cases hx
    exact ⟨t2, rfl⟩
  · rw [Array.toArray_toList]
    exact e
end Pk
namespace Pk
open PySem PySem.W PySem.Calls PyProof.Rows He He5
/-- what isinstance of the class itself asks, beyond its class facts -/
def insB (K : Frag) (C : Addr) : Bool := eqO (findIn K (.ref C) "__class__") (some (some (.builtin "object.__class__"))) && (eqO (specialIn K (.builtin "object.__class__") "__get__") (some (some (.builtin "getset_descriptor.__get__"))) &&
  (decide (takesIn K (.builtin "object.__class__") = some true) && (decide (mroIn K C (.type "object") = some true) && decide (kitOne K (.ref C) (.ref C) = some true))))
theorem ins_ok {K : Frag} {C : Addr} (c : L2.Cls K C) (h : insB K C = true) : C8.InsC K C := by
  obtain ⟨h1, h⟩ := ba h
  obtain ⟨h2, h⟩ := ba h
  obtain ⟨h3, h⟩ := ba h
  obtain ⟨h4, h5⟩ := ba h
  exact ⟨c, eqO_ok h1, eqO_ok h2, of_decide_eq_true h3, of_decide_eq_true h4, of_decide_eq_true h5⟩
end Pk
namespace Pk
open PySem PySem.W PySem.Calls PyProof.Rows He He5
/-- isinstance of the class: of a tuple it says no -/
def insTB (K : Frag) (C : Addr) : Bool := decide (kitOne K (.type "tuple") (.ref C) = some false)
end Pk
/-! ## a[i], x in a, a == b, a != b of an own class -/
namespace Pk
open PySem PySem.Spec PyProof.Rows L2
section
variable {X : Cx} {CX : CXT} {k : Nat} {C f : Addr} {sp : Sp} {E : XK}
theorem pe_getO {a b : Expr} {ta tb : TE} {pos : Pos} (hs : OpF X.K C "__getitem__" f) (F : FnR X.prog X.w X.K X.mg X.base CX k f sp) (hr : Room (k + 1) X.A) (hx : Passes CX X E) (ha : PE X a ta) (hb : PE X b tb)
    (hsl : ∀ o i, subscripted b true o i = runValue (.builtin "lifetime.subscript" ⟨[o, i], []⟩) := by intro _ _; rfl) : PE X (.Subscript a b pos) (tOp (rGetO C sp E) ta tb) := ⟨fun pins s σ H Q I h => by
  refine Subscript_ (binT ha hb I h fun v u s2 x y H2 I2 rx ry q => ?_)
  obtain ⟨a0, da, fa, ex, hA, q⟩ := q
  subst ex
  cases rx
  obtain ⟨mA, O, _⟩ := ins_get I2.hok hA
  obtain ⟨oa, JA, _⟩ := O.look
  obtain ⟨m, hF⟩ := I2.fr
  exact PySem.W.sub_K hF I2.ok.mod.kin JA hs.at_ hs.fi hs.fn (wpAny_call (codeAny_mono (SlX.run_at (us := [.ref a0, u]) (ws := [V.ref a0, y]) F hr.in1 I2.env0.in1 hx I2 (.cons rfl (.cons ry .nil)) q) fun r s3 hq => by
    cases r with
    | error e => exact hq
    | ok fl => cases fl with
      | ret w => exact hq
      | _ => exact hq.elim)) (hsl _ _)⟩
theorem op_inO (hs : OpF X.K C "__contains__" f) (F : FnR X.prog X.w X.K X.mg X.base CX k f sp) (hr : Room k X.A) (hx : Passes CX X E) : OpR X (compareOp .In) (rInO C sp E) := by
  intro pins s σ H x y v u Q I rx ry ⟨a, da, fa, ey, hA, q⟩
  subst ey
  cases ry
  obtain ⟨mA, O, _⟩ := ins_get I.hok hA
  obtain ⟨oa, JA, _⟩ := O.look
  obtain ⟨m, hF⟩ := I.fr
  refine PySem.W.in_K hF I.ok.mod.kin JA hs.at_ hs.fn (wpAny_call (codeAny_mono (run_fnR (us := [.ref a, v]) (vs := [V.ref a, x]) F hr hx I (.cons rfl (.cons rx .nil)) q) fun r s3 hq => ?_))
  cases r with
  | error e => exact hq
  | ok fl => cases fl with
    | ret w =>
      obtain ⟨z, H3, I3, rz, b, eb, q3⟩ := hq
      subst eb
      cases rz
      exact wpAny_truthy_bool ⟨.bl b, H3, I3, rfl, q3⟩
    | _ => exact hq.elim
/-- a == y: y of the class too, or a tuple -/
def rEqO (K : PySem.W.Frag) (C : Addr) (sp : Sp) (E : XK) : R2 := fun x y H Q => ∃ a da fa, x = .ref a ∧ H a = some (.ins C da fa) ∧ ((∃ b db fb, y = .ref b ∧ H b = some (.ins C db fb)) ∨ ∃ t xs, y = .ref t ∧ SqT K H t xs ∧ PySem.W.subIn K (.type "tuple") (.ref C) = some false) ∧ sp [x, y] H Q E
theorem looks_ty {h : Heap} {M : Model} {b : Addr} {o : Obj} {t : Value} (e : h.get? b = some o) (c : o.cls = t) : PySem.W.Looks M h (typeOf (.ref b)) t := fun A Q E s k q => wpAny_typeOf_ref (k _ _ e) (by rw [c]; exact q)
theorem op_eqO (hs : OpF X.K C "__eq__" f) (F : FnR X.prog X.w X.K X.mg X.base CX k f sp) (hr : Room k X.A) (hx : Passes CX X E) : OpR X (compareOp .Eq) (rEqO X.K C sp E) := by
  intro pins s σ H x y v u Q I rx ry ⟨a, da, fa, ex, hA, hy, q⟩
  subst ex
  cases rx
  obtain ⟨mA, O, _⟩ := ins_get I.hok hA
  obtain ⟨oa, JA, _⟩ := O.look
  obtain ⟨m, hF⟩ := I.fr
  have hu : X.A.units < cLine := by have := hr.units; omega
  have run : wpAny (model X.prog X.w) X.A (call (.ref f) [.ref a, u]) (PySem.W.CmpBack (EP X pins σ Q)) X.xe s := wpAny_call (codeAny_mono (run_fnR (us := [.ref a, u]) (vs := [V.ref a, y]) F hr hx I (.cons rfl (.cons ry .nil)) q) fun r s3 hq => by
    cases r with
    | error e => exact hq
    | ok fl => cases fl with
      | ret w => exact cmp_back hq
      | _ => exact hq.elim)
  show wpAny _ _ (richCompare .Eq (.ref a) u) _ _ _
  rcases hy with ⟨b, db, fb, ey, hB⟩ | ⟨t, xs, ey, hT, hsub⟩
  · subst ey
    cases ry
    obtain ⟨mB, O2, _⟩ := ins_get I.hok hB
    obtain ⟨ob, JB, _⟩ := O2.look
    exact PySem.W.cmp_K (op := .Eq) hu hF I.ok.mod.kin JA JB.type (by unfold PySem.W.notFirst; simp) hs.at_ hs.fn run
  · subst ey
    cases ry
    obtain ⟨its, rv, ⟨o, ho, hc, _⟩, _⟩ := I.tuple hT
    exact PySem.W.cmp_K (op := .Eq) hu hF I.ok.mod.kin JA (looks_ty ho hc) (by unfold PySem.W.notFirst; rw [hsub]; simp) hs.at_ hs.fn run
end
end Pk
/-! ## a != b: the class has __eq__ alone -/
namespace Pk
open PySem PySem.Spec PyProof.Rows L2
/-- a built-in slot, asked for if it is bound -/
theorem bound_b {M : Model} {A : Around} {E : Value → Shared → Prop} {s : Shared} {me : Value} {nm : PySem.Str} {id : String} {rest : List Value} {Q : Option Value → Shared → Prop} (sp : PySem.W.Looks M s.heap (specialOf me nm) (some (.builtin id)))
    (hb : bindSpecial (.builtin id) me = pure (.builtin id, [me])) (hc : wpAny M A (call (.builtin id) (me :: rest)) (fun v => Q (some v)) E s) : wpAny M A (callSpecialIfBound? me nm rest) Q E s := by
  simp only [callSpecialIfBound?, bindSpecialIfBound?]
  refine wpAny_holding (wpAny_bind (wpAny_bind (sp.here ?_)))
  simp only [hb]
  refine wpAny_bind (wpAny_askSetting (wpAny_ite ?_))
  have fin : wpAny M A (call (.builtin id) ([me] ++ rest) >>= fun v => pure (some v)) Q E s := wpAny_bind (wpAny_mono hc (fun v s2 z => wpAny_pure z) fun _ _ z => z)
  split
  · exact wpAny_bind (wpAny_pure (wpAny_pure fin))
  · exact wpAny_tryCatch (wpAny_bind (wpAny_pure (wpAny_pure fin)))
section
variable {prog : Program} {w : World} {A : Around} {E : Value → Shared → Prop} {s : Shared} {K : PySem.W.Frag} {x y C f : Addr} {ox oy : Obj} {od od2 : Option Obj} {h0 : Heap} {L : Addr}
theorem ne_entry {Q : PySem.Fin → Shared → Prop} (X : K.In s.heap) (J : PySem.W.InstAt s.heap x ox C od) (hs : OpF K C "__eq__" f) (hu : A.units < cLine)
    (hc : wpAny (model prog w) A (call (.ref f) [.ref x, .ref y]) (fun v s2 => ∃ b, v = .bool b ∧ Q (.done (.ret (.bool (!b)))) s2) E s) : wpAny (model prog w) A (Builtin.«object.__ne__» ⟨[.ref x, .ref y], []⟩) Q E s := by
  obtain ⟨hp, g, d, tk, os⟩ := s
  unfold Builtin.«object.__ne__»
  repeat (first
    | with_reducible refine wpAny_cRoomFor hu ?_
    | (refine wpAny_bind (m := callSpecialIfBound? (.ref x) (Str.ofString "__eq__") [.ref y])
        (PySem.W.ifBound_K X J hs.at_ hs.fn (wpAny_mono hc (fun r s2 z => by
          obtain ⟨b, rfl, q⟩ := z
          repeat (first | exact q | exact wpAny_pure q | exact wpAny_truthy_bool q | (refine wpAny_bind (m := truthy (.bool _)) (wpAny_truthy_bool ?_)) | wp_step)) fun _ _ z => z)))
    | wp_step)
end
/-- a != b, both of the class -/
def rNeO (C : Addr) (sp : Sp) (E : XK) : R2 := fun x y H Q => ∃ a b da fa db fb, x = .ref a ∧ y = .ref b ∧ H a = some (.ins C da fa) ∧ H b = some (.ins C db fb) ∧ sp [x, y] H (fun v H2 => ∃ r, v = .bl r ∧ Q (.bl (!r)) H2) E
section
variable {X : Cx} {CX : CXT} {k : Nat} {C f : Addr} {sp : Sp} {E : XK}
theorem op_neO (hs : OpF X.K C "__eq__" f) (hne : PySem.W.findIn X.K (.ref C) "__ne__" = some (some (.builtin "object.__ne__"))) (hm : PySem.W.mroIn X.K C (.type "object") = some true) (F : FnR X.prog X.w X.K X.mg X.base CX k f sp) (hr : Room (k + 1) X.A) (hx : Passes CX X E) : OpR X (compareOp .NotEq) (rNeO C sp E) := by
  intro pins s σ H x y v u Q I rx ry ⟨a, b, da, fa, db, fb, ex, ey, hA, hB, q⟩
  subst ex ey
  cases rx
  cases ry
  obtain ⟨mA, O, _⟩ := ins_get I.hok hA
  obtain ⟨oa, JA, _⟩ := O.look
  obtain ⟨mB, O2, _⟩ := ins_get I.hok hB
  obtain ⟨ob, JB, _⟩ := O2.look
  have XK := I.kIn
  have hu : X.A.units + 1 < cLine := by have := hr.units; omega
  have run : wpAny (model X.prog X.w) X.A.in1 (call (.ref f) [.ref a, .ref b]) (fun v s2 => ∃ r, v = .bool r ∧ EP X pins σ Q (.bool (!r)) s2) X.xe s := wpAny_call (codeAny_mono (SlX.run_at (us := [.ref a, .ref b]) (ws := [V.ref a, V.ref b]) F hr.in1 I.env0.in1 hx I (.cons rfl (.cons rfl .nil)) q) fun r s3 hq => by
    cases r with
    | error e => exact hq
    | ok fl => cases fl with
      | ret w =>
        obtain ⟨z, H3, I3, rz, r, er, q3⟩ := hq
        subst er
        cases rz
        exact ⟨r, rfl, .bl (!r), H3, I3, rfl, q3⟩
      | _ => exact hq.elim)
  have sub : PySem.W.Looks (model X.prog X.w) s.heap (isInstance (.ref a) (.type "object")) true := JA.type.andThen (PySem.W.looks_mroIn XK hm)
  have spl : PySem.W.Looks (model X.prog X.w) s.heap (specialOf (.ref a) "__ne__") (some (.builtin "object.__ne__")) := JA.type.andThen (PySem.W.looks_findIn XK hne)
  have one : wpAny (model X.prog X.w) X.A (tryCompare (.ref a) "__ne__" (.ref b)) (fun r s2 => ∃ v, r = some v ∧ EP X pins σ Q v s2) X.xe s := by
    unfold tryCompare
    refine wpAny_bind (bound_b spl (PySem.F.slot_object_ne.bind _) (wpAny_call (codeAny_call_builtin PySem.F.slot_object_ne.plain PySem.F.cmpEntry_ne (PySem.W.check_slot PySem.F.cmpKind_ne PySem.F.cmpSplit_ne sub (PySem.F.cmpArgs_ne _ _)
      (ne_entry XK JA hs (show X.A.in1.units < cLine from hu) (wpAny_mono run (fun v s2 z => ?_) fun _ _ z => z))))))
    obtain ⟨r, rfl, q2⟩ := z
    refine ⟨r, rfl, ?_⟩
    exact wpAny_pure ⟨_, rfl, q2⟩
  show wpAny _ _ (richCompare .NotEq (.ref a) (.ref b)) _ _ _
  unfold richCompare
  simp only [oneThing_ref]
  refine wpAny_holding (wpAny_bind (wpAny_cRoomFor (Nat.lt_of_succ_lt hu) ?_))
  rw [cmpInfo_NotEq]
  dsimp only
  refine wpAny_bind (JA.type.here (wpAny_bind (JB.type.here ?_)))
  rw [show (Value.ref C != Value.ref C) = false from by simp]
  simp only [Bool.false_eq_true, if_false]
  refine wpAny_bind (wpAny_pure ?_)
  simp only [Bool.false_eq_true, if_false]
  refine wpAny_bind (wpAny_mono one (fun r s2 z => ?_) fun _ _ z => z)
  obtain ⟨v, rfl, q2⟩ := z
  exact wpAny_pure q2
end
end Pk
/-! ## t[::-1], t a tuple -/
namespace Pk
open PySem PySem.Spec PyProof.Rows L2
theorem adjust_back (n : Nat) : Builtin.Slice.sliceAdjust none none (-1) (n : Int) = ((n : Int) - 1, -1) := by
  unfold Builtin.Slice.sliceAdjust
  simp
theorem places_back (n : Nat) : Builtin.Slice.slicePlaces ((n : Int) - 1) (-1) (-1) = n := by
  unfold Builtin.Slice.slicePlaces
  simp
  omega
theorem fm_congr {α β : Type} {f g : α → Option β} : ∀ {l : List α}, (∀ x ∈ l, f x = g x) → l.filterMap f = l.filterMap g
  | [], _ => rfl
  | a :: r, h => by
    rw [List.filterMap_cons, List.filterMap_cons, h a List.mem_cons_self, fm_congr fun x hx => h x (List.mem_cons_of_mem _ hx)]
theorem pick_back (xs : List Value) : ((List.range xs.length).filterMap fun (m : Nat) => xs.toArray[(((xs.length : Int) - 1) + (m : Int) * (-1)).toNat]?) = xs.reverse := by
  have e : ∀ m ∈ List.range xs.length, xs.toArray[(((xs.length : Int) - 1) + (m : Int) * (-1)).toNat]? = xs.reverse[m]? := fun m hm => by
    rw [List.mem_range] at hm
    have h : (((xs.length : Int) - 1) + (m : Int) * (-1)).toNat = xs.length - 1 - m := by omega
    rw [h, List.getElem?_reverse hm]
    simp
  rw [fm_congr e]
  have hl : xs.length = xs.reverse.length := List.length_reverse.symm
  rw [hl]
  generalize xs.reverse = ys
  refine List.ext_getElem? fun i => ?_
  induction ys generalizing i with
  | nil => rfl
  | cons y r ih =>
    rw [List.length_cons, List.range_succ_eq_map, List.filterMap_cons]
    simp only [List.getElem?_cons_zero, List.filterMap_map]
    cases i with
    | zero => rfl
    | succ i =>
      rw [List.getElem?_cons_succ, List.getElem?_cons_succ]
      exact ih i
section
variable {prog : Program} {w : World} {A : Around} {E : Value → Shared → Prop} {s : Shared}
theorem tuple_back {t sl : Addr} {items : List Value} {vl vu vs : Value} {Q : Value → Shared → Prop} (ht : IsTup s.heap t items.toArray) (hs : s.heap.IsSliceOf sl vl vu vs) (pl : IsPart vl none) (pu : IsPart vu none) (ps : IsPart vs (some (-1)))
    (h : Q (.ref s.heap.objs.size) { s with heap := s.heap.push { cls := .type "tuple", data := .seq items.reverse.toArray } }) (hsz : items.length ≤ sizeLine) : wpAny (model prog w) A (getItem (.ref t) (.ref sl)) Q E s := by
  have hok : sizeOk (.seq items.reverse.toArray) := by
    show items.reverse.toArray.size ≤ sizeLine
    rw [List.size_toArray, List.length_reverse]
    exact hsz
  obtain ⟨os, hos, hcs, hds⟩ := id hs
  have isl : s.TypeIs (.ref sl) "slice" := ⟨os, hos, hcs⟩
  unfold getItem
  try with_reducible refine wpAny_holding ?_
  first | refine wpAny_bind (wpAny_pure ?_) | skip
  refine wpAny_bind (wpAny_sequenceKey ht.typeIs (by decide) ?_)
  refine wpAny_bind (wpAny_callSpecial?_slot (name := Str.ofString "__getitem__") ht.typeIs PyProof.Rows.slot_tuple_getitem (wpAny_call_entry PyProof.Rows.slot_tuple_getitem ht.typeIs entry_tuple_getitem ?_ (args_tuple_getitem _ _)))
  change wpAny _ _ (Builtin.Tuple.tupleItemsOf (Value.ref t) >>= _) _ _ s
  refine wpAny_bind (tupleItemsOf_ ht ?_)
  refine wpAny_bind (wpAny_typeOf isl ?_)
  rw [if_pos (by decide)]
  have app : ∀ {R : Int × Int × Nat → Shared → Prop}, R ((items.length : Int) - 1, -1, items.length) s → wpAny (model prog w) A.in1 (Builtin.Slice.sliceApplied (.ref sl) (pure (items.toArray.size : Int))) R E s := fun {R} q => by
    unfold Builtin.Slice.sliceApplied Builtin.Slice.sliceFields
    refine wpAny_bind (wpAny_bind (wpAny_field hos hds (x := vl) rfl (wpAny_bind (wpAny_field hos hds (x := vu) rfl (wpAny_bind (wpAny_field hos hds (x := vs) rfl (wpAny_pure ?_)))))))
    refine wpAny_bind (HT.slicePart_ ps ?_)
    change wpAny _ _ (if ((-1 : Int) == 0) = true then _ else _) _ _ s
    rw [if_neg (by decide)]
    refine wpAny_bind (HT.slicePart_ pl (wpAny_bind (HT.slicePart_ pu (wpAny_bind (wpAny_pure ?_)))))
    change wpAny _ _ (match Builtin.Slice.sliceAdjust none none (-1) (items.toArray.size : Int) with | (lo, hi) => pure (lo, (-1 : Int), Builtin.Slice.slicePlaces lo hi (-1))) _ _ s
    rw [List.size_toArray, adjust_back]
    change wpAny _ _ (pure ((items.length : Int) - 1, (-1 : Int), Builtin.Slice.slicePlaces ((items.length : Int) - 1) (-1) (-1))) _ _ s
    rw [places_back]
    exact wpAny_pure q
  refine wpAny_bind (app ?_)
  have no : ¬ ((((items.length : Int) - 1) == 0 && (-1 : Int) == 1 && items.length == items.toArray.size) = true) := by
    intro q
    rw [Bool.and_eq_true, Bool.and_eq_true] at q
    exact absurd q.1.2 (by decide)
  change wpAny _ _ (if (((items.length : Int) - 1) == 0 && (-1 : Int) == 1 && items.length == items.toArray.size) = true then _ else _) _ _ s
  rw [if_neg no, pick_back]
  first
    | exact wpAny_bind (m := Builtin.Tuple.tupleExact _) (wpAny_newObj_type (wpAny_pure ⟨_, rfl, wpAny_pure h⟩) hok)
    | exact wpAny_bind (m := Builtin.Tuple.tupleExact _) (wpAny_newObj_type (wpAny_bind (wpAny_pure (wpAny_pure ⟨_, rfl, wpAny_pure h⟩))) hok)
    | exact wpAny_bind (wpAny_bind (m := Builtin.Tuple.tupleExact _) (wpAny_newObj_type (wpAny_pure (wpAny_pure ⟨_, rfl, wpAny_pure h⟩)) hok))
    | exact wpAny_bind (wpAny_bind (m := Builtin.Tuple.tupleExact _) (wpAny_newObj_type (wpAny_pure ⟨_, rfl, wpAny_pure h⟩) hok))
end
def tRevT (K : PySem.W.Frag) (te : TE) : TE := fun σ H Q => te σ H fun x H1 => ∃ a xs, x = .ref a ∧ SqT K H1 a xs ∧ ∀ p, H1 p = none → Q (.ref p) (upd H1 p (.tup xs.reverse))
theorem pe_revT {X : Cx} {e : Expr} {te : TE} {k : Nat} {p1 p2 p3 pos : Pos} (he : PE X e te) : PE X (.Subscript e (.Slice none none (some (.UnaryOp .USub (.Constant (.int 1) k p1) p2)) p3) pos) (tRevT X.K te) := ⟨fun pins s σ H Q I h => by
  refine Subscript_ (thn (he.run pins s σ H _ I h) fun v s1 k1 => ?_)
  obtain ⟨x, H1, I1, r1, a, xs, ex, hx, q⟩ := k1
  subst ex
  cases r1
  have hst : PO X (some (.UnaryOp .USub (.Constant (.int 1) k p1) p2)) (tPart (tUn (rU fun i => .int (-i)) (tC (.int 1)))) := po_some (pe_un un_neg pe_int)
  refine wpAny_Slice (thn (po_none.run pins s1 σ H1 (fun o H2 => o = none ∧ H2 = H1) I1 ⟨rfl, rfl⟩) fun vl s2 k2 => ?_)
  obtain ⟨l, H2, I2, pl, el, e2⟩ := k2
  subst el e2
  refine thn (po_none.run pins s2 σ H2 (fun o H3 => o = none ∧ H3 = H2) I2 ⟨rfl, rfl⟩) fun vu s3 k3 => ?_
  obtain ⟨u, H3, I3, pu, eu, e3⟩ := k3
  subst eu e3
  refine thn (hst.run pins s3 σ H3 (fun o H4 => o = some (-1) ∧ H4 = H3) I3 ⟨1, rfl, -1, rfl, rfl, rfl⟩) fun vs s4 k4 => ?_
  obtain ⟨o, H4, I4, ps, eo, e4⟩ := k4
  subst eo e4
  have I5 : Inv X pins σ H4 { s4 with heap := s4.heap.push { cls := .type "slice", data := .fields #[vl, vu, vs] } } := I4.kept (t' := s4.toks) fun b ob q => Heap.get?_push_of_some _ q
  obtain ⟨its, r, ht, hz⟩ := I5.tuple hx
  have hlen := r.length
  change wpAny (model X.prog X.w) X.A (subscriptTail e (.Slice none none (some (.UnaryOp .USub (.Constant (.int 1) k p1) p2)) p3) (.ref a) (.ref s4.heap.objs.size)) (EP X pins σ Q) X.xe { s4 with heap := s4.heap.push { cls := .type "slice", data := .fields #[vl, vu, vs] } }
  refine tail_any (ops := [.ref a, .ref s4.heap.objs.size]) ht.typeIs (PyProof.Rows.slot_tuple_getitem.lookup) ?_ (by with_unfolding_all rfl)
  refine tuple_back ht (Heap.IsSliceOf.new _ vl vu vs) pl pu ps ?_ (by omega)
  refine ⟨.ref _, _, I5.laid (t' := s4.toks) (o := .tup xs.reverse) (fun b ob q => Heap.get?_push_of_some _ q) (Nat.le_refl _) ?_, rfl, q _ (I5.hok.fresh (Nat.le_refl _))⟩
  exact ⟨by rw [List.length_reverse]; exact hz, _, r.reverse, IsTup.new _ _⟩⟩
end Pk
/-! ## xs[i] += e, a list, i from 0 -/
namespace Pk
open PySem PySem.Spec PyProof.Rows L2
def rGetL (K : PySem.W.Frag) : V → V → Hp → VK → Prop := fun o i H Q => ∃ (p : Addr) (xs : List V) (n : Nat) (z : V), o = .ref p ∧ i = .int (n : Nat) ∧ SqL K H p xs ∧ xs[n]? = some z ∧ Q z H
theorem get_listP {X : Cx} : PGet X (rGetL X.K) := by
  intro pins s σ H o i ov iv Q I ro ri h
  obtain ⟨p, xs, n, z, rfl, rfl, hq, he, q⟩ := h
  cases ro
  obtain ⟨t, rfl⟩ := ri
  obtain ⟨its, r, pl, hz⟩ := I.list hq
  obtain ⟨u, hu, ru⟩ := r.get he
  have hl := r.length
  have hn := line63
  have fin : EP X pins σ Q u s := ⟨z, H, I, ru, q⟩
  have hlt : n < its.length := (List.getElem?_eq_some_iff.mp hu).1
  exact wpAny_getItem_list pl.isList (by omega) (by omega) (by simpa using hu) fin
end Pk
/-! ## Numbers that stand in the order in which they come first -/
namespace Pk
open PySem L2
def InOrd : Nat → List Nat → Prop
  | _, [] => True
  | n, k :: r => k ≤ n ∧ InOrd (if k = n then n + 1 else n) r
def fin : Nat → List Nat → Nat
  | n, [] => n
  | n, k :: r => fin (if k = n then n + 1 else n) r
theorem fin_app : ∀ (n : Nat) (a b : List Nat), fin n (a ++ b) = fin (fin n a) b
  | _, [], _ => rfl
  | n, k :: r, b => fin_app _ r b
theorem inOrd_app : ∀ {n : Nat} {a b : List Nat}, InOrd n a → InOrd (fin n a) b → InOrd n (a ++ b)
  | _, [], _, _, h => h
  | n, k :: r, b, h, h2 => ⟨h.1, inOrd_app h.2 h2⟩
theorem inOrd_left : ∀ {n : Nat} {a b : List Nat}, InOrd n (a ++ b) → InOrd n a ∧ InOrd (fin n a) b
  | _, [], _, h => ⟨trivial, h⟩
  | n, k :: r, b, h => let ⟨h1, h2⟩ := inOrd_left (a := r) h.2; ⟨⟨h.1, h1⟩, h2⟩
theorem ord_range : ∀ (m n : Nat), InOrd n (List.range' n m) ∧ fin n (List.range' n m) = n + m
  | 0, n => ⟨trivial, rfl⟩
  | m + 1, n => by
    obtain ⟨h1, h2⟩ := ord_range m (n + 1)
    rw [List.range'_succ]
    refine ⟨⟨Nat.le_refl _, ?_⟩, ?_⟩
    · rw [if_pos rfl]
      exact h1
    · show fin (if n = n then n + 1 else n) _ = _
      rw [if_pos rfl, h2]
      omega
theorem ord_lt : ∀ {n : Nat} {l : List Nat}, (∀ k ∈ l, k < n) → InOrd n l ∧ fin n l = n
  | _, [], _ => ⟨trivial, rfl⟩
  | n, k :: r, h => by
    have h0 := h k (List.mem_cons_self)
    obtain ⟨h1, h2⟩ := ord_lt (l := r) fun j hj => h j (List.mem_cons_of_mem _ hj)
    have e : (if k = n then n + 1 else n) = n := if_neg (by omega)
    refine ⟨⟨by omega, ?_⟩, ?_⟩
    · rw [e]
      exact h1
    · show fin (if k = n then n + 1 else n) r = n
      rw [e]
      exact h2
theorem exF_ord : ∀ (st : List Stp) (E : List Nat) (n : Nat), InOrd 0 E → fin 0 E = n → (∀ k ∈ E, k < n) → InOrd 0 (exF E n st) ∧ fin 0 (exF E n st) = n + nk st ∧ ∀ k ∈ exF E n st, k < n + nk st
  | [], E, n, h1, h2, h3 => ⟨h1, h2, h3⟩
  | .wr w :: r, E, n, h1, h2, h3 => by
    obtain ⟨g1, g2⟩ := ord_range w.length n
    have e : n + nk (.wr w :: r) = (n + w.length) + nk r := by simp [nk, Stp.ks]; omega
    rw [e]
    refine exF_ord r _ _ (inOrd_app h1 (by rw [h2]; exact g1)) (by rw [fin_app, h2, g2]) fun k hk => ?_
    rcases List.mem_append.mp hk with h | h
    · have := h3 k h
      omega
    · rw [List.mem_range'_1] at h
      omega
  | .pa f l t :: r, E, n, h1, h2, h3 => by
    have e : n + nk (.pa f l t :: r) = n + nk r := by simp [nk, Stp.ks]
    rw [e]
    have hl : ∀ k ∈ (List.replicate t ((E.drop f).take (l + 1 - f))).flatten, k < n := fun k hk => by
      obtain ⟨s, hs, hk⟩ := List.mem_flatten.mp hk
      rw [List.eq_of_mem_replicate hs] at hk
      exact h3 k (List.mem_of_mem_drop (List.mem_of_mem_take hk))
    obtain ⟨g1, g2⟩ := ord_lt hl
    refine exF_ord r _ _ (inOrd_app h1 (by rw [h2]; exact g1)) (by rw [fin_app, h2, g2]) fun k hk => ?_
    rcases List.mem_append.mp hk with h | h
    · exact h3 k h
    · exact hl k h
theorem ex_ord (st : List Stp) : InOrd 0 (ex st) := (exF_ord st [] 0 trivial rfl (fun k h => by simp at h)).1
theorem ex_fin (st : List Stp) : fin 0 (ex st) = nk st := by
  have := (exF_ord st [] 0 trivial rfl (fun k h => by simp at h)).2.1
  rwa [Nat.zero_add] at this
theorem ex_lt (st : List Stp) : ∀ k ∈ ex st, k < nk st := by
  have := (exF_ord st [] 0 trivial rfl (fun k h => by simp at h)).2.2
  intro k hk
  have := this k hk
  omega
theorem fin_le : ∀ (n : Nat) (l : List Nat), n ≤ fin n l
  | n, [] => Nat.le_refl _
  | n, k :: r => by
    show n ≤ fin (if k = n then n + 1 else n) r
    refine Nat.le_trans ?_ (fin_le _ r)
    split <;> omega
theorem fin_mem : ∀ {n : Nat} {l : List Nat}, n < fin n l → fin n l - 1 ∈ l
  | n, [], h => absurd h (Nat.lt_irrefl _)
  | n, k :: r, h => by
    by_cases e : k = n
    · have e2 : fin n (k :: r) = fin (n + 1) r := by
        show fin (if k = n then n + 1 else n) r = _
        rw [if_pos e]
      rw [e2] at h ⊢
      by_cases h2 : n + 1 < fin (n + 1) r
      · exact List.mem_cons_of_mem _ (fin_mem h2)
      · have : fin (n + 1) r = n + 1 := by have := fin_le (n + 1) r; omega
        rw [this, ← e]
        exact List.mem_cons_self
    · have e2 : fin n (k :: r) = fin n r := by
        show fin (if k = n then n + 1 else n) r = _
        rw [if_neg e]
      rw [e2] at h ⊢
      exact List.mem_cons_of_mem _ (fin_mem h)
/-- after the first i numbers: what comes next is at most what was seen -/
theorem ord_at {n : Nat} {l : List Nat} {i k : Nat} (h : InOrd n l) (e : l[i]? = some k) : k ≤ fin n (l.take i) ∧ fin n (l.take (i + 1)) = if k = fin n (l.take i) then fin n (l.take i) + 1 else fin n (l.take i) := by
  have hlt : i < l.length := (List.getElem?_eq_some_iff.mp e).1
  have hx : l.drop i = k :: l.drop (i + 1) := by
    rw [List.drop_eq_getElem_cons hlt]
    have := (List.getElem?_eq_some_iff.mp e).2
    rw [this]
  have h2 := (inOrd_left (a := l.take i) (b := l.drop i) (by rw [List.take_append_drop]; exact h)).2
  rw [hx] at h2
  refine ⟨h2.1, ?_⟩
  rw [take_succ e, fin_app]
  rfl
theorem fin_take_le {n : Nat} (l : List Nat) (i : Nat) : fin n (l.take i) ≤ fin n l := by
  have := fin_app n (l.take i) (l.drop i)
  rw [List.take_append_drop] at this
  rw [this]
  exact fin_le _ _
theorem fin_len : ∀ (n : Nat) (l : List Nat), fin n l ≤ n + l.length
  | n, [] => Nat.le_refl _
  | n, k :: r => by
    have := fin_len (if k = n then n + 1 else n) r
    show fin (if k = n then n + 1 else n) r ≤ _
    rw [List.length_cons]
    split at this <;> split <;> omega
/-- numbers that come in order are below what was seen -/
theorem ord_all_lt {l : List Nat} {k : Nat} (h : InOrd 0 l) (hk : k ∈ l) : k < fin 0 l := by
  obtain ⟨i, hi, rfl⟩ := List.mem_iff_getElem.mp hk
  obtain ⟨h1, h2⟩ := ord_at h (List.getElem?_eq_getElem hi)
  have h3 := fin_take_le (n := 0) l (i + 1)
  rw [h2] at h3
  split at h3 <;> omega
end Pk
/-! ## How often a key stands before a place -/
namespace Pk
open PySem L2
def cnt (st : List Stp) (k p : Nat) : Nat := ((ex st).take p).count k
theorem cnt_zero (st : List Stp) (k : Nat) : cnt st k 0 = 0 := rfl
theorem cnt_mono (st : List Stp) (k : Nat) {p q : Nat} (h : p ≤ q) : cnt st k p ≤ cnt st k q := by
  unfold cnt
  exact List.Sublist.count_le _ (List.take_sublist_take_left h)
/-- repeated parts -/
theorem rep_take (seg : List Nat) : ∀ (t m : Nat), m ≤ seg.length * t → (List.replicate t seg).flatten.take m = (List.replicate (m / seg.length) seg).flatten ++ seg.take (m % seg.length)
  | 0, m, h => by
    have hm : m = 0 := by simpa using h
    subst hm
    simp
  | t + 1, m, h => by
    rcases Nat.eq_zero_or_pos seg.length with h0 | h0
    · have : seg = [] := List.length_eq_zero_iff.mp h0
      subst this
      simp
    by_cases hm : m < seg.length
    · rw [List.replicate_succ, List.flatten_cons, List.take_append_of_le_length (by omega), Nat.div_eq_of_lt hm, Nat.mod_eq_of_lt hm]
      simp
    · have hm2 : seg.length ≤ m := by omega
      have e1 : m / seg.length = (m - seg.length) / seg.length + 1 := by
        rw [Nat.div_eq_sub_div h0 hm2]
      have e2 : m % seg.length = (m - seg.length) % seg.length := Nat.mod_eq_sub_mod hm2
      have ih := rep_take seg t (m - seg.length) (by rw [Nat.mul_succ] at h; omega)
      rw [e1, e2, List.replicate_succ, List.flatten_cons, List.take_append, List.take_of_length_le hm2, ih, List.replicate_succ, List.flatten_cons, List.append_assoc]
theorem rep_count (k : Nat) (seg : List Nat) (n : Nat) : ((List.replicate n seg).flatten).count k = n * seg.count k := by
  induction n with
  | zero => simp
  | succ n ih =>
    rw [List.replicate_succ, List.flatten_cons, List.count_append, ih, Nat.succ_mul]
    omega
theorem part_count (E : List Nat) (k f m : Nat) : ((E.drop f).take m).count k = (E.take (f + m)).count k - (E.take f).count k := by
  have e : E.take (f + m) = E.take f ++ (E.drop f).take m := List.take_add
  rw [e, List.count_append]
  omega
/-- the whole is the part ahead of a step, then what the step adds -/
theorem ex_split {most : Nat} {st : List Stp} {i : Nat} {x : Stp} (h : Goes most 0 st) (e : st[i]? = some x) : ∃ A F, ex st = ex (st.take i) ++ (A ++ F) ∧ ex1 (ex (st.take i)) (nk (st.take i)) x = ex (st.take i) ++ A ∧ A.length = x.gr ∧ (ex (st.take i)).length = sz (st.take i) := by
  have hl := ex_len _ (goes_take h i)
  obtain ⟨ok, _⟩ := goes_at h e
  obtain ⟨A, hA⟩ := ex1_pre (ex (st.take i)) (nk (st.take i)) x
  obtain ⟨F, hF⟩ := ex_pre (st.take (i + 1)) (st.drop (i + 1))
  rw [List.take_append_drop, take_succ e, ex_snoc, hA] at hF
  have hlen := ex1_len (E := ex (st.take i)) (n := nk (st.take i)) (x := x) (by rw [hl]; exact ok)
  rw [hA, List.length_append] at hlen
  exact ⟨A, F, by rw [hF, List.append_assoc], hA, by omega, hl⟩
theorem range_count (k : Nat) : ∀ (m n : Nat), (List.range' n m).count k = if n ≤ k ∧ k < n + m then 1 else 0
  | 0, n => by
    rw [if_neg (by omega)]
    rfl
  | m + 1, n => by
    rw [List.range'_succ, List.count_cons, range_count k m (n + 1)]
    have e : (if (n == k) = true then 1 else 0) = if n = k then 1 else 0 := by simp
    rw [e]
    split <;> split <;> split <;> omega
theorem cnt_wr {most : Nat} {st : List Stp} {i : Nat} {w : List Nat} (h : Goes most 0 st) (e : st[i]? = some (.wr w)) (k m : Nat) (hm : m ≤ w.length) :
    cnt st k (sz (st.take i) + m) = cnt st k (sz (st.take i)) + if nk (st.take i) ≤ k ∧ k < nk (st.take i) + m then 1 else 0 := by
  obtain ⟨A, F, h1, h2, h3, h4⟩ := ex_split h e
  have hA : A = List.range' (nk (st.take i)) w.length := (List.append_cancel_left h2).symm
  unfold cnt
  rw [h1, ← h4, List.take_length_add_append, List.take_left, List.count_append, List.take_append_of_le_length (by rw [h3]; exact hm), hA]
  congr 1
  have e3 : (List.range' (nk (st.take i)) w.length).take m = List.range' (nk (st.take i)) m := by
    refine List.ext_getElem (by simp; omega) fun j h1 h2 => ?_
    simp
  rw [e3]
  exact range_count k m _
theorem cnt_pa {most : Nat} {st : List Stp} {i f l t : Nat} (h : Goes most 0 st) (e : st[i]? = some (.pa f l t)) (k m : Nat) (hm : m ≤ (l + 1 - f) * t) :
    cnt st k (sz (st.take i) + m) = cnt st k (sz (st.take i)) + (m / (l + 1 - f)) * (cnt st k (l + 1) - cnt st k f) + (cnt st k (f + m % (l + 1 - f)) - cnt st k f) := by
  obtain ⟨A, F, h1, h2, h3, h4⟩ := ex_split h e
  obtain ⟨ok, _⟩ := goes_at h e
  simp [Stp.ok] at ok
  have hA : A = (List.replicate t (((ex (st.take i)).drop f).take (l + 1 - f))).flatten := (List.append_cancel_left h2).symm
  have hseg : (((ex (st.take i)).drop f).take (l + 1 - f)).length = l + 1 - f := by
    rw [List.length_take, List.length_drop, h4]
    omega
  have low : ∀ q, q ≤ sz (st.take i) → (ex st).take q = (ex (st.take i)).take q := fun q hq => by
    rw [h1, List.take_append_of_le_length (by omega)]
  have hmod : m % (l + 1 - f) < l + 1 - f := Nat.mod_lt _ (by omega)
  unfold cnt
  rw [low (l + 1) (by omega), low f (by omega), low (f + m % (l + 1 - f)) (by omega)]
  rw [h1, ← h4, List.take_length_add_append, List.take_left, List.count_append, List.take_append_of_le_length (by rw [h3]; exact hm), hA, rep_take _ _ _ (by rw [hseg]; exact hm), hseg, List.count_append, rep_count, part_count, List.take_take, Nat.min_eq_left (by omega), part_count]
  rw [show f + (l + 1 - f) = l + 1 by omega]
  omega
/-- behind the end of a text nothing more stands -/
theorem cnt_all {most : Nat} {st : List Stp} (h : Goes most 0 st) (k : Nat) {p : Nat} (hp : sz st ≤ p) : cnt st k p = (ex st).count k := by
  unfold cnt
  rw [List.take_of_length_le (by rw [ex_len _ h]; exact hp)]
end Pk
/-! ## Weights at places -/
namespace Pk
open PySem L2
abbrev WL := List (Nat × Int)
def kvW (W : WL) : List (Key × V) := W.map fun p => ((.inl (p.1 : Int) : Key), V.int p.2)
def val (st : List Stp) (k : Nat) (W : WL) : Int := (W.map fun p => p.2 * (cnt st k p.1 : Int)).sum
def addW : WL → Nat → Int → WL
  | [], p, w => [(p, w)]
  | q :: r, p, w => if q.1 = p then (q.1, q.2 + w) :: r else q :: addW r p w
def dropW (W : WL) (p : Nat) : WL := W.filter fun q => decide (q.1 ≠ p)
def getW : WL → Nat → Int
  | [], _ => 0
  | q :: r, p => if q.1 = p then q.2 else getW r p
theorem val_cons (st : List Stp) (k : Nat) (q : Nat × Int) (W : WL) : val st k (q :: W) = q.2 * (cnt st k q.1 : Int) + val st k W := by simp [val]
theorem val_add (st : List Stp) (k p : Nat) (w : Int) : ∀ W : WL, val st k (addW W p w) = val st k W + w * (cnt st k p : Int)
  | [] => by simp [addW, val]
  | q :: r => by
    unfold addW
    by_cases h : q.1 = p
    · rw [if_pos h, val_cons, val_cons]
      simp only [h]
      rw [Int.add_mul]
      omega
    · rw [if_neg h, val_cons, val_cons, val_add st k p w r]
      omega
theorem keys_add (p : Nat) (w : Int) : ∀ {W : WL} {q : Nat}, q ∈ (addW W p w).map (·.1) ↔ q ∈ W.map (·.1) ∨ q = p
  | [], q => by simp [addW]
  | a :: r, q => by
    unfold addW
    by_cases h : a.1 = p
    · rw [if_pos h]
      simp only [List.map_cons, List.mem_cons]
      constructor
      · intro z
        exact .inl z
      · rintro (z | z)
        · exact z
        · exact .inl (by rw [z, h])
    · rw [if_neg h]
      simp only [List.map_cons, List.mem_cons, keys_add p w (W := r)]
      constructor
      · rintro (z | z | z)
        · exact .inl (.inl z)
        · exact .inl (.inr z)
        · exact .inr z
      · rintro ((z | z) | z)
        · exact .inl z
        · exact .inr (.inl z)
        · exact .inr (.inr z)
theorem nodup_add (p : Nat) (w : Int) : ∀ {W : WL}, (W.map (·.1)).Nodup → ((addW W p w).map (·.1)).Nodup
  | [], _ => by simp [addW]
  | a :: r, h => by
    unfold addW
    rw [List.map_cons, List.nodup_cons] at h
    by_cases e : a.1 = p
    · rw [if_pos e, List.map_cons, List.nodup_cons]
      exact h
    · rw [if_neg e, List.map_cons, List.nodup_cons]
      refine ⟨fun z => ?_, nodup_add p w h.2⟩
      rcases (keys_add p w).mp z with z | z
      · exact h.1 z
      · exact e z
theorem len_add (p : Nat) (w : Int) : ∀ W : WL, (addW W p w).length ≤ W.length + 1
  | [] => by simp [addW]
  | a :: r => by
    unfold addW
    have := len_add p w r
    split <;> simp <;> omega
theorem drop_out {p : Nat} : ∀ {W : WL}, p ∉ W.map (·.1) → dropW W p = W
  | [], _ => rfl
  | a :: r, h => by
    simp only [List.map_cons, List.mem_cons, not_or] at h
    show (a :: r).filter _ = _
    rw [List.filter_cons, if_pos (decide_eq_true (Ne.symm h.1))]
    exact congrArg (a :: ·) (drop_out h.2)
theorem val_drop (st : List Stp) (k p : Nat) : ∀ {W : WL}, (W.map (·.1)).Nodup → val st k (dropW W p) = val st k W - getW W p * (cnt st k p : Int)
  | [], _ => by simp [dropW, val, getW]
  | a :: r, h => by
    rw [List.map_cons, List.nodup_cons] at h
    unfold getW
    by_cases e : a.1 = p
    · rw [if_pos e]
      have hd : dropW (a :: r) p = r := by
        show (a :: r).filter _ = _
        rw [List.filter_cons, if_neg (by simp [e])]
        exact drop_out (W := r) (by rw [← e]; exact h.1)
      rw [hd, val_cons, e]
      omega
    · rw [if_neg e]
      have hd : dropW (a :: r) p = a :: dropW r p := by
        show (a :: r).filter _ = _
        rw [List.filter_cons, if_pos (by simp [e])]
        rfl
      rw [hd, val_cons, val_cons, val_drop st k p h.2]
      omega
theorem keys_drop {W : WL} {p q : Nat} : q ∈ (dropW W p).map (·.1) ↔ q ∈ W.map (·.1) ∧ q ≠ p := by
  unfold dropW
  constructor
  · intro h
    obtain ⟨a, ha, rfl⟩ := List.mem_map.mp h
    rw [List.mem_filter] at ha
    exact ⟨List.mem_map.mpr ⟨a, ha.1, rfl⟩, of_decide_eq_true ha.2⟩
  · rintro ⟨h, hne⟩
    obtain ⟨a, ha, rfl⟩ := List.mem_map.mp h
    exact List.mem_map.mpr ⟨a, List.mem_filter.mpr ⟨ha, decide_eq_true hne⟩, rfl⟩
theorem nodup_drop {W : WL} (p : Nat) (h : (W.map (·.1)).Nodup) : ((dropW W p).map (·.1)).Nodup := by
  unfold dropW
  exact List.Sublist.nodup (List.filter_sublist.map _) h
/-! ### as dicts -/
theorem valV_kv (p : Nat) : ∀ W : WL, (valV (kvW W) (.inl (p : Int))).getD (.int 0) = .int (getW W p)
  | [] => rfl
  | a :: r => by
    unfold getW
    by_cases e : a.1 = p
    · rw [if_pos e]
      show (valV (((.inl (a.1 : Int) : Key), V.int a.2) :: kvW r) _).getD _ = _
      rw [valV_pos (by simp [e])]
      rfl
    · rw [if_neg e]
      show (valV (((.inl (a.1 : Int) : Key), V.int a.2) :: kvW r) _).getD _ = _
      rw [valV_neg (by simp; omega)]
      exact valV_kv p r
theorem valV_in {p : Nat} : ∀ {W : WL}, p ∈ W.map (·.1) → valV (kvW W) (.inl (p : Int)) = some (.int (getW W p))
  | [], h => by simp at h
  | a :: r, h => by
    unfold getW
    by_cases e : a.1 = p
    · rw [if_pos e]
      show valV (((.inl (a.1 : Int) : Key), V.int a.2) :: kvW r) _ = _
      rw [valV_pos (by simp [e])]
    · rw [if_neg e]
      show valV (((.inl (a.1 : Int) : Key), V.int a.2) :: kvW r) _ = _
      rw [valV_neg (by simp; omega)]
      refine valV_in ?_
      simp only [List.map_cons, List.mem_cons] at h
      exact h.resolve_left (Ne.symm e)
theorem dropK_kv (W : WL) (p : Nat) : dropK (kvW W) (.inl (p : Int)) = kvW (dropW W p) := by
  unfold dropK kvW dropW
  rw [List.filter_map]
  congr 1
  refine List.filter_congr fun a _ => ?_
  simp
  omega
theorem any_kv (W : WL) (p : Nat) : ((kvW W).any fun kv => decide (kv.1 = .inl (p : Int))) = decide (p ∈ W.map (·.1)) := by
  rw [Bool.eq_iff_iff, List.any_eq_true, decide_eq_true_iff]
  constructor
  · rintro ⟨x, hx, e⟩
    obtain ⟨a, ha, rfl⟩ := List.mem_map.mp hx
    have e := of_decide_eq_true e
    simp at e
    exact List.mem_map.mpr ⟨a, ha, by omega⟩
  · intro h
    obtain ⟨a, ha, e⟩ := List.mem_map.mp h
    exact ⟨_, List.mem_map.mpr ⟨a, ha, rfl⟩, by simp [e]⟩
theorem addW_in {p : Nat} {w : Int} : ∀ {W : WL}, (W.map (·.1)).Nodup → p ∈ W.map (·.1) → addW W p w = W.map fun q => if q.1 = p then (q.1, getW W p + w) else q
  | [], _, h => by simp at h
  | a :: r, hn, h => by
    rw [List.map_cons, List.nodup_cons] at hn
    unfold addW getW
    by_cases e : a.1 = p
    · rw [if_pos e, List.map_cons, if_pos e, if_pos e]
      congr 1
      refine (List.map_id r).symm.trans (List.map_congr_left fun q hq => ?_)
      have : q.1 ≠ p := fun z => hn.1 (List.mem_map.mpr ⟨q, hq, by rw [z, e]⟩)
      rw [if_neg this]
      rfl
    · simp only [List.map_cons, List.mem_cons] at h
      rw [if_neg e, List.map_cons, if_neg e, if_neg e, addW_in hn.2 (h.resolve_left (Ne.symm e))]
theorem addW_out {p : Nat} {w : Int} : ∀ {W : WL}, p ∉ W.map (·.1) → addW W p w = W ++ [(p, w)]
  | [], _ => rfl
  | a :: r, h => by
    simp only [List.map_cons, List.mem_cons, not_or] at h
    unfold addW
    rw [if_neg (Ne.symm h.1), addW_out h.2]
    rfl
theorem getW_out {p : Nat} : ∀ {W : WL}, p ∉ W.map (·.1) → getW W p = 0
  | [], _ => rfl
  | a :: r, h => by
    simp only [List.map_cons, List.mem_cons, not_or] at h
    unfold getW
    rw [if_neg (Ne.symm h.1), getW_out h.2]
theorem putK_kv {W : WL} (p : Nat) (w : Int) (hn : (W.map (·.1)).Nodup) : putK (kvW W) (.inl (p : Int)) (.int (getW W p + w)) = kvW (addW W p w) := by
  unfold putK
  rw [any_kv]
  by_cases h : p ∈ W.map (·.1)
  · rw [decide_eq_true h, if_pos rfl, addW_in hn h]
    unfold kvW
    rw [List.map_map, List.map_map]
    refine List.map_congr_left fun q _ => ?_
    simp only [Function.comp]
    by_cases e : q.1 = p
    · rw [if_pos (by simp [e]), if_pos e]
    · rw [if_neg (by simp; omega), if_neg e]
  · rw [decide_eq_false h, if_neg (by decide), addW_out h, getW_out h, Int.zero_add]
    simp [kvW]
end Pk
namespace Pk
open PySem L2
theorem val_zero (st : List Stp) (k : Nat) : ∀ {W : WL}, (∀ q ∈ W.map (·.1), q = 0) → val st k W = 0
  | [], _ => rfl
  | a :: r, h => by
    rw [val_cons, val_zero st k fun q hq => h q (List.mem_cons_of_mem _ hq), h a.1 List.mem_cons_self, cnt_zero]
    simp
theorem nodup_len : ∀ (M : Nat) {l : List Nat}, l.Nodup → (∀ q ∈ l, q < M) → l.length ≤ M
  | 0, l, _, h => by
    cases l with
    | nil => exact Nat.le_refl _
    | cons a r => exact absurd (h a List.mem_cons_self) (by omega)
  | M + 1, l, hn, h => by
    have h1 := nodup_len M (l := l.filter fun q => decide (q ≠ M)) (List.Sublist.nodup List.filter_sublist hn) fun q hq => by
      rw [List.mem_filter] at hq
      have h2 := h q hq.1
      have h3 : q ≠ M := of_decide_eq_true hq.2
      omega
    have h4 : l.length ≤ (l.filter fun q => decide (q ≠ M)).length + 1 := by
      clear h1 h
      induction l with
      | nil => simp
      | cons a r ih =>
        rw [List.nodup_cons] at hn
        by_cases e : a = M
        · have : r.filter (fun q => decide (q ≠ M)) = r := List.filter_eq_self.mpr fun q hq => decide_eq_true fun z => hn.1 (by rw [e, ← z]; exact hq)
          rw [List.filter_cons, if_neg (by simp [e]), this]
          exact Nat.le_refl _
        · rw [List.filter_cons, if_pos (by simp [e]), List.length_cons, List.length_cons]
          have := ih hn.2
          omega
    omega
theorem keeps_filter (l : List Nat) (p : Nat → Bool) (g : Nat → V) : keeps l.length (fun i => p (l.getD i 0)) (fun i => g (l.getD i 0)) = (l.filter p).map g := by
  unfold keeps
  have h : ∀ m, m ≤ l.length → ((List.range m).filter fun i => p (l.getD i 0)).map (fun i => g (l.getD i 0)) = ((l.take m).filter p).map g := by
    intro m
    induction m with
    | zero => intro _; simp
    | succ m ih =>
      intro hm
      have e : l[m]? = some (l[m]'(by omega)) := List.getElem?_eq_getElem (by omega)
      have e2 : l.getD m 0 = l[m]'(by omega) := by rw [List.getD_eq_getElem?_getD, e]; rfl
      rw [List.range_succ, List.filter_append, List.map_append, ih (by omega), take_succ e, List.filter_append, List.map_append]
      congr 1
      rw [List.filter_cons, List.filter_cons, e2]
      split
      · show [g (l.getD m 0)] = [g (l[m]'(by omega))]
        rw [e2]
      · rfl
  have := h l.length (Nat.le_refl _)
  rwa [List.take_length] at this
/-- what a step of the walk back does to the weights: a written span -/
theorem val_wr {st : List Stp} {i : Nat} {w : List Nat} (h : Goes most 0 st) (e : st[i]? = some (.wr w)) {W : WL} (hn : (W.map (·.1)).Nodup) {p m : Nat} (hp : p = sz (st.take i) + m) (hm : m ≤ w.length) (k : Nat) :
    val st k (addW (dropW W p) (sz (st.take i)) (getW W p)) + (if nk (st.take i) ≤ k ∧ k < nk (st.take i) + m then getW W p else 0) = val st k W := by
  rw [val_add, val_drop st k p hn, hp, cnt_wr h e k m hm]
  split <;> simp only [Int.natCast_add, Int.mul_add, Int.natCast_one, Int.mul_one, Int.natCast_zero, Int.mul_zero] <;> omega
theorem val_pa {st : List Stp} {i f l t : Nat} (h : Goes most 0 st) (e : st[i]? = some (.pa f l t)) {W : WL} (hn : (W.map (·.1)).Nodup) {p m : Nat} (hp : p = sz (st.take i) + m) (hm : m ≤ (l + 1 - f) * t) (k : Nat) :
    val st k (addW (addW (addW (addW (dropW W p) (sz (st.take i)) (getW W p)) (l + 1) (((m / (l + 1 - f) : Nat) : Int) * getW W p)) (f + m % (l + 1 - f)) (getW W p)) f (-(((m / (l + 1 - f) : Nat) : Int) + 1) * getW W p)) = val st k W := by
  obtain ⟨ok, _⟩ := goes_at h e
  simp [Stp.ok] at ok
  have h1 := cnt_mono st k (show f ≤ l + 1 by omega)
  have h2 := cnt_mono st k (show f ≤ f + m % (l + 1 - f) by omega)
  rw [val_add, val_add, val_add, val_add, val_drop st k p hn, hp, cnt_pa h e k m hm]
  generalize cnt st k (l + 1) = A at *
  generalize cnt st k f = F at *
  generalize cnt st k (f + m % (l + 1 - f)) = B at *
  generalize cnt st k (sz (st.take i)) = S at *
  generalize m / (l + 1 - f) = c at *
  generalize getW W (sz (st.take i) + m) = x at *
  obtain ⟨a, rfl⟩ : ∃ a, A = F + a := ⟨A - F, by omega⟩
  obtain ⟨b, rfl⟩ : ∃ b, B = F + b := ⟨B - F, by omega⟩
  rw [Nat.add_sub_cancel_left, Nat.add_sub_cancel_left]
  simp only [Int.natCast_add, Int.natCast_mul, Int.mul_add, Int.add_mul, Int.neg_mul, Int.one_mul, Int.mul_assoc, Int.neg_add]
  have e1 : x * ((c : Int) * (a : Int)) = (c : Int) * (x * (a : Int)) := by rw [← Int.mul_assoc, Int.mul_comm x, Int.mul_assoc]
  rw [e1]
  omega
end Pk
namespace Pk
open PySem L2
def cV (N : Nat) (g : Nat → Int) : List V := (List.range N).map fun k => V.int (g k)
theorem cV_len (N : Nat) (g : Nat → Int) : (cV N g).length = N := by simp [cV]
theorem cV_get {N n : Nat} (g : Nat → Int) (h : n < N) : (cV N g)[n]? = some (V.int (g n)) := by simp [cV, h]
theorem cV_set {N j : Nat} (g : Nat → Int) (z : Int) : (cV N g).set j (V.int z) = cV N fun k => if k = j then z else g k := by
  refine List.ext_getElem? fun i => ?_
  rw [List.getElem?_set, cV_len]
  by_cases e : j = i
  · subst e
    rw [if_pos rfl]
    by_cases h : j < N
    · rw [if_pos h, cV_get _ h, if_pos rfl]
    · rw [if_neg h, List.getElem?_eq_none (by rw [cV_len]; omega)]
  · rw [if_neg e]
    by_cases h : i < N
    · rw [cV_get _ h, cV_get _ h, if_neg (Ne.symm e)]
    · rw [List.getElem?_eq_none (by rw [cV_len]; omega), List.getElem?_eq_none (by rw [cV_len]; omega)]
theorem cV_congr {N : Nat} {g h : Nat → Int} (e : ∀ k, k < N → g k = h k) : cV N g = cV N h := by
  unfold cV
  refine List.map_congr_left fun k hk => ?_
  rw [e k (List.mem_range.mp hk)]
theorem rev_at {α : Type} {l : List α} {j : Nat} {x : α} (h : l.reverse[j]? = some x) : j < l.length ∧ l[l.length - 1 - j]? = some x := by
  have hj : j < l.length := by
    have := (List.getElem?_eq_some_iff.mp h).1
    rwa [List.length_reverse] at this
  rw [List.getElem?_reverse hj] at h
  exact ⟨hj, h⟩
end Pk
/-! ## Often wanted: divmod of great numbers, tests, heaps -/
namespace Pk
open PySem PySem.Spec PyProof.Rows L2
theorem b_divmod : bootBuiltins "divmod" = some (.builtin "divmod") := by decide +kernel
theorem divp {i j : Int} (h : 0 < j) (hj : j < 18446744073709551616) : CDivP i j := by
  refine ⟨h, PyProof.noPylong_of_log2 ?_⟩
  exact Nat.lt_of_lt_of_le (PySem.Flt.log2_lt_of (k := 64) (by decide) (by omega)) (by decide)
/-! ### tests -/
theorem iT {b : Bool} {A B : Prop} (h : b = true) (a : A) : if b = true then A else B := by rw [if_pos h]; exact a
theorem iF {b : Bool} {A B : Prop} (h : b = false) (a : B) : if b = true then A else B := by rw [h]; exact iteF a
theorem iB {P A B : Prop} [Decidable P] (h1 : P → A) (h2 : ¬ P → B) : if decide P = true then A else B := by
  by_cases h : P
  · rw [decide_eq_true h]; exact iteT (h1 h)
  · rw [decide_eq_false h]; exact iteF (h2 h)
theorem iBn {P A B : Prop} [Decidable P] (h1 : ¬ P → A) (h2 : P → B) : if (!decide P) = true then A else B := by
  by_cases h : P
  · rw [decide_eq_true h]; exact iteF (h2 h)
  · rw [decide_eq_false h]; exact iteT (h1 h)
theorem dT {P : Prop} [Decidable P] (h : P) : decide P = true := decide_eq_true h
theorem dF {P : Prop} [Decidable P] (h : ¬ P) : decide P = false := decide_eq_false h
theorem nT {b : Bool} (h : b = false) : (!b) = true := by rw [h]; rfl
theorem nF {b : Bool} (h : b = true) : (!b) = false := by rw [h]; rfl
theorem vT {i j : Int} (h : i = j) : decide (V.int i = V.int j) = true := decide_eq_true (by rw [h])
theorem vF {i j : Int} (h : ¬ i = j) : decide (V.int i = V.int j) = false := decide_eq_false (fun z => h (by injection z))
theorem sT {i j : Str} (h : i = j) : decide (V.str i = V.str j) = true := decide_eq_true (by rw [h])
theorem sF {i j : Str} (h : ¬ i = j) : decide (V.str i = V.str j) = false := decide_eq_false (fun z => h (by injection z))
theorem iV {i j : Int} {A B : Prop} (h1 : i = j → A) (h2 : ¬ i = j → B) : if decide (V.int i = V.int j) = true then A else B := iB (fun e => h1 (by injection e)) fun e => h2 fun z => e (by rw [z])
theorem iVn {i j : Int} {A B : Prop} (h1 : ¬ i = j → A) (h2 : i = j → B) : if (!decide (V.int i = V.int j)) = true then A else B := iBn (fun e => h1 fun z => e (by rw [z])) fun e => h2 (by injection e)
theorem andT {a b : Bool} (h1 : a = true) (h2 : b = true) : (a && b) = true := by rw [h1, h2]; rfl
theorem andF1 {a b : Bool} (h1 : a = false) : (a && b) = false := by rw [h1]; rfl
theorem andF2 {a b : Bool} (h1 : b = false) : (a && b) = false := by rw [h1, Bool.and_false]
/-! ### heaps -/
theorem but_refl {r : Addr} {H : Hp} : But r H H := But.refl r H
/-- an object of one's own, new since H, is stored again -/
theorem same_own {H H1 : Hp} {p : Addr} {o : HO} (s : Same H H1) (h : H p = none) : Same H (upd H1 p o) := fun b u e => by
  rw [upd_ne (ne_of_none e h)]
  exact s _ _ e
theorem but_own {r : Addr} {H H1 : Hp} {p : Addr} {o : HO} (s : But r H H1) (h : H p = none) : But r H (upd H1 p o) := fun b u n e => by
  rw [upd_ne (ne_of_none e h)]
  exact s _ _ n e
theorem but_set {r : Addr} {H H1 : Hp} {o : HO} (s : But r H H1) : But r H (upd H1 r o) := fun b u n e => by
  rw [upd_ne n]
  exact s _ _ n e
theorem at_upd {H : Hp} {p q : Addr} {o u : HO} (n : p ≠ q) (h : H p = some o) : upd H q u p = some o := by rw [upd_ne n]; exact h
theorem small_ok {n : Nat} (h : n ≤ 16000000) : n ≤ sizeLine := Nat.le_trans h (by decide)
theorem small_lt {n : Nat} (h : n ≤ 16000000) : n < sizeLine := Nat.lt_of_le_of_lt h (by decide)
end Pk
namespace KL
open PySem PySem.Spec PyProof.Rows L2 Pk He
def top (i : Nat) : Stmt := PySem.Challenge.pw_pastekeys_k02_keys_of_places.main.body.getD i (.Pass ⟨0, 0, 0, 0⟩)
abbrev Df (K : Fr) (x q : Str) (st : Stmt) (f : Addr) : Prop := ∃ fd, FunD K x q (defArgs st) (defBody st) (defScope st) [] [] f fd
abbrev CS (K : Fr) : Addr := ga K "Span"
abbrev CT (K : Fr) : Addr := ga K "Text"
structure Tc (K : Fr) (mg : Str → Option Value) : Prop where
  isi : mg "isinstance" = none
  int : mg "int" = none
  bool : mg "bool" = none
  str : mg "str" = none
  tup : mg "tuple" = none
  lst : mg "list" = none
  len : mg "len" = none
  all : mg "all" = none
  rng : mg "range" = none
  enu : mg "enumerate" = none
  zip : mg "zip" = none
  min : mg "min" = none
  max : mg "max" = none
  dm : mg "divmod" = none
  ValueError : mg "ValueError" = none
  TypeError : mg "TypeError" = none
  super : mg "super" = none
  NotImplemented : mg "NotImplemented" = none
  letters : ∃ t, mg "LETTERS" = some (.str "abcdefghijklmnopqrstuvwxyz" t)
  longest : ∃ t, mg "LONGEST_WORD" = some (.int 20 t)
  mostSteps : ∃ t, mg "MOST_STEPS" = some (.int 30 t)
  mostTimes : ∃ t, mg "MOST_TIMES" = some (.int 1000000000 t)
  gIsNumber : mg "is_number" = some (.ref (ga K "is_number"))
  gIsLetter : mg "is_letter" = some (.ref (ga K "is_letter"))
  gIsWord : mg "is_word" = some (.ref (ga K "is_word"))
  gIsStep : mg "is_step" = some (.ref (ga K "is_step"))
  gSpanOf : mg "span_of" = some (.ref (ga K "span_of"))
  gSpansOf : mg "spans_of" = some (.ref (ga K "spans_of"))
  gKeyAt : mg "key_at" = some (.ref (ga K "key_at"))
  gMoved : mg "moved_step" = some (.ref (ga K "moved_step"))
  gTaken : mg "_law_taken" = some (.ref (ga K "_law_taken"))
  gAlike : mg "_law_alike" = some (.ref (ga K "_law_alike"))
  gWord : mg "_law_word" = some (.ref (ga K "_law_word"))
  gSteps : mg "_law_steps" = some (.ref (ga K "_law_steps"))
  gKeys : mg "_law_keys" = some (.ref (ga K "_law_keys"))
  gIsText : mg "_law_is_text" = some (.ref (ga K "_law_is_text"))
  gSum : mg "_law_sum" = some (.ref (ga K "_law_sum"))
  g_law : mg "law" = some (.ref (ga K "law"))
  g_TextError : mg "TextError" = some (.ref (ga K "TextError"))
  g_InvalidStep : mg "InvalidStep" = some (.ref (ga K "InvalidStep"))
  g_TooLong : mg "TooLong" = some (.ref (ga K "TooLong"))
  g_InvalidPlace : mg "InvalidPlace" = some (.ref (ga K "InvalidPlace"))
  g_InvalidKey : mg "InvalidKey" = some (.ref (ga K "InvalidKey"))
  g_InvalidLetter : mg "InvalidLetter" = some (.ref (ga K "InvalidLetter"))
  g_InvalidNumber : mg "InvalidNumber" = some (.ref (ga K "InvalidNumber"))
  gSpan : mg "Span" = some (.ref (ga K "Span"))
  clS : Cls K (ga K "Span")
  mkS : Mk K (ga K "Span") (ma K (ga K "Span") "__init__")
  nS1 : NoAttr K (ga K "Span") "begin"
  nS2 : NoAttr K (ga K "Span") "end"
  nS3 : NoAttr K (ga K "Span") "key"
  nS4 : NoAttr K (ga K "Span") "source"
  nS5 : NoAttr K (ga K "Span") "width"
  gText : mg "Text" = some (.ref (ga K "Text"))
  clT : Cls K (ga K "Text")
  mkT : Mk K (ga K "Text") (ma K (ga K "Text") "__init__")
  nT1 : NoAttr K (ga K "Text") "_steps"
  nT2 : NoAttr K (ga K "Text") "spans"
  nT3 : NoAttr K (ga K "Text") "_size"
  nT4 : NoAttr K (ga K "Text") "_typed"
  cmOf : ClX.CMet K (ga K "Text") (.type "type") "of_steps" (ma K (ga K "Text") "of_steps") (He5.wf K (ga K "Text") "classmethod" "of_steps")
  pSteps : PropOf K (ga K "Text") "steps" (ma K (ga K "Text") "steps") (pgA K (ga K "Text") "steps")
  pTyped : PropOf K (ga K "Text") "typed_keys" (ma K (ga K "Text") "typed_keys") (pgA K (ga K "Text") "typed_keys")
  pSize : PropOf K (ga K "Text") "size" (ma K (ga K "Text") "size") (pgA K (ga K "Text") "size")
  callO : StX.CallO K (ga K "Text") (ma K (ga K "Text") "__call__")
  oGet : OpF K (ga K "Text") "__getitem__" (ma K (ga K "Text") "__getitem__")
  mCheck : Meth K (ga K "Text") "_check_place" (ma K (ga K "Text") "_check_place")
  o_Text_iter : OpF K (ga K "Text") "__iter__" (ma K (ga K "Text") "__iter__")
  oHas : OpF K (ga K "Text") "__contains__" (ma K (ga K "Text") "__contains__")
  oEq : OpF K (ga K "Text") "__eq__" (ma K (ga K "Text") "__eq__")
  oAdd : OpF K (ga K "Text") "__add__" (ma K (ga K "Text") "__add__")
  oMul : OpF K (ga K "Text") "__mul__" (ma K (ga K "Text") "__mul__")
  mRet : Meth K (ga K "Text") "retyped" (ma K (ga K "Text") "retyped")
  mWith : Meth K (ga K "Text") "with_letters" (ma K (ga K "Text") "with_letters")
  maxSize : ∃ t, ClX.CVal K (ga K "Text") (.type "type") "MAX_SIZE" (.int 1000000000000000000) (.int 1000000000000000000 t)
  rd : ClX.CRead K (ga K "Text") (.type "type")
  tMul : OpT K (ga K "Text") "mul" "int"
  first : PySem.W.selfFirst K (ga K "Text") = true
  insT : C8.InsC K (ga K "Text")
  csct : ga K "Span" ≠ ga K "Text"
  subT : PySem.W.subIn K (.type "tuple") (.ref (ga K "Text")) = some false
  neT : PySem.W.findIn K (.ref (ga K "Text")) "__ne__" = some (some (.builtin "object.__ne__"))
  tupT : PySem.W.kitOne K (.type "tuple") (.ref (ga K "Text")) = some false
abbrev sIsNumber : Stmt := top 4
abbrev sIsLetter : Stmt := top 5
abbrev sIsWord : Stmt := top 6
abbrev sIsStep : Stmt := top 19
abbrev sSpanOf : Stmt := top 20
abbrev sSpansOf : Stmt := top 21
abbrev sKeyAt : Stmt := top 22
abbrev sMoved : Stmt := top 23
abbrev sTaken : Stmt := top 27
abbrev sAlike : Stmt := top 28
abbrev sWord : Stmt := top 29
abbrev sSteps : Stmt := top 30
abbrev sKeys : Stmt := top 31
abbrev sIsText : Stmt := top 32
abbrev sSum : Stmt := top 33
abbrev sLaw : Stmt := top 34
abbrev s_InvalidStep_init : Stmt := inClass (top 9) 0
abbrev sSpanInit : Stmt := inClass (top 18) 0
abbrev sInit : Stmt := inClass (top 25) 1
abbrev sOf : Stmt := inClass (top 25) 3
abbrev sStepsP : Stmt := inClass (top 25) 4
abbrev sTyped : Stmt := inClass (top 25) 5
abbrev sSize : Stmt := inClass (top 25) 6
abbrev sCall : Stmt := inClass (top 25) 7
abbrev sGet : Stmt := inClass (top 25) 8
abbrev sCheck : Stmt := inClass (top 25) 9
abbrev s_Text_iter : Stmt := inClass (top 25) 10
abbrev sHas : Stmt := inClass (top 25) 11
abbrev sEq : Stmt := inClass (top 25) 12
abbrev sAdd : Stmt := inClass (top 25) 13
abbrev sMul : Stmt := inClass (top 25) 14
abbrev sRet : Stmt := inClass (top 25) 15
abbrev sWith : Stmt := inClass (top 25) 16
end KL
namespace KL
open PySem PySem.Spec PyProof.Rows L2 Pk He
/-! ### what the top has written, as far as the core of the program asks -/
/-! ### checks -/
/-- flat values, their types -/
def tyF : V → String
  | .non => "NoneType"
  | .bl _ => "bool"
  | .int _ => "int"
  | .str _ => "str"
  | _ => ""
theorem tyF_ok {K : Fr} {H : Hp} {v : V} (h : flatV v = true) : TyX K H v (.type (tyF v)) := by
  cases v with
  | non => exact .base .non
  | bl b => exact .base (.bl b)
  | int i => exact .base (.int i)
  | str x => exact .base (.str x)
  | _ => cases h
def isNum : V → Int → Int → Bool
  | .int i, lo, hi => decide (lo ≤ i) && decide (i ≤ hi)
  | _, _, _ => false
def isLetV : V → Bool
  | .str z => (match z.cps.toList with
    | [c] => isLet c
    | _ => false)
  | _ => false
def isWordV : V → Bool
  | .str z => decide (1 ≤ z.length) && decide (z.length ≤ 20) && z.cps.toList.all isLet
  | _ => false
theorem letters_are : (PySem.Str.ofString "abcdefghijklmnopqrstuvwxyz").cps.toList = List.range' 97 26 := by decide +kernel
theorem mem_letters (c : Nat) : decide (c ∈ (PySem.Str.ofString "abcdefghijklmnopqrstuvwxyz").cps.toList) = isLet c := by
  rw [letters_are]
  unfold isLet
  rw [Bool.eq_iff_iff]
  simp only [decide_eq_true_eq, List.mem_range'_1, Bool.and_eq_true]
  omega
def spIsNumber : Sp := fun vs H Q _ => ∃ v lo hi, vs = [v, .int lo, .int hi] ∧ flatV v = true ∧ Q (.bl (isNum v lo hi)) H
/-- texts are not too long -/
def fitV : V → Prop
  | .str z => z.length ≤ sizeLine
  | _ => True
def spIsLetter : Sp := fun vs H Q _ => ∃ v, vs = [v] ∧ flatV v = true ∧ fitV v ∧ Q (.bl (isLetV v)) H
def spIsWord : Sp := fun vs H Q _ => ∃ v, vs = [v] ∧ flatV v = true ∧ fitV v ∧ ∀ H2, Same H H2 → Q (.bl (isWordV v)) H2
section
variable {P : Program} {w : World} {K : Fr} {mg : Str → Option Value} {base : Heap} {f : Addr}
theorem scIsNumber : FnScope ["value", "low", "high"] ["value", "low", "high"] (defScope sIsNumber) := ⟨rfl, rfl, rfl, by decide +kernel, rfl, by decide +kernel, by decide +kernel⟩
theorem ok_is_number (D : Df K "is_number" "is_number" sIsNumber f) (T : Tc K mg) : Kp P w K mg base 1 f spIsNumber := by
  refine kp_of D scIsNumber (fun _ _ _ _ _ _ us hl => match us, hl with | [_, _, _], _ => rfl) ?_ (fun cdv A outer s H vs Q E hr h => ?_)
  · rintro vs H Q E ⟨v, lo, hi, rfl, _⟩
    rfl
  · obtain ⟨v, lo, hi, rfl, fl, q⟩ := h
    refine ⟨_, pss_one (ps_ret (pe_and (pe_isi (pv 0) T.isi T.int b_int) (pe_and (pe_not (pe_isi (pv 0) T.isi T.bool b_bool)) (pe_one (pe_chain op_le op_le (pv 1) (pv 0) (pv 2)))))), ?_⟩
    refine ⟨_, rfl, _, _, _, decide (tyF v = "int" ∨ tyF v = "bool"), rfl, tyF_ok fl, ?_, _, rfl, ?_⟩
    · cases v <;> first | rfl | cases fl
    cases v with
    | non => exact q
    | str x => exact q
    | bl b => exact ⟨_, rfl, _, _, _, true, rfl, tyF_ok (v := .bl b) rfl, rfl, _, rfl, _, rfl, q⟩
    | int i =>
      refine ⟨_, rfl, _, _, _, false, rfl, tyF_ok (v := .int i) rfl, rfl, _, rfl, _, rfl, ?_⟩
      refine ⟨_, rfl, _, rfl, _, _, rfl, rfl, _, rfl, ?_⟩
      have q1 : Q (.bl (decide (lo ≤ i) && decide (i ≤ hi))) H := q
      refine ite2 (fun h1 => ?_) fun h1 => ?_
      · rw [h1] at q1
        exact ⟨_, rfl, _, _, rfl, rfl, q1⟩
      · rw [Bool.eq_false_iff.mpr h1] at q1
        exact q1
    | _ => cases fl
theorem scIsLetter : FnScope ["value"] ["value"] (defScope sIsLetter) := ⟨rfl, rfl, rfl, by decide +kernel, rfl, by decide +kernel, by decide +kernel⟩
theorem one_sign {z : Str} (h : (z.length : Int) = 1) : ∃ c, z = ⟨#[c]⟩ ∧ z.cps.toList = [c] := by
  obtain ⟨⟨l⟩⟩ := z
  have h1 : l.length = 1 := by
    have : ((l.length : Nat) : Int) = 1 := h
    omega
  match l, h1 with
  | [c], _ => exact ⟨c, rfl, rfl⟩
theorem ok_is_letter (D : Df K "is_letter" "is_letter" sIsLetter f) (T : Tc K mg) : Kp P w K mg base 1 f spIsLetter := by
  refine kp_of D scIsLetter (fun _ _ _ _ _ _ us hl => match us, hl with | [_], _ => rfl) ?_ (fun cdv A outer s H vs Q E hr h => ?_)
  · rintro vs H Q E ⟨v, rfl, _⟩
    rfl
  · obtain ⟨v, rfl, fl, ft, q⟩ := h
    obtain ⟨tl, hL⟩ := T.letters
    refine ⟨_, pss_one (ps_ret (pe_and (pe_isi (pv 0) T.isi T.str b_str) (pe_and (pe_cmpR op_eq (pk_b1 call_len_str T.len b_len (pv 0)) pe_int (nomark _)) (pe_one (pe_cmpR op_in_sign (pv 0) (pe_gS hL) rfl))))), ?_⟩
    refine ⟨_, rfl, _, _, _, decide (tyF v = "str"), rfl, tyF_ok fl, ?_, _, rfl, ?_⟩
    · cases v <;> first | rfl | cases fl
    cases v with
    | non => exact q
    | bl b => exact q
    | int i => exact q
    | str z =>
      refine ⟨_, rfl, _, rfl, ft, rfl, _, rfl, ?_⟩
      refine ite2 (fun h1 => ?_) fun h1 => ?_
      · obtain ⟨c, e1, e2⟩ := one_sign (z := z) (by simpa using h1)
        refine ⟨_, rfl, c, _, by rw [e1], rfl, ?_⟩
        rw [mem_letters]
        have e3 : isLetV (.str z) = isLet c := by
          show (match z.cps.toList with
            | [c] => isLet c
            | _ => false) = isLet c
          rw [e2]
        rw [← e3]
        exact q
      · have e3 : isLetV (.str z) = false := by
          show (match z.cps.toList with
            | [c] => isLet c
            | _ => false) = false
          split
          · rename_i c e
            exact absurd (by
              have : z.cps.size = 1 := by rw [← Array.length_toList, e]; rfl
              simp [Str.length, this]) h1
          · rfl
        rw [e3] at q
        have e4 : decide (V.int (z.length : Int) = V.int 1) = false := Bool.eq_false_iff.mpr h1
        show Q (.bl false) H
        exact q
    | _ => cases fl
theorem scIsWord : FnScope ["value", "sign"] ["value"] (defScope sIsWord) := ⟨rfl, rfl, rfl, by decide +kernel, rfl, by decide +kernel, by decide +kernel⟩
theorem ok_is_word (D : Df K "is_word" "is_word" sIsWord f) (T : Tc K mg) : Kp P w K mg base 1 f spIsWord := by
  refine kp_of D scIsWord (fun _ _ _ _ _ _ us hl => match us, hl with | [_], _ => rfl) ?_ (fun cdv A outer s H vs Q E hr h => ?_)
  · rintro vs H Q E ⟨v, rfl, _⟩
    rfl
  · obtain ⟨v, rfl, fl, ft, q⟩ := h
    obtain ⟨tl, hL⟩ := T.letters
    obtain ⟨tw, hW⟩ := T.longest
    refine ⟨_, pss_cons (ps_if (pw_or (pt_not (pt_val (pe_isi (pv 0) T.isi T.str b_str))) (pw_or1 (pt_not (pt_chain op_le op_le pe_int (pk_b1 call_len_str T.len b_len (pv 0)) (pe_gI hW))))).pt (pss_one (ps_ret pe_bl)) pss_nil)
      (pss_one (ps_ret (pk_b1 (cr_all rfl) T.all b_all (pe_lc (own := [("sign", 1)]) (g := gName 1) (tt := tYes) rfl scIsWord.nd (pi_str (pv 0)) (blkOk_by (N := ["value", "sign"]) (sc := defScope sIsWord) (by decide +kernel)) (fun _ _ _ _ _ => pg_name (i := 1) scIsWord.nd rfl (Or.inl rfl)) (fun _ _ _ _ _ => pts_nil)
        (fun _ _ _ _ _ => pe_cmpR op_in_sign (pv 1) (pe_gS hL) rfl))))), ?_⟩
    have two : ∀ b : Bool, b = isWordV v → ∀ H2, Same H H2 → Q (.bl b) H2 := fun b e => by rw [e]; exact q
    refine ⟨_, rfl, _, _, _, decide (tyF v = "str"), rfl, tyF_ok fl, ?_, _, rfl, ?_⟩
    · cases v <;> first | rfl | cases fl
    cases v with
    | non => exact q H (Same.refl H)
    | bl b => exact q H (Same.refl H)
    | int i => exact q H (Same.refl H)
    | str z =>
      refine iteF ?_
      refine ⟨_, rfl, _, rfl, ft, _, _, rfl, rfl, _, rfl, ?_⟩
      refine ite2 (fun h1 => ?_) fun h1 => ?_
      · refine ⟨_, _, rfl, rfl, _, rfl, ?_⟩
        refine ite2 (fun h2 => ?_) fun h2 => ?_
        · refine two false ?_ H (Same.refl H)
          have h3 : ¬ (z.length ≤ 20) := by
            intro h4
            have h5 : decide ((z.length : Int) ≤ 20) = true := decide_eq_true (by omega)
            rw [h5] at h2
            cases h2
          show false = (decide (1 ≤ z.length) && decide (z.length ≤ 20) && z.cps.toList.all isLet)
          rw [decide_eq_false h3]
          simp
        · have h3 : z.length ≤ 20 := by
            rcases Nat.lt_or_ge 20 z.length with h4 | h4
            · have h5 : decide ((z.length : Int) ≤ 20) = false := decide_eq_false (by omega)
              rw [h5] at h2
              exact absurd rfl h2
            · exact h4
          have h0 : 1 ≤ z.length := by
            have := of_decide_eq_true h1
            omega
          refine ⟨_, rfl, _, rfl, fun D hD => ?_⟩
          refine lc_map walk_str hD (fun i => .bl (isLet (z.cps.getD i 0))) (Nat.le_trans (show z.cps.size ≤ 20 from h3) (by decide)) (fun _ _ => trivial) ?_ ?_
          · rintro i x H3 H4 N hi s3 ⟨e4, c, ec, ex⟩ hN
            subst e4 ex
            refine ⟨rfl, _, rfl, c, _, rfl, rfl, ?_⟩
            rw [mem_letters]
            have e5 : z.cps.getD i 0 = c := by
              rw [Array.getD_eq_getD_getElem?, ec]
              rfl
            rw [← e5]
            exact hN _ (Same.refl _)
          · intro H3 s3 h3D
            refine ⟨D, (List.range z.cps.size).map fun i => isLet (z.cps.getD i 0), rfl, SqL.of (by rw [List.map_map]; exact h3D), ?_⟩
            refine two _ ?_ _ s3
            show _ = (decide (1 ≤ z.length) && decide (z.length ≤ 20) && z.cps.toList.all isLet)
            rw [decide_eq_true h0, decide_eq_true h3]
            have e6 : (List.range z.cps.size).map (fun i => isLet (z.cps.getD i 0)) = z.cps.toList.map isLet := by
              apply List.ext_getElem
              · simp
              · intro i h7 h8
                simp at h7
                simp [h7]
            rw [e6, List.all_map]
            rfl
      · refine ⟨_, rfl, ?_⟩
        refine two false ?_ H (Same.refl H)
        have h3 : ¬ (1 ≤ z.length) := fun h4 => h1 (decide_eq_true (by omega))
        show false = (decide (1 ≤ z.length) && decide (z.length ≤ 20) && z.cps.toList.all isLet)
        rw [decide_eq_false h3]
        rfl
    | _ => cases fl
end
end KL
namespace KL
open PySem PySem.Spec PyProof.Rows L2 Pk He
theorem sqT_ty {K : Fr} {H : Hp} {a : Addr} {xs : List V} (h : SqT K H a xs) : TyX K H (.ref a) (.type "tuple") := by
  rcases h with (h | ⟨o, h⟩) | ⟨o, its, n, h1, h2, _⟩
  · exact .base (.tup h)
  · exact .fTuple h
  · exact .kTuple h1 h2
def numAfter (b c : V) (s : Int) : Bool := match b with
  | .int i => isNum c i s
  | _ => false
def isStepT (xs : List V) (s : Int) : Bool := match xs with
  | [a, b] => decide (a = .str "write") && isWordV b
  | [a, b, c, d] => decide (a = .str "paste") && (isNum b 0 (s - 1) && numAfter b c (s - 1) && isNum d 1 1000000000)
  | _ => false
/-- what may be asked whether it is a step -/
def StepArg (K : Fr) (H : Hp) (v : V) (s : Int) (r : Bool) : Prop :=
  (flatV v = true ∧ r = false) ∨ (TyX K H v (.type "list") ∧ r = false) ∨
  ∃ a xs, v = .ref a ∧ SqT K H a xs ∧ xs.all flatV = true ∧ (∀ x ∈ xs, fitV x) ∧ (∀ x, xs[0]? = some x → ∃ z, x = .str z) ∧ r = isStepT xs s
def spIsStep (K : Fr) : Sp := fun vs H Q _ => ∃ v s r, vs = [v, .int s] ∧ StepArg K H v s r ∧ ∀ H2, Same H H2 → Q (.bl r) H2
section
variable {P : Program} {w : World} {K : Fr} {mg : Str → Option Value} {base : Heap} {f : Addr}
theorem scIsStep : FnScope ["value", "size", "first", "last", "times"] ["value", "size"] (defScope sIsStep) := ⟨rfl, rfl, rfl, by decide +kernel, rfl, by decide +kernel, by decide +kernel⟩
theorem ok_is_step (D : Df K "is_step" "is_step" sIsStep f) (T : Tc K mg) (GW : Kp P w K mg base 1 (ga K "is_word") spIsWord) (GN : Kp P w K mg base 1 (ga K "is_number") spIsNumber) : Kp P w K mg base 2 f (spIsStep K) := by
  refine kp_of D scIsStep (fun _ _ _ _ _ _ us hl => match us, hl with | [_, _], _ => rfl) ?_ (fun cdv A outer s H vs Q E hr h => ?_)
  · rintro vs H Q E ⟨v, s, r, rfl, _⟩
    rfl
  · obtain ⟨v, sz, r, rfl, arg, q⟩ := h
    obtain ⟨tm, hM⟩ := T.mostTimes
    refine ⟨_, pss_cons (ps_if (pt_not (pt_val (pe_isi (pv 0) T.isi T.tup b_tuple))) (pss_one (ps_ret pe_bl)) pss_nil)
      (pss_cons (ps_if (pt_cmpR op_eq (pk_b1 call_len_seq T.len b_len (pv 0)) pe_int (nomark _)) (pss_one (ps_ret (pe_and (pe_cmpR op_eq (pe_ix ix_tup (pv 0) pe_int (fun _ _ => rfl)) pe_str (nomark _)) (pe_one (pk_call GW hr T.gIsWord (pa_cons (pe_ix ix_tup (pv 0) pe_int (fun _ _ => rfl)) pa_nil)))))) pss_nil)
      (pss_cons (ps_if (pw_or (pt_cmpR op_ne (pk_b1 call_len_seq T.len b_len (pv 0)) pe_int (nomark _)) (pw_or1 (pt_cmpR op_ne (pe_ix ix_tup (pv 0) pe_int (fun _ _ => rfl)) pe_str (nomark _)))).pt (pss_one (ps_ret pe_bl)) pss_nil)
      (pss_cons (ps_asg (pe_slice sl_tup (pv 0) (po_some pe_int) po_none) (pg_tup rfl (pgs_cons (pg_name (i := 2) scIsStep.nd rfl (Or.inl rfl)) (pgs_cons (pg_name (i := 3) scIsStep.nd rfl (Or.inl rfl)) (pgs_cons (pg_name (i := 4) scIsStep.nd rfl (Or.inl rfl)) pgs_nil)))))
      (pss_one (ps_ret (pe_and (pk_call GN hr T.gIsNumber (pa_cons (pv 2) (pa_cons pe_int (pa_cons (pe_op op_sub (pv 1) pe_int) pa_nil)))) (pe_and (pk_call GN hr T.gIsNumber (pa_cons (pv 3) (pa_cons (pv 2) (pa_cons (pe_op op_sub (pv 1) pe_int) pa_nil))))
        (pe_one (pk_call GN hr T.gIsNumber (pa_cons (pv 4) (pa_cons pe_int (pa_cons (pe_gI hM) pa_nil)))))))))))), ?_⟩
    rcases arg with ⟨fl, e⟩ | ⟨ty, e⟩ | ⟨a, xs, rfl, hx, flx, ftx, hd, e⟩
    · subst e
      exact ⟨_, rfl, v, "tuple", tyF v, false, rfl, tyF_ok fl, (by cases v <;> first | rfl | cases fl), false, rfl, q H (Same.refl H)⟩
    · subst e
      exact ⟨_, rfl, v, "tuple", "list", false, rfl, ty, rfl, false, rfl, q H (Same.refl H)⟩
    · subst e
      have ty := sqT_ty hx
      have one : ∀ (i : Nat) (x : V), xs[i]? = some x → atI xs (i : Int) = some x := fun i x e => atI_nat e
      have flat : ∀ x ∈ xs, flatV x = true := fun x hx => List.all_eq_true.mp flx x hx
      refine ⟨_, rfl, _, _, _, true, rfl, ty, rfl, _, rfl, ?_⟩
      refine iteF ?_
      refine ⟨_, rfl, a, xs, rfl, .inr hx, rfl, _, rfl, ?_⟩
      match xs, hx, ftx, hd, q, one, flat with
      | [], hx, ftx, hd, q, one, flat =>
        refine iteF ?_
        refine ⟨_, rfl, a, [], rfl, .inr hx, rfl, _, rfl, ?_⟩
        exact q H (Same.refl H)
      | [x0], hx, ftx, hd, q, one, flat =>
        refine iteF ?_
        refine ⟨_, rfl, a, [x0], rfl, .inr hx, rfl, _, rfl, ?_⟩
        exact q H (Same.refl H)
      | [x0, x1], hx, ftx, hd, q, one, flat =>
        obtain ⟨z, ez⟩ := hd x0 rfl
        subst ez
        refine iteT ?_
        refine ⟨_, rfl, a, _, _, _, rfl, rfl, hx, one 0 _ rfl, rfl, _, rfl, ?_⟩
        refine ite2 (fun h1 => ?_) fun h1 => ?_
        · refine ⟨_, rfl, a, _, _, _, rfl, rfl, hx, one 1 _ rfl, x1, rfl, flat x1 (by simp), ftx x1 (by simp), fun H2 s2 => ?_⟩
          have e : isStepT [.str z, x1] sz = isWordV x1 := by
            show (decide (V.str z = V.str "write") && isWordV x1) = _
            rw [h1, Bool.true_and]
          rw [← e]
          exact q H2 s2
        · have e : isStepT [.str z, x1] sz = false := by
            show (decide (V.str z = V.str "write") && isWordV x1) = _
            rw [Bool.eq_false_iff.mpr h1, Bool.false_and]
          rw [e] at q
          exact q H (Same.refl H)
      | [x0, x1, x2], hx, ftx, hd, q, one, flat =>
        refine iteF ?_
        refine ⟨_, rfl, a, [x0, x1, x2], rfl, .inr hx, rfl, _, rfl, ?_⟩
        exact q H (Same.refl H)
      | [x0, x1, x2, x3], hx, ftx, hd, q, one, flat =>
        obtain ⟨z, ez⟩ := hd x0 rfl
        subst ez
        refine iteF ?_
        refine ⟨_, rfl, a, _, rfl, .inr hx, rfl, _, rfl, ?_⟩
        refine iteF ?_
        refine ⟨_, rfl, a, _, _, _, rfl, rfl, hx, one 0 _ rfl, rfl, _, rfl, ?_⟩
        have e : isStepT [.str z, x1, x2, x3] sz = (decide (V.str z = V.str "paste") && (isNum x1 0 (sz - 1) && numAfter x1 x2 (sz - 1) && isNum x3 1 1000000000)) := rfl
        rw [e] at q
        by_cases h1 : V.str z = V.str "paste"
        · rw [decide_eq_true h1, Bool.true_and] at q
          have h2 : (!decide (V.str z = V.str "paste")) = false := by rw [decide_eq_true h1]; rfl
          rw [h2]
          refine iteF ?_
          refine ⟨_, rfl, 1, rfl, a, _, rfl, hx, fun z => absurd z.1 (show ¬ ((1 : Nat) = 0) by decide), fun p hp => ?_⟩
          have hp2 : upd H p (.tup [x1, x2, x3]) p = some (.tup [x1, x2, x3]) := upd_same
          refine ⟨p, _, rfl, .inl (.inl hp2), rfl, _, _, rfl, _, _, rfl, _, _, rfl, rfl, ?_⟩
          refine ⟨_, rfl, _, rfl, _, _, rfl, rfl, x1, 0, _, rfl, flat x1 (by simp), _, rfl, ?_⟩
          cases hb : isNum x1 0 (sz - 1) with
          | false =>
            rw [hb] at q
            exact q _ (same_upd hp)
          | true =>
            rw [hb] at q
            cases x1 with
            | int i1 =>
              refine ⟨_, rfl, _, rfl, _, rfl, _, _, rfl, rfl, x2, _, _, rfl, flat x2 (by simp), _, rfl, ?_⟩
              have q1 : ∀ H2, Same H H2 → Q (.bl (isNum x2 i1 (sz - 1) && isNum x3 1 1000000000)) H2 := q
              cases hc : isNum x2 i1 (sz - 1) with
              | false =>
                rw [hc] at q1
                exact q1 _ (same_upd hp)
              | true =>
                rw [hc] at q1
                have q := q1
                exact ⟨_, rfl, x3, 1, _, rfl, flat x3 (by simp), q _ (same_upd hp)⟩
            | _ => cases hb
        · rw [decide_eq_false h1, Bool.false_and] at q
          have h2 : (!decide (V.str z = V.str "paste")) = true := by rw [decide_eq_false h1]; rfl
          rw [h2]
          exact q H (Same.refl H)
      | x0 :: x1 :: x2 :: x3 :: x4 :: r, hx, ftx, hd, q, one, flat =>
        have h2 : decide (V.int ((x0 :: x1 :: x2 :: x3 :: x4 :: r).length : Int) = V.int 2) = false := decide_eq_false (fun z => by injection z with z; simp at z; omega)
        rw [h2]
        refine iteF ?_
        refine ⟨_, rfl, a, _, rfl, .inr hx, rfl, _, rfl, ?_⟩
        have h4 : (!decide (V.int ((x0 :: x1 :: x2 :: x3 :: x4 :: r).length : Int) = V.int 4)) = true := by
          rw [decide_eq_false (fun z => by injection z with z; simp at z; omega)]
          rfl
        rw [h4]
        exact q H (Same.refl H)
end
end KL
namespace KL
open PySem PySem.Spec PyProof.Rows L2 Pk He
theorem putF_new {f : Str} {v : V} : ∀ {fs : List (Str × V)} {ns : List Str}, fs.map (·.1) = ns → (ns.all fun g => decide (g ≠ f)) = true → putF f v fs = fs ++ [(f, v)]
  | [], _, _, _ => rfl
  | (g, x) :: r, _, e, h => by
    subst e
    have h1 := Bool.and_eq_true_iff.mp (show (decide (g ≠ f) && (r.map (·.1)).all fun g => decide (g ≠ f)) = true from h)
    show (if g = f then (g, v) :: r else (g, x) :: putF f v r) = _
    rw [if_neg (of_decide_eq_true h1.1), putF_new rfl h1.2]
    rfl
def fresh5 (b e k s w : V) : List (Str × V) := [("begin", b), ("end", e), ("key", k), ("source", s), ("width", w)]
def spSpanInit (C : Addr) : Sp := fun vs H Q _ => ∃ p dx b e k s w, vs = [.ref p, b, e, k, s, w] ∧ H p = some (.ins C dx []) ∧ Q .non (upd H p (.ins C dx (fresh5 b e k s w)))
def spSpanOf (K : Fr) : Sp := fun vs H Q _ => ∃ (a : Addr) (x : Stp) (s n : Nat), vs = [.ref a, .int s, .int n] ∧ SqT K H a (stV x) ∧ x.ok s = true ∧ ∀ p dx H2, H p = none → Same H H2 → H2 p = some (.ins (CS K) dx (spF x s n)) → Q (.ref p) H2
section
variable {P : Program} {w : World} {K : Fr} {mg : Str → Option Value} {base : Heap} {f : Addr}
theorem scSpanInit : FnScope ["self", "begin", "end", "key", "source", "width"] ["self", "begin", "end", "key", "source", "width"] (defScope sSpanInit) := ⟨rfl, rfl, rfl, by decide +kernel, rfl, by decide +kernel, by decide +kernel⟩
theorem ok_span_init (D : Df K "__init__" "Span.__init__" sSpanInit f) (T : Tc K mg) : Kp P w K mg base 1 f (spSpanInit (CS K)) := by
  refine kp_of D scSpanInit (fun _ _ _ _ _ _ us hl => match us, hl with | [_, _, _, _, _, _], _ => rfl) ?_ (fun cdv A outer s H vs Q E hr h => ?_)
  · rintro vs H Q E ⟨p, dx, b, e, k, s, w, rfl, _⟩
    rfl
  · obtain ⟨p, dx, b, e, k, sr, wd, rfl, hp, q⟩ := h
    refine ⟨_, pss_cons (ps_fld (pv 0) (pv 1) rfl) (pss_cons (ps_fld (pv 0) (pv 2) rfl) (pss_cons (ps_fld (pv 0) (pv 3) rfl) (pss_cons (ps_fld (pv 0) (pv 4) rfl) (pss_one (ps_fld (pv 0) (pv 5) rfl))))), ?_⟩
    refine ⟨_, rfl, _, rfl, p, _, dx, _, rfl, hp, T.clS, T.nS1, (by decide), ?_⟩
    have e1 : putF "begin" b ([] : List (Str × V)) = [(("begin" : Str), b)] := rfl
    rw [e1]
    refine ⟨_, rfl, _, rfl, p, _, dx, _, rfl, upd_same, T.clS, T.nS2, (by show 1 < 1000; decide), ?_⟩
    rw [putF_new (f := "end") (ns := ["begin"]) rfl (by decide +kernel), upd_upd]
    refine ⟨_, rfl, _, rfl, p, _, dx, _, rfl, upd_same, T.clS, T.nS3, (by show 2 < 1000; decide), ?_⟩
    rw [putF_new (f := "key") (ns := ["begin", "end"]) rfl (by decide +kernel), upd_upd]
    refine ⟨_, rfl, _, rfl, p, _, dx, _, rfl, upd_same, T.clS, T.nS4, (by show 3 < 1000; decide), ?_⟩
    rw [putF_new (f := "source") (ns := ["begin", "end", "key"]) rfl (by decide +kernel), upd_upd]
    refine ⟨_, rfl, _, rfl, p, _, dx, _, rfl, upd_same, T.clS, T.nS5, (by show 4 < 1000; decide), ?_⟩
    rw [putF_new (f := "width") (ns := ["begin", "end", "key", "source"]) rfl (by decide +kernel), upd_upd]
    exact q
theorem scSpanOf : FnScope ["step", "begin", "key", "width"] ["step", "begin", "key"] (defScope sSpanOf) := ⟨rfl, rfl, rfl, by decide +kernel, rfl, by decide +kernel, by decide +kernel⟩
theorem wr_ne_pa : (V.str "write") ≠ V.str "paste" := by decide +kernel
theorem ok_span_of (D : Df K "span_of" "span_of" sSpanOf f) (T : Tc K mg) (GI : Kp P w K mg base 1 (ma K (CS K) "__init__") (spSpanInit (CS K))) : Kp P w K mg base 3 f (spSpanOf K) := by
  refine kp_of D scSpanOf (fun _ _ _ _ _ _ us hl => match us, hl with | [_, _, _], _ => rfl) ?_ (fun cdv A outer s H vs Q E hr h => ?_)
  · rintro vs H Q E ⟨a, x, s, n, rfl, _⟩
    rfl
  · obtain ⟨a, x, s0, n, rfl, hx, ok, q⟩ := h
    refine ⟨_, pss_cons (ps_if (pt_cmpR op_eq (pe_ix ix_tup (pv 0) pe_int (fun _ _ => rfl)) pe_str (nomark _))
        (pss_one (ps_ret (StX.pe_makeR T.mkS GI.fnR hr rfl T.gSpan pass0 (pa_cons (pv 1) (pa_cons (pe_op op_add (pv 1) (pk_b1 call_len_str T.len b_len (pe_ix ix_tup (pv 0) pe_int (fun _ _ => rfl)))) (pa_cons (pv 2) (pa_cons pe_int (pa_cons pe_int pa_nil)))))))) pss_nil)
      (pss_cons (ps_set (i := 3) scSpanOf.nd rfl (Or.inl rfl) (pe_op op_add (pe_op op_sub (pe_ix ix_tup (pv 0) pe_int (fun _ _ => rfl)) (pe_ix ix_tup (pv 0) pe_int (fun _ _ => rfl))) pe_int))
      (pss_one (ps_ret (StX.pe_makeR T.mkS GI.fnR hr rfl T.gSpan pass0 (pa_cons (pv 1) (pa_cons (pe_op op_add (pv 1) (pe_op op_mul (pv 3) (pe_ix ix_tup (pv 0) pe_int (fun _ _ => rfl)))) (pa_cons pe_non (pa_cons (pe_ix ix_tup (pv 0) pe_int (fun _ _ => rfl)) (pa_cons (pv 3) pa_nil))))))))), ?_⟩
    have fin : ∀ (H1 : Hp) (p dx : Addr) (e k sr wd : V), Same H H1 → H1 p = none → H1 dx = none → dx ≠ p → fresh5 (.int s0) e k sr wd = spF x s0 n →
        Q (.ref p) (upd (upd (upd H1 dx (.own p)) p (.ins (CS K) dx [])) p (.ins (CS K) dx (fresh5 (.int s0) e k sr wd))) := by
      intro H1 p dx e k sr wd s1 hp hdx hne ee
      rw [upd_upd]
      refine q p dx _ (s1.free hp) (s1.trans ((same_upd hdx).trans (same_upd ?_))) (by rw [upd_same, ee])
      rw [upd_ne hne.symm]
      exact hp
    cases x with
    | wr w =>
      have hl : (sL w).length ≤ sizeLine := by
        rw [sL_len]
        simp [Stp.ok] at ok
        exact Nat.le_trans ok.1.2 (by decide)
      refine ⟨_, rfl, a, _, _, _, rfl, rfl, hx, atI_nat (j := 0) rfl, rfl, _, rfl, ?_⟩
      refine iteT ?_
      refine ⟨_, rfl, _, rfl, _, rfl, a, _, _, _, rfl, rfl, hx, atI_nat (j := 1) rfl, _, rfl, hl, _, _, rfl, rfl, _, rfl, fun p dx hp hdx hne => ?_⟩
      refine ⟨p, dx, _, _, _, _, _, rfl, upd_same, rfl, ?_⟩
      refine fin H p dx _ _ _ _ (Same.refl H) hp hdx hne ?_
      rw [sL_len]
      rfl
    | pa f0 l t =>
      simp [Stp.ok] at ok
      have hb : decide (V.str "paste" = V.str "write") = false := decide_eq_false wr_ne_pa.symm
      refine ⟨_, rfl, a, _, _, _, rfl, rfl, hx, atI_nat (j := 0) rfl, rfl, _, rfl, ?_⟩
      rw [hb]
      refine iteF ?_
      refine ⟨_, rfl, a, _, _, _, rfl, rfl, hx, atI_nat (j := 2) rfl, _, rfl, a, _, _, _, rfl, rfl, hx, atI_nat (j := 1) rfl, _, _, rfl, rfl, _, _, rfl, rfl, ?_⟩
      have ew : ((l : Int) - (f0 : Int) + 1) = ((l + 1 - f0 : Nat) : Int) := by omega
      rw [show ((fun i j : Int => V.int (i + j)) ((l : Int) - (f0 : Int)) 1) = V.int ((l + 1 - f0 : Nat) : Int) from congrArg V.int ew]
      refine ⟨_, rfl, _, rfl, _, rfl, _, rfl, a, _, _, _, rfl, rfl, hx, atI_nat (j := 3) rfl, _, _, rfl, rfl, .inr ⟨by omega, by omega⟩, _, _, rfl, rfl, _, rfl, a, _, _, _, rfl, rfl, hx, atI_nat (j := 1) rfl, _, rfl, fun p dx hp hdx hne => ?_⟩
      refine ⟨p, dx, _, _, _, _, _, rfl, upd_same, rfl, ?_⟩
      refine fin H p dx _ _ _ _ (Same.refl H) hp hdx hne ?_
      show fresh5 _ _ _ _ _ = [_, _, _, _, _]
      rw [← Int.natCast_mul]
      rfl
end
end KL
namespace KL
open PySem PySem.Spec PyProof.Rows L2 Pk He
theorem map_at {as : List Addr} {i : Nat} {a : Addr} {y : V} (ha : as[i]? = some a) (e : (as.map V.ref)[i]? = some y) : y = .ref a := by
  rw [List.getElem?_map, ha] at e
  exact (Option.some.inj e).symm
def spSpansOf (K : Fr) : Sp := fun vs H Q _ => ∃ (ts : Addr) (as : List Addr) (st : List Stp), vs = [.ref ts, .int most] ∧ SqT K H ts (as.map V.ref) ∧ StepsAt K H as st ∧ Goes most 0 st ∧ st.length ≤ 30 ∧
  ∀ p ss H2, Same H H2 → SqT K H2 p (ss.map V.ref) → SpansAt (CS K) H2 ss st → Q (.ref p) H2
theorem stepArg_of {K : Fr} {H : Hp} {a : Addr} {x : Stp} {s : Nat} (hx : SqT K H a (stV x)) (ok : x.ok s = true) : StepArg K H (.ref a) (s : Int) true := by
  refine .inr (.inr ⟨a, stV x, rfl, hx, by cases x <;> rfl, ?_, ?_, ?_⟩)
  · cases x with
    | wr w =>
      simp [Stp.ok] at ok
      intro v hv
      have hv2 : v = .str "write" ∨ v = .str (sL w) := by simpa [stV] using hv
      rcases hv2 with rfl | rfl
      · show (Str.ofString "write").length ≤ sizeLine
        decide +kernel
      · show (sL w).length ≤ sizeLine
        rw [sL_len]
        exact Nat.le_trans ok.1.2 (by decide)
    | pa f l t =>
      intro v hv
      have hv2 : v = .str "paste" ∨ v = .int f ∨ v = .int l ∨ v = .int t := by simpa [stV] using hv
      rcases hv2 with rfl | rfl | rfl | rfl
      · show (Str.ofString "paste").length ≤ sizeLine
        decide +kernel
      all_goals trivial
  · cases x <;> (intro v hv; exact ⟨_, (Option.some.inj hv).symm⟩)
  · cases x with
    | wr w =>
      simp [Stp.ok] at ok
      show true = (decide (V.str "write" = V.str "write") && (decide (1 ≤ (sL w).length) && decide ((sL w).length ≤ 20) && (sL w).cps.toList.all isLet))
      rw [sL_len, decide_eq_true rfl, decide_eq_true ok.1.1, decide_eq_true ok.1.2]
      symm
      simpa [sL] using ok.2
    | pa f l t =>
      simp [Stp.ok] at ok
      show true = (decide (V.str "paste" = V.str "paste") && ((decide ((0 : Int) ≤ f) && decide ((f : Int) ≤ s - 1)) && (decide ((f : Int) ≤ l) && decide ((l : Int) ≤ s - 1)) && (decide ((1 : Int) ≤ t) && decide ((t : Int) ≤ 1000000000))))
      rw [decide_eq_true rfl, decide_eq_true (show (0 : Int) ≤ f by omega), decide_eq_true (show (f : Int) ≤ s - 1 by omega), decide_eq_true (show (f : Int) ≤ l by omega), decide_eq_true (show (l : Int) ≤ s - 1 by omega), decide_eq_true (show (1 : Int) ≤ t by omega), decide_eq_true (show (t : Int) ≤ 1000000000 by omega)]
      rfl
theorem spF_end (x : Stp) (s n : Nat) : (spF x s n).lookup ("end" : Str) = some (.int (s + x.gr : Nat)) := by
  cases x <;> rfl
theorem spF_begin (x : Stp) (s n : Nat) : (spF x s n).lookup ("begin" : Str) = some (.int s) := by
  cases x <;> rfl
def keyV (x : Stp) (n : Nat) : V := match x with
  | .wr _ => .int n
  | .pa _ _ _ => .non
theorem spF_key (x : Stp) (s n : Nat) : (spF x s n).lookup ("key" : Str) = some (keyV x n) := by
  cases x <;> rfl
section
variable {P : Program} {w : World} {K : Fr} {mg : Str → Option Value} {base : Heap} {f : Addr}
abbrev nSpansOf : List Str := ["steps", "max_size", "spans", "size", "key", "index", "step", "span"]
theorem scSpansOf : FnScope nSpansOf ["steps", "max_size"] (defScope sSpansOf) := ⟨rfl, rfl, rfl, by decide +kernel, rfl, by decide +kernel, by decide +kernel⟩
theorem ok_spans_of (D : Df K "spans_of" "spans_of" sSpansOf f) (T : Tc K mg) (GS : Kp P w K mg base 2 (ga K "is_step") (spIsStep K)) (GO : Kp P w K mg base 3 (ga K "span_of") (spSpanOf K)) : Kp P w K mg base 4 f (spSpansOf K) := by
  refine kp_of D scSpansOf (fun _ _ _ _ _ _ us hl => match us, hl with | [_, _], _ => rfl) ?_ (fun cdv A outer s H vs Q E hr h => ?_)
  · rintro vs H Q E ⟨ts, as, st, rfl, _⟩
    rfl
  · obtain ⟨ts, as, st, rfl, hts, hst, good, few, q⟩ := h
    obtain ⟨tk, hMS⟩ := T.mostSteps
    refine ⟨_, (pss_cons (ps_set (i := 2) scSpansOf.nd rfl (Or.inl rfl) (pe_lst pa_nil)) (pss_cons (ps_set (i := 3) scSpansOf.nd rfl (Or.inl rfl) pe_int) (pss_cons (ps_set (i := 4) scSpansOf.nd rfl (Or.inl rfl) pe_int) (pss_cons (ps_for PassesOwn.never rfl (pi_enumT (by rfl) T.enu (pa_cons (pv 0) pa_nil)) (pg_tup rfl (pgs_cons (pg_name (i := 5) scSpansOf.nd rfl (Or.inl rfl)) (pgs_cons (pg_name (i := 6) scSpansOf.nd rfl (Or.inl rfl)) pgs_nil))) (pss_cons (ps_if (pw_or (pt_cmpR op_ge (pv 5) (pe_gI hMS) (nomark _)) (pw_or1 (pt_not (pt_val (pk_call GS (hr.mono (by decide)) T.gIsStep (pa_cons (pv 6) (pa_cons (pv 3) pa_nil))))))).pt pss_never pss_nil) (pss_cons (ps_set (i := 7) scSpansOf.nd rfl (Or.inl rfl) (pk_call GO hr T.gSpanOf (pa_cons (pv 6) (pa_cons (pv 3) (pa_cons (pv 4) pa_nil))))) (pss_cons (ps_if (pt_cmpR op_gt (pe_fld (pv 7) rfl) (pv 1) (nomark _)) pss_never pss_nil) (pss_cons (ps_if (pt_cmp (pc_notN (pe_fld (pv 7) rfl))) (pss_one (ps_set (i := 4) scSpansOf.nd rfl (Or.inl rfl) (pe_op op_sub (pe_op op_add (pv 4) (pe_fld (pv 7) rfl)) (pe_fld (pv 7) rfl)))) pss_nil) (pss_cons (ps_set (i := 3) scSpansOf.nd rfl (Or.inl rfl) (pe_fld (pv 7) rfl)) (pss_one (ps_expr (pe_bm PySem.F.plainAttrs_list PySem.F.slot_list_append PySem.F.type_list_append mt_append (pv 2) (pa_cons (pv 7) pa_nil)))))))))) (pss_one (ps_ret (pk_t1 call_tuple_of T.tup b_tuple (pv 2)))))))), ?_⟩
    refine ⟨Nat.zero_le _, fun L hL => ?_⟩
    have s1 : Same H (upd H L (.lst [])) := same_upd hL
    refine ⟨_, rfl, ts, as.map V.ref, rfl, same_sqT s1 hts, ?_⟩
    have hn : (as.map V.ref).length = st.length := by rw [List.length_map, hst.len]
    refine for_it (walk_enumT (xs := as.map V.ref)) (fun i σ H2 => ∃ (ss : List Addr) (v5 v6 v7 : Option V), σ = [some (.ref ts), some (.int most), some (.ref L), some (.int (sz (st.take i))), some (.int (nk (st.take i))), v5, v6, v7] ∧
      Same H H2 ∧ H2 L = some (.lst (ss.map V.ref)) ∧ SpansAt (CS K) H2 ss (st.take i)) ⟨[], none, none, none, rfl, s1, upd_same, SpansAt.nil⟩ ?_ ?_ ?_
    · rintro i σ H2 _ ⟨ss, v5, v6, v7, _, s2, _⟩
      exact same_sqT s2 hts
    · rintro i v σ H2 H3 hi ⟨ss, v5, v6, v7, rfl, s2, hL2, sp⟩ ⟨TT, x0, y0, rfl, hT, rfl, e0, e1⟩
      rw [hn] at hi
      obtain ⟨x, hx⟩ : ∃ x, st[i]? = some x := ⟨st[i], List.getElem?_eq_getElem hi⟩
      obtain ⟨a, ha, hst2⟩ := hst.at_ i x hx
      obtain ⟨ok, lim⟩ := goes_at good hx
      have ex0 : x0 = .int (i : Nat) := (Option.some.inj e0).symm
      have ey0 : y0 = .ref a := map_at ha e1
      subst ex0 ey0
      have s3 := s2.trans (same_upd (o := .tup [.int (i : Nat), .ref a]) hT)
      refine ⟨TT, [.int (i : Nat), .ref a], rfl, .inl (.inl upd_same), rfl, _, _, rfl, _, _, rfl, rfl, ?_⟩
      have hi30 : i < 30 := by omega
      refine ⟨_, rfl, _, _, rfl, rfl, _, rfl, ?_⟩
      refine ite2 (fun h => absurd (of_decide_eq_true h) (by omega)) fun _ => ?_
      refine ⟨_, rfl, _, rfl, _, _, true, rfl, stepArg_of (same_sqT s3 hst2) ok, fun H4 s4 => ⟨true, rfl, ?_⟩⟩
      refine iteF ?_
      have s34 := s3.trans s4
      refine ⟨_, rfl, _, rfl, _, rfl, a, x, _, _, rfl, same_sqT s34 hst2, ok, fun p dx H5 hp s5 e5 => ?_⟩
      have s25 : Same H2 H5 := (same_upd (o := .tup [.int (i : Nat), .ref a]) hT).trans (s4.trans s5)
      refine ⟨_, rfl, p, _, dx, _, _, rfl, e5, T.clS, T.nS2, spF_end _ _ _, _, rfl, _, _, rfl, rfl, _, rfl, ?_⟩
      refine ite2 (fun h => absurd (of_decide_eq_true h) (by omega)) fun _ => ?_
      refine ⟨_, rfl, p, _, dx, _, _, rfl, e5, T.clS, T.nS3, spF_key _ _ _, _, rfl, ?_⟩
      have ez : sz (st.take (i + 1)) = sz (st.take i) + x.gr := by rw [take_succ hx, sz_app, sz_cons]; rfl
      have en : nk (st.take (i + 1)) = nk (st.take i) + x.ks := by rw [take_succ hx, nk_app]; simp [nk]
      have hL5 : H5 L = some (.lst (ss.map V.ref)) := s25 _ _ hL2
      have hz : (ss.map V.ref).length < sizeLine := by
        rw [List.length_map, sp.len, List.length_take]
        exact Nat.lt_of_le_of_lt (Nat.le_trans (Nat.min_le_left _ _) (Nat.le_of_lt hi30)) (by decide)
      have fin : ∃ (ss2 : List Addr) (v5 v6 v7 : Option V), ([some (.ref ts), some (.int most), some (.ref L), some (.int (sz (st.take (i + 1)))), some (.int (nk (st.take (i + 1)))), some (.int (i : Nat)), some (.ref a), some (.ref p)] : L2.St) =
          [some (.ref ts), some (.int most), some (.ref L), some (.int (sz (st.take (i + 1)))), some (.int (nk (st.take (i + 1)))), v5, v6, v7] ∧
          Same H (upd H5 L (.lst (ss.map V.ref ++ [.ref p]))) ∧ (upd H5 L (.lst (ss.map V.ref ++ [.ref p]))) L = some (.lst (ss2.map V.ref)) ∧ SpansAt (CS K) (upd H5 L (.lst (ss.map V.ref ++ [.ref p]))) ss2 (st.take (i + 1)) := by
        refine ⟨ss ++ [p], _, _, _, rfl, fun b o e => ?_, by rw [upd_same, List.map_append]; rfl, ?_⟩
        · rw [upd_ne (ne_of_none e hL)]
          exact s25 _ _ (s2 _ _ e)
        · have keep : ∀ b C d fs, H5 b = some (.ins C d fs) → (upd H5 L (.lst (ss.map V.ref ++ [.ref p]))) b = some (.ins C d fs) := fun b C d fs e => by
            rw [upd_ne (ne_of e hL5 (by intro z; cases z))]
            exact e
          have sp5 := sp.same s25
          have sp6 : SpansAt (CS K) (upd H5 L (.lst (ss.map V.ref ++ [.ref p]))) ss (st.take i) := ⟨sp5.len, fun j y hy => let ⟨b, d, h1, h2⟩ := sp5.at_ j y hy; ⟨b, d, h1, keep _ _ _ _ h2⟩⟩
          rw [take_succ hx]
          exact sp6.snoc (keep _ _ _ _ e5)
      obtain ⟨ss2, _, _, _, _, b1, b2, b3⟩ := fin
      have st2 : ∀ (s k : Int), s = (sz (st.take (i + 1)) : Nat) → k = (nk (st.take (i + 1)) : Nat) → ([some (.ref ts), some (.int most), some (.ref L), some (.int s), some (.int k), some (.int (i : Nat)), some (.ref a), some (.ref p)] : L2.St) =
          [some (.ref ts), some (.int most), some (.ref L), some (.int (sz (st.take (i + 1)))), some (.int (nk (st.take (i + 1)))), some (.int (i : Nat)), some (.ref a), some (.ref p)] := fun s k e1 e2 => by rw [e1, e2]
      cases x with
      | wr w =>
        refine ⟨_, rfl, _, rfl, p, _, dx, _, _, rfl, e5, T.clS, T.nS2, spF_end _ _ _, _, _, rfl, rfl, _, rfl, p, _, dx, _, _, rfl, e5, T.clS, T.nS1, spF_begin _ _ _, _, _, rfl, rfl, ?_⟩
        refine ⟨_, rfl, p, _, dx, _, _, rfl, e5, T.clS, T.nS2, spF_end _ _ _, ?_⟩
        refine ⟨_, rfl, .inl ⟨rfl, _, SqL.of hL5⟩, _, rfl, L, _, _, rfl, rfl, hL5, hz, ?_⟩
        refine ⟨ss2, _, _, _, st2 _ _ (by rw [ez]) ?_, b1, b2, b3⟩
        rw [en]
        simp only [Stp.ks, Stp.gr]
        omega
      | pa f0 l t =>
        refine ⟨_, rfl, p, _, dx, _, _, rfl, e5, T.clS, T.nS2, spF_end _ _ _, ?_⟩
        refine ⟨_, rfl, .inl ⟨rfl, _, SqL.of hL5⟩, _, rfl, L, _, _, rfl, rfl, hL5, hz, ?_⟩
        exact ⟨ss2, _, _, _, st2 _ _ (by rw [ez]) (by rw [en]; rfl), b1, b2, b3⟩
    · rintro σ H2 ⟨ss, v5, v6, v7, rfl, s2, hL2, sp⟩
      rw [hn, List.take_length] at sp
      refine ⟨_, rfl, L, _, rfl, .inl ⟨SqL.of hL2, fun p hp => ?_⟩⟩
      exact q p ss _ (s2.trans (same_upd hp)) (.inl (.inl upd_same)) (sp.same (same_upd hp))
end
end KL
namespace KL
open PySem PySem.Spec PyProof.Rows L2 Pk He
def spKeyAt (K : Fr) : Sp := fun vs H Q _ => ∃ (sp : Addr) (p : Nat) (ss : List Addr) (st : List Stp), vs = [.ref sp, .int p] ∧ SqT K H sp (ss.map V.ref) ∧ SpansAt (CS K) H ss st ∧ Goes most 0 st ∧ p < sz st ∧ ∀ (k : Nat) H2, Same H H2 → (ex st)[p]? = some k → Q (.int k) H2
theorem spF_source (x : Stp) (s n : Nat) : (spF x s n).lookup ("source" : Str) = some (match x with
    | .wr _ => .int 0
    | .pa f _ _ => .int f) := by
  cases x <;> rfl
theorem spF_width (x : Stp) (s n : Nat) : (spF x s n).lookup ("width" : Str) = some (match x with
    | .wr _ => .int 0
    | .pa f l _ => .int (l + 1 - f : Nat)) := by
  cases x <;> rfl
theorem map_get {ss : List Addr} {i : Nat} {a : Addr} (h : ss[i]? = some a) : (ss.map V.ref)[i]? = some (.ref a) := by
  rw [List.getElem?_map, h]
  rfl
section
variable {P : Program} {w : World} {K : Fr} {mg : Str → Option Value} {base : Heap} {f : Addr}
theorem scKeyAt : FnScope ["spans", "place", "at", "_", "rest"] ["spans", "place"] (defScope sKeyAt) := ⟨rfl, rfl, rfl, by decide +kernel, rfl, by decide +kernel, by decide +kernel⟩
theorem ok_key_at (D : Df K "key_at" "key_at" sKeyAt f) (T : Tc K mg) : Kp P w K mg base 1 f (spKeyAt K) := by
  refine kp_of D scKeyAt (fun _ _ _ _ _ _ us hl => match us, hl with | [_, _], _ => rfl) ?_ (fun cdv A outer s H vs Q E hr h => ?_)
  · rintro vs H Q E ⟨sp, p, ss, st, rfl, _⟩
    rfl
  · obtain ⟨sp, p, ss, st, rfl, hsp, hss, good, hp, q⟩ := h
    have hlen : 0 < st.length := by
      rcases st with _ | ⟨x, r⟩
      · exact absurd hp (Nat.not_lt_zero _)
      · exact Nat.succ_pos _
    refine ⟨_, (pss_cons (ps_set (i := 2) scKeyAt.nd rfl (Or.inl rfl) (pe_op op_sub (pk_b1 call_len_seq T.len b_len (pv 0)) pe_int)) (pss_cons (ps_while PassesOwn.never (pw_or (pt_cmpR op_lt (pv 1) (pe_fld (pe_ix ix_tup (pv 0) (pv 2) (fun _ _ => rfl)) rfl) (nomark _)) (pw_or1 (pt_cmp (pc_isN (pe_fld (pe_ix ix_tup (pv 0) (pv 2) (fun _ _ => rfl)) rfl))))).pt (pss_cons (ps_if (pt_cmpR op_ge (pv 1) (pe_fld (pe_ix ix_tup (pv 0) (pv 2) (fun _ _ => rfl)) rfl) (nomark _)) (pss_cons (ps_asg (pe_callB call_divmodW (by rfl) T.dm b_divmod (pa_cons (pe_op op_sub (pv 1) (pe_fld (pe_ix ix_tup (pv 0) (pv 2) (fun _ _ => rfl)) rfl)) (pa_cons (pe_fld (pe_ix ix_tup (pv 0) (pv 2) (fun _ _ => rfl)) rfl) pa_nil))) (pg_tup rfl (pgs_cons (pg_name (i := 3) scKeyAt.nd rfl (Or.inl rfl)) (pgs_cons (pg_name (i := 4) scKeyAt.nd rfl (Or.inl rfl)) pgs_nil)))) (pss_one (ps_set (i := 1) scKeyAt.nd rfl (Or.inl rfl) (pe_op op_add (pe_fld (pe_ix ix_tup (pv 0) (pv 2) (fun _ _ => rfl)) rfl) (pv 4))))) pss_nil) (pss_one (ps_set (i := 2) scKeyAt.nd rfl (Or.inl rfl) (pe_op op_sub (pv 2) pe_int))))) (pss_one (ps_ret (pe_op op_sub (pe_op op_add (pe_fld (pe_ix ix_tup (pv 0) (pv 2) (fun _ _ => rfl)) rfl) (pv 1)) (pe_fld (pe_ix ix_tup (pv 0) (pv 2) (fun _ _ => rfl)) rfl)))))), ?_⟩
    refine ⟨_, rfl, _, _, rfl, (.inr (same_sqT (Same.refl _) hsp)), _, _, rfl, rfl, ?_⟩
    refine ⟨fun m σ H2 => ∃ (pl : Nat) (v3 v4 : Option V), Same H H2 ∧ σ = [some (.ref sp), some (.int pl), some (.int m), v3, v4] ∧ m < st.length ∧ pl < sz (st.take (m + 1)) ∧ (ex st)[pl]? = (ex st)[p]?, ⟨st.length - 1, p, none, none, Same.refl _, ?_, by omega, ?_, rfl⟩, ?_⟩
    · show ([some (.ref sp), some (.int p), some (.int (((ss.map V.ref).length : Int) - 1)), none, none] : L2.St) = _
      rw [List.length_map, hss.len, show ((st.length : Int) - 1) = ((st.length - 1 : Nat) : Int) by omega]
    · rw [show st.length - 1 + 1 = st.length by omega, List.take_length]
      exact hp
    · rintro m σ H2 ⟨pl, v3, v4, s2, rfl, ha, hpl, he⟩
      obtain ⟨x, hx⟩ : ∃ x, st[m]? = some x := ⟨st[m], List.getElem?_eq_getElem ha⟩
      obtain ⟨ok, lim⟩ := goes_at good hx
      obtain ⟨b, dx, hb, e5⟩ := hss.at_ m x hx
      have hix : atI (ss.map V.ref) (m : Int) = some (.ref b) := atI_nat (map_get hb)
      have down : 0 < m → ∀ (σ' : L2.St) (H' : Hp), (∃ (pl : Nat) (v3 v4 : Option V), Same H H' ∧ σ' = [some (.ref sp), some (.int pl), some (.int (m - 1 : Nat)), v3, v4] ∧ pl < sz (st.take m) ∧ (ex st)[pl]? = (ex st)[p]?) →
          ∃ m', m' < m ∧ ∃ (pl : Nat) (v3 v4 : Option V), Same H H' ∧ σ' = [some (.ref sp), some (.int pl), some (.int m'), v3, v4] ∧ m' < st.length ∧ pl < sz (st.take (m' + 1)) ∧ (ex st)[pl]? = (ex st)[p]? := by
        rintro h0 σ' H' ⟨pl2, v3, v4, s3, rfl, h2, h3⟩
        refine ⟨m - 1, by omega, pl2, v3, v4, s3, rfl, by omega, ?_, h3⟩
        rw [show m - 1 + 1 = m by omega]
        exact h2
      have st3 : 0 < m → ∀ (z : Nat) (v3 v4 : Option V), ([some (.ref sp), some (.int z), some (.int ((m : Int) - 1)), v3, v4] : L2.St) = [some (.ref sp), some (.int z), some (.int (m - 1 : Nat)), v3, v4] := fun h0 z _ _ => by rw [show ((m : Int) - 1) = ((m - 1 : Nat) : Int) by omega]
      refine ⟨_, rfl, _, rfl, _, rfl, _, _, _, _, rfl, rfl, (same_sqT s2 hsp), hix, _, _, _, _, _, rfl, (s2 _ _ e5), T.clS, T.nS1, (spF_begin _ _ _), _, _, rfl, rfl, _, rfl, ?_⟩
      refine iB (fun h1 => ?_) fun h1 => ?_
      · have h0 : 0 < m := by
          rcases Nat.eq_zero_or_pos m with e | e
          · rw [e] at h1
            exact absurd h1 (by show ¬ ((pl : Int) < ((0 : Nat) : Int)); omega)
          · exact e
        refine iteT ?_
        refine ⟨_, down h0, ?_⟩
        refine ⟨_, rfl, _, rfl, _, rfl, _, _, _, _, rfl, rfl, (same_sqT s2 hsp), hix, _, _, _, _, _, rfl, (s2 _ _ e5), T.clS, T.nS1, (spF_begin _ _ _), _, _, rfl, rfl, _, rfl, ?_⟩
        refine iF (dF (by omega)) ?_
        refine ⟨_, rfl, _, _, rfl, rfl, ?_⟩
        exact ⟨pl, _, _, s2, st3 h0 pl _ _, by omega, he⟩
      · have h1 : sz (st.take m) ≤ pl := by omega
        cases x with
        | wr w =>
          refine ⟨_, rfl, _, rfl, _, _, _, _, rfl, rfl, (same_sqT s2 hsp), hix, _, _, _, _, _, rfl, (s2 _ _ e5), T.clS, T.nS3, rfl, _, rfl, ?_⟩
          refine iF (dF (by intro z; cases z)) ?_
          refine ⟨_, rfl, _, rfl, _, _, _, _, rfl, rfl, (same_sqT s2 hsp), hix, _, _, _, _, _, rfl, (s2 _ _ e5), T.clS, T.nS3, rfl, _, rfl, _, _, rfl, rfl, _, rfl, _, rfl, _, _, _, _, rfl, rfl, (same_sqT s2 hsp), hix, _, _, _, _, _, rfl, (s2 _ _ e5), T.clS, T.nS1, rfl, _, _, rfl, rfl, ?_⟩
          have e8 := ex_wr good hx h1 hpl
          rw [he] at e8
          have q2 := q _ _ s2 e8
          rw [show ((nk (st.take m) + (pl - sz (st.take m)) : Nat) : Int) = ((nk (st.take m) : Int) + (pl : Int)) - (sz (st.take m) : Int) by omega] at q2
          exact q2
        | pa f0 l t =>
          have okn := ok
          simp [Stp.ok] at okn
          have hz := sz_most good
          have hmost : most = 1000000000000000000 := rfl
          have hzi : sz (st.take (m + 1)) ≤ sz st := by have z := sz_app (st.take (m + 1)) (st.drop (m + 1)); rw [List.take_append_drop] at z; omega
          have h0 : 0 < m := by
            rcases Nat.eq_zero_or_pos m with e | e
            · rw [e] at okn
              exact absurd okn.1.1.2 (Nat.not_lt_zero _)
            · exact e
          obtain ⟨e8, e9⟩ := ex_pa good hx h1 hpl
          have hl18 : l < 1000000000000000000 := by omega
          refine ⟨_, rfl, _, rfl, _, _, _, _, rfl, rfl, (same_sqT s2 hsp), hix, _, _, _, _, _, rfl, (s2 _ _ e5), T.clS, T.nS3, rfl, _, rfl, ?_⟩
          refine iT (dT rfl) ?_
          refine ⟨_, down h0, ?_⟩
          refine ⟨_, rfl, _, rfl, _, rfl, _, _, _, _, rfl, rfl, (same_sqT s2 hsp), hix, _, _, _, _, _, rfl, (s2 _ _ e5), T.clS, T.nS1, rfl, _, _, rfl, rfl, _, rfl, ?_⟩
          refine iT (dT (by omega)) ?_
          refine ⟨_, rfl, _, rfl, _, rfl, _, _, _, _, rfl, rfl, (same_sqT s2 hsp), hix, _, _, _, _, _, rfl, (s2 _ _ e5), T.clS, T.nS1, rfl, _, _, rfl, rfl, _, rfl, _, rfl, _, _, _, _, rfl, rfl, (same_sqT s2 hsp), hix, _, _, _, _, _, rfl, (s2 _ _ e5), T.clS, T.nS5, rfl, _, _, rfl, (by exact divp (by omega) (by omega)), fun tp n => ?_⟩
          refine ⟨_, _, rfl, (SqT.of upd_same), rfl, _, _, rfl, _, _, rfl, rfl, _, rfl, _, rfl, _, _, _, _, rfl, rfl, (same_sqT (same_own s2 (s2.free n)) hsp), hix, _, _, _, _, _, rfl, (same_upd n _ _ (s2 _ _ e5)), T.clS, T.nS4, rfl, _, rfl, _, _, rfl, rfl, _, rfl, _, _, rfl, rfl, ?_⟩
          have e10 : ((f0 : Int) + ((pl : Int) - (sz (st.take m) : Int)) % ((l + 1 - f0 : Nat) : Int)) = ((f0 + (pl - sz (st.take m)) % (l + 1 - f0) : Nat) : Int) := by
            rw [show ((pl : Int) - (sz (st.take m) : Int)) = ((pl - sz (st.take m) : Nat) : Int) by omega]
            rfl
          have e11 : ∀ a c : Option V, ([some (.ref sp), some (.int ((f0 : Int) + ((pl : Int) - (sz (st.take m) : Int)) % ((l + 1 - f0 : Nat) : Int))), some (.int ((m : Int) - 1)), a, c] : L2.St) = [some (.ref sp), some (.int (f0 + (pl - sz (st.take m)) % (l + 1 - f0) : Nat)), some (.int (m - 1 : Nat)), a, c] := fun a c => by
            rw [e10]
            exact st3 h0 _ _ _
          exact ⟨_, _, _, s2.trans (same_upd n), e11 _ _, e9, e8.symm.trans he⟩
end
end KL
namespace KL
open PySem PySem.Spec PyProof.Rows L2 Pk He
def mv (s : Nat) : Stp → Stp
  | .wr w => .wr w
  | .pa f l t => .pa (f + s) (l + s) t
def spMoved (K : Fr) : Sp := fun vs H Q _ => ∃ (a : Addr) (x : Stp) (s : Nat), vs = [.ref a, .int s] ∧ SqT K H a (stV x) ∧ ∀ b H2, Same H H2 → SqT K H2 b (stV (mv s x)) → Q (.ref b) H2
/-- the words of the steps that write -/
def wrs (st : List Stp) : List (List Nat) := st.filterMap fun x => match x with
  | .wr w => some w
  | .pa _ _ _ => none
theorem wrs_flat (st : List Stp) : (wrs st).flatten = typed st := by
  induction st with
  | nil => rfl
  | cons x r ih =>
    cases x with
    | wr w =>
      show (w :: wrs r).flatten = w ++ typed r
      rw [List.flatten_cons, ih]
    | pa f l t => exact ih
def isWr (st : List Stp) (i : Nat) : Bool := match st[i]? with
  | some (.wr _) => true
  | _ => false
def wrV (st : List Stp) (i : Nat) : V := match st[i]? with
  | some (.wr w) => .str (sL w)
  | _ => .non
theorem keeps_wrs (st : List Stp) : ∀ n, n ≤ st.length → keeps n (isWr st) (wrV st) = ((wrs (st.take n)).map sL).map V.str
  | 0, _ => rfl
  | n + 1, h => by
    have ih := keeps_wrs st n (by omega)
    have e : st[n]? = some (st[n]'(by omega)) := List.getElem?_eq_getElem (by omega)
    rw [keeps_succ, ih, take_succ e]
    generalize st[n]'(by omega) = x at e
    unfold isWr wrV wrs
    rw [e, List.filterMap_append]
    cases x with
    | wr w => simp
    | pa f l t => simp
theorem join_is (y : Str) (p : List Str) : Txt.join y p = Str.join y p := StrLaws.glued_eq_join y p
theorem join0 : ∀ ws : List (List Nat), Txt.join (Str.ofString "") (ws.map sL) = sL ws.flatten
  | [] => rfl
  | [w] => by
    rw [join_is]
    show sL w = sL ([w].flatten)
    simp
  | w :: x :: r => by
    have ih := join0 (x :: r)
    rw [join_is] at ih ⊢
    show sL w ++ Str.ofString "" ++ Str.join (Str.ofString "") ((x :: r).map sL) = _
    rw [ih, show (Str.ofString "") = sL [] from rfl, sL_app, sL_app, List.append_nil, List.flatten_cons (l := w)]
def spTextInit (K : Fr) : Sp := fun vs H Q _ => ∃ (x dx ts : Addr) (as : List Addr) (st : List Stp), vs = [.ref x, .ref ts] ∧ H x = some (.ins (CT K) dx []) ∧ SqT K H ts (as.map V.ref) ∧ StepsAt K H as st ∧ Goes most 0 st ∧ st.length ≤ 30 ∧
  ∀ H2 sp ss, (∀ b o, b ≠ x → H b = some o → H2 b = some o) → H2 x = some (.ins (CT K) dx (txF ts sp st)) → SqT K H2 sp (ss.map V.ref) → SpansAt (CS K) H2 ss st → Q .non H2
theorem sqT_but {K : Fr} {H H2 : Hp} {r a C d : Addr} {fs : List (Str × V)} {xs : List V} (hr : H r = some (.ins C d fs)) (b : But r H H2) (h : SqT K H a xs) : SqT K H2 a xs := by
  rcases h with (h | ⟨o, h⟩) | h
  · exact .inl (.inl (b _ _ (ne_of h hr (by intro z; cases z)) h))
  · exact .inl (.inr ⟨o, b _ _ (ne_of h hr (by intro z; cases z)) h⟩)
  · exact .inr h
theorem steps_but {K : Fr} {H H2 : Hp} {r C d : Addr} {fs : List (Str × V)} {as : List Addr} {st : List Stp} (hr : H r = some (.ins C d fs)) (b : But r H H2) (h : StepsAt K H as st) : StepsAt K H2 as st :=
  ⟨h.len, fun i x hx => let ⟨a, h1, h2⟩ := h.at_ i x hx; ⟨a, h1, sqT_but hr b h2⟩⟩
theorem spans_but {CS : Addr} {H H2 : Hp} {r C d : Addr} {fs : List (Str × V)} {ss : List Addr} {st : List Stp} (hne : CS ≠ C) (hr : H r = some (.ins C d fs)) (b : But r H H2) (h : SpansAt CS H ss st) : SpansAt CS H2 ss st :=
  ⟨h.len, fun i x hx => let ⟨a, dx, h1, h2⟩ := h.at_ i x hx; ⟨a, dx, h1, b _ _ (ne_of h2 hr (by intro z; injection z with z; exact hne z)) h2⟩⟩
theorem but_upd {H : Hp} {r : Addr} {o : HO} : But r H (upd H r o) := fun b u hn e => by
  rw [upd_ne hn]
  exact e
theorem ite_same {k : Bool} {ta tb : TE} {σ : L2.St} {H : Hp} {Q : VK} (v : V) (h : Q v H) (h1 : k = true → Q v H → ta σ H Q) (h2 : k = false → Q v H → tb σ H Q) : if k = true then ta σ H Q else tb σ H Q := by
  cases k with
  | true => exact iteT (h1 rfl h)
  | false => exact iteF (h2 rfl h)
theorem put2 (a v : V) : putF "spans" v ([("_steps", a)] : List (Str × V)) = ([("_steps", a), ("spans", v)] : List (Str × V)) := (putF_new (f := "spans") (ns := ["_steps"]) rfl (by decide +kernel)).trans rfl
theorem put3 (a b v : V) : putF "_size" v ([("_steps", a), ("spans", b)] : List (Str × V)) = ([("_steps", a), ("spans", b), ("_size", v)] : List (Str × V)) := (putF_new (f := "_size") (ns := ["_steps", "spans"]) rfl (by decide +kernel)).trans rfl
theorem put4 (a b c v : V) : putF "_typed" v ([("_steps", a), ("spans", b), ("_size", c)] : List (Str × V)) = ([("_steps", a), ("spans", b), ("_size", c), ("_typed", v)] : List (Str × V)) := (putF_new (f := "_typed") (ns := ["_steps", "spans", "_size"]) rfl (by decide +kernel)).trans rfl
theorem snoc_of {α : Type} {l : List α} (h : l ≠ []) : ∃ r y, l = r ++ [y] := ⟨l.dropLast, l.getLast h, (List.dropLast_concat_getLast h).symm⟩
theorem atI_last {α : Type} {xs : List α} {y : α} : atI (xs ++ [y]) (-1) = some y := by
  unfold atI ixN
  rw [if_neg (by omega), if_pos (by simp; omega)]
  show (xs ++ [y])[((-1 : Int) + ((xs ++ [y]).length : Int)).toNat]? = some y
  have e : ((-1 : Int) + ((xs ++ [y]).length : Int)).toNat = xs.length := by
    rw [List.length_append]
    simp
    omega
  rw [e, List.getElem?_append_right (Nat.le_refl _), Nat.sub_self]
  rfl
section
variable {P : Program} {w : World} {K : Fr} {mg : Str → Option Value} {base : Heap} {f : Addr}
theorem scMoved : FnScope ["step", "shift"] ["step", "shift"] (defScope sMoved) := ⟨rfl, rfl, rfl, by decide +kernel, rfl, by decide +kernel, by decide +kernel⟩
theorem ok_moved (D : Df K "moved_step" "moved_step" sMoved f) (T : Tc K mg) : Kp P w K mg base 1 f (spMoved K) := by
  refine kp_of D scMoved (fun _ _ _ _ _ _ us hl => match us, hl with | [_, _], _ => rfl) ?_ (fun cdv A outer s H vs Q E hr h => ?_)
  · rintro vs H Q E ⟨a, x, s, rfl, _⟩
    rfl
  · obtain ⟨a, x, s, rfl, hx, q⟩ := h
    refine ⟨_, (pss_cons (ps_if (pt_cmpR op_eq (pe_ix ix_tup (pv 0) pe_int (fun _ _ => rfl)) pe_str (nomark _)) (pss_one (ps_ret (pv 0))) pss_nil) (pss_one (ps_ret (pe_tup (pa_cons pe_str (pa_cons (pe_op op_add (pe_ix ix_tup (pv 0) pe_int (fun _ _ => rfl)) (pv 1)) (pa_cons (pe_op op_add (pe_ix ix_tup (pv 0) pe_int (fun _ _ => rfl)) (pv 1)) (pa_cons (pe_ix ix_tup (pv 0) pe_int (fun _ _ => rfl)) pa_nil)))))))), ?_⟩
    cases x with
    | wr w =>
      refine ⟨_, rfl, a, _, _, _, rfl, rfl, hx, atI_nat (j := 0) rfl, rfl, _, rfl, ?_⟩
      refine iteT ?_
      exact ⟨_, rfl, q a H (Same.refl H) hx⟩
    | pa f0 l t =>
      have hb : decide (V.str "paste" = V.str "write") = false := decide_eq_false wr_ne_pa.symm
      refine ⟨_, rfl, a, _, _, _, rfl, rfl, hx, atI_nat (j := 0) rfl, rfl, _, rfl, ?_⟩
      rw [hb]
      refine iteF ?_
      refine ⟨_, rfl, a, _, _, _, rfl, rfl, hx, atI_nat (j := 1) rfl, _, rfl, _, _, rfl, rfl, _, rfl, a, _, _, _, rfl, rfl, hx, atI_nat (j := 2) rfl, _, rfl, _, _, rfl, rfl, _, rfl, a, _, _, _, rfl, rfl, hx, atI_nat (j := 3) rfl, (by show 4 ≤ sizeLine; decide), fun p hp => ?_⟩
      exact q p _ (same_upd hp) (.inl (.inl upd_same))
abbrev nInit : List Str := ["self", "steps", "step"]
theorem scInit : FnScope nInit ["self", "steps"] (defScope sInit) := ⟨rfl, rfl, rfl, by decide +kernel, rfl, by decide +kernel, by decide +kernel⟩
theorem ok_init (D : Df K "__init__" "Text.__init__" sInit f) (T : Tc K mg) (GS : Kp P w K mg base 4 (ga K "spans_of") (spSpansOf K)) :
    FnR P w K mg base CX0 5 f (fun vs H Q E => ∃ ws rest, vs = ws ++ rest ∧ ws.length = (["self"] : List Str).length ∧ rest.length ≤ sizeLine ∧ ∀ p, H p = none → spTextInit K (ws ++ [V.ref p]) (upd H p (.tup rest)) Q E) := by
  obtain ⟨fd, F⟩ := D
  obtain ⟨oc, od, kV, doc, pm, an, cdv, ct, osl, rfl, lk, hcd⟩ := (He5.fun_of F).ex
  refine StX.fn_star (ps := ["self"]) (pv := "steps") (sp := spTextInit K) lk hcd scInit StX.cxUp_none (StX.bind_star1 (B := fun l => bindArgs (PySem.W.fnOf "__init__" "Text.__init__" (defArgs sInit) (defBody sInit) (defScope sInit) .none kV doc pm an cdv ct) ⟨l, []⟩) (p1 := "self") (pv := "steps") (fun _ => rfl) (fun _ _ _ => rfl)) fun A outer s H vs Q E hr h => ?_
  obtain ⟨x, dx, ts, as, st, rfl, hx, hts, hst, good, few, q⟩ := h
  obtain ⟨tk, hMax⟩ := T.maxSize
  refine ⟨_, PSs.nox (pss_cons (ps_fld (pv 0) (pv 1) rfl) (pss_cons (ps_fld (pv 0) (pk_call GS (hr.mono (by decide)) T.gSpansOf (pa_cons (pv 1) (pa_cons (ClX.pe_cval (pe_gR T.gText)) pa_nil))) rfl) (pss_cons (ps_fld (pv 0) (pe_ifExp (pt_truth (pe_fld (pv 0) rfl) (fun _ => rfl)) (pe_fld (pe_ix ix_tup (pe_fld (pv 0) rfl) (pe_un un_neg pe_int) (fun _ _ => rfl)) rfl) pe_int) rfl) (pss_one (ps_fld (pv 0) (pe_join pe_str (pe_lc (own := [("step", 2)]) (g := gName 2) rfl scInit.nd (pi_tup (pv 1)) (blkOk_by (N := ["self", "steps", "step"]) (sc := defScope sInit) (by decide +kernel)) (fun _ _ _ _ _ => (pg_name (i := 2) scInit.nd rfl (Or.inl rfl))) (fun _ _ _ _ _ => (pts_one (pt_cmpR op_eq (pe_ix (ixT K) (pv 2) pe_int (fun _ _ => rfl)) pe_str (nomark _)))) (fun _ _ _ _ _ => (pe_ix (ixT K) (pv 2) pe_int (fun _ _ => rfl))))) rfl))))), ?_⟩
  refine ⟨_, rfl, _, rfl, x, _, dx, _, rfl, hx, T.clT, T.nT1, by decide, ?_⟩
  have e1 : putF "_steps" (.ref ts) ([] : List (Str × V)) = [(("_steps" : Str), .ref ts)] := rfl
  rw [e1]
  have b1 : But x H (upd H x (.ins (CT K) dx [(("_steps" : Str), .ref ts)])) := but_upd
  refine ⟨_, rfl, _, _, _, _, rfl, T.rd, hMax, ts, as, st, rfl, sqT_but hx b1 hts, steps_but hx b1 hst, good, few, fun sp ss H2 s2 hsp hss => ?_⟩
  have x2 : H2 x = some (.ins (CT K) dx [(("_steps" : Str), .ref ts)]) := s2 _ _ upd_same
  refine ⟨_, rfl, x, _, dx, _, rfl, x2, T.clT, T.nT2, (by show 1 < 1000; decide), ?_⟩
  rw [put2]
  have b3 : But x H2 (upd H2 x (.ins (CT K) dx [("_steps", .ref ts), ("spans", .ref sp)])) := but_upd
  generalize hH3 : upd H2 x (.ins (CT K) dx [("_steps", .ref ts), ("spans", .ref sp)]) = H3 at b3
  have x3 : H3 x = some (.ins (CT K) dx [("_steps", .ref ts), ("spans", .ref sp)]) := by
    rw [← hH3, upd_same]
  have hsp3 := sqT_but x2 b3 hsp
  have hss3 := spans_but T.csct x2 b3 hss
  have hts3 : SqT K H3 ts (as.map V.ref) := sqT_but x2 b3 (same_sqT s2 (sqT_but hx b1 hts))
  have hst3 : StepsAt K H3 as st := steps_but x2 b3 ((steps_but hx b1 hst).same s2)
  have bH : But x H H3 := b1.trans ((Same.but s2).trans b3)
  refine ⟨_, rfl, x, _, dx, _, _, rfl, x3, T.clT, T.nT2, rfl, _, .inr (.inl ⟨_, hsp3, rfl⟩), ?_⟩
  refine ite_same (.int (sz st : Nat)) ?_ (fun hk h => ?_) fun hk h => ?_
  · refine ⟨_, rfl, x, _, dx, _, rfl, x3, T.clT, T.nT3, (by show 2 < 1000; decide), ?_⟩
    rw [put3]
    have b4 : But x H3 (upd H3 x (.ins (CT K) dx [("_steps", .ref ts), ("spans", .ref sp), ("_size", .int (sz st : Nat))])) := but_upd
    generalize hH4 : upd H3 x (.ins (CT K) dx [("_steps", .ref ts), ("spans", .ref sp), ("_size", .int (sz st : Nat))]) = H4 at b4
    have x4 : H4 x = some (.ins (CT K) dx [("_steps", .ref ts), ("spans", .ref sp), ("_size", .int (sz st : Nat))]) := by
      rw [← hH4, upd_same]
    have hsp4 := sqT_but x3 b4 hsp3
    have hss4 := spans_but T.csct x3 b4 hss3
    have hts4 := sqT_but x3 b4 hts3
    have hst4 := steps_but x3 b4 hst3
    refine ⟨⟨_, rfl⟩, ⟨_, rfl, ts, rfl, ⟨_, hts4⟩, fun D hD => ?_⟩⟩
    have hn : (as.map V.ref).length = st.length := by rw [List.length_map, hst.len]
    refine lc_keep walk_tup hD (isWr st) (wrV st) (by rw [hn]; exact Nat.le_trans few (by decide)) (fun H5 s5 => same_sqT s5 hts4) ?_ ?_
    · rintro i v H5 H6 N N0 hi s5 ⟨rfl, hv⟩ h1 h2
      rw [hn] at hi
      obtain ⟨y, hy⟩ : ∃ y, st[i]? = some y := ⟨st[i], List.getElem?_eq_getElem hi⟩
      obtain ⟨a, ha, hay⟩ := hst4.at_ i y hy
      have ev : v = .ref a := map_at ha hv
      subst ev
      have hay5 := same_sqT s5 hay
      cases y with
      | wr w =>
        refine ⟨rfl, _, rfl, a, _, _, _, rfl, rfl, hay5, atI_nat (j := 0) rfl, rfl, _, rfl, ?_⟩
        refine iteT ?_
        refine ⟨_, rfl, a, _, _, _, rfl, rfl, hay5, atI_nat (j := 1) rfl, ?_⟩
        have e1 : isWr st i = true := by unfold isWr; rw [hy]
        have e2 : wrV st i = .str (sL w) := by unfold wrV; rw [hy]
        have q1 := h1 e1 _ (Same.refl _)
        rw [e2] at q1
        exact q1
      | pa f0 l t =>
        refine ⟨rfl, _, rfl, a, _, _, _, rfl, rfl, hay5, atI_nat (j := 0) rfl, rfl, _, rfl, ?_⟩
        rw [show decide (V.str "paste" = V.str "write") = false from decide_eq_false wr_ne_pa.symm]
        refine iteF ?_
        have e1 : isWr st i = false := by unfold isWr; rw [hy]
        exact h2 e1 _ (Same.refl _)
    · intro H5 s5 hD5
      rw [hn, keeps_wrs st st.length (Nat.le_refl _), List.take_length] at hD5
      have x5 := s5 _ _ x4
      refine ⟨_, D, (wrs st).map sL, rfl, rfl, .inl (SqL.of hD5), ?_, ?_⟩
      · rw [List.map_map, show ((fun z : Str => z.length) ∘ sL) = List.length from funext fun l => sL_len l, ← List.length_flatten, wrs_flat, typed_len]
        have h1 := nk_le good
        have h2 : (Str.ofString "").length = 0 := rfl
        rw [h2]
        omega
      · rw [join0, wrs_flat]
        refine ⟨_, rfl, x, _, dx, _, rfl, x5, T.clT, T.nT4, (by show 3 < 1000; decide), ?_⟩
        rw [put4]
        have b6 : But x H5 (upd H5 x (.ins (CT K) dx (txF ts sp st))) := but_upd
        refine q _ sp ss (fun b o hb e => b6 _ _ hb (s5 _ _ (b4 _ _ hb (bH _ _ hb e)))) upd_same (sqT_but x5 b6 (same_sqT s5 hsp4)) (spans_but T.csct x5 b6 (hss4.same s5))
  · have hne : st ≠ [] := by
      intro e
      subst e
      have h0 : ss = [] := List.eq_nil_of_length_eq_zero hss.len
      rw [h0] at hk
      cases hk
    obtain ⟨r, y, e⟩ := snoc_of hne
    have hl : st.length = r.length + 1 := by rw [e]; simp
    have hy : st[r.length]? = some y := by rw [e]; simp
    obtain ⟨a, da, ha, e5⟩ := hss3.at_ _ _ hy
    have hsr : (ss.map V.ref) = (ss.map V.ref).dropLast ++ [.ref a] := by
      have h1 : ss.map V.ref ≠ [] := by
        intro z
        have := hss.len
        rw [List.map_eq_nil_iff.mp z] at this
        simp at this
        omega
      have h2 : (ss.map V.ref).getLast h1 = .ref a := by
        have h3 : (ss.map V.ref)[(ss.map V.ref).length - 1]? = some (.ref a) := by
          rw [List.length_map, hss.len, hl, Nat.add_sub_cancel]
          exact map_get ha
        rw [List.getLast_eq_getElem]
        exact (List.getElem?_eq_some_iff.mp h3).2
      rw [← h2]
      exact (List.dropLast_concat_getLast h1).symm
    have hix : atI (ss.map V.ref) (-1) = some (.ref a) := by
      rw [hsr]
      exact atI_last
    have ez : sz st = sz (st.take r.length) + y.gr := by
      have e9 : st = st.take r.length ++ [y] := by
        rw [← take_succ hy, ← hl, List.take_length]
      have e10 := congrArg sz e9
      rw [sz_app, sz_cons] at e10
      exact e10
    rw [ez] at h
    refine ⟨_, rfl, x, _, dx, _, _, rfl, x3, T.clT, T.nT2, rfl, _, rfl, sp, _, _, _, rfl, rfl, hsp3, hix, a, _, da, _, _, rfl, e5, T.clS, T.nS2, spF_end _ _ _, ?_⟩
    exact h
  · have e : st = [] := by
      have h0 : ss = [] := by
        cases hq : ss with
        | nil => rfl
        | cons a r =>
          rw [hq] at hk
          cases hk
      have := hss.len
      rw [h0] at this
      exact List.eq_nil_of_length_eq_zero this.symm
    subst e
    exact h
end
end KL
namespace KL
open PySem PySem.Spec PyProof.Rows L2 Pk He
abbrev TA_ (K : Fr) (H : Hp) (x : Addr) (st : List Stp) : Prop := TextAt K (CT K) (CS K) H x st
def spInit5 (K : Fr) : Sp := fun vs H Q E => ∃ ws rest, vs = ws ++ rest ∧ ws.length = ([("self" : Str)] : List Str).length ∧ rest.length ≤ sizeLine ∧ ∀ p, H p = none → spTextInit K (ws ++ [V.ref p]) (upd H p (.tup rest)) Q E
/-- a new text of given steps: what its making asks -/
theorem make_text {K : Fr} (csct : CS K ≠ CT K) {H1 : Hp} {as : List Addr} {st : List Stp} {Q : VK} (hst : StepsAt K H1 as st) (good : Goes most 0 st) (few : st.length ≤ 30) (q : ∀ x H2, H1 x = none → Same H1 H2 → TA_ K H2 x st → Q (.ref x) H2) :
    ∀ x dx, H1 x = none → H1 dx = none → dx ≠ x → spInit5 K (V.ref x :: as.map V.ref) (upd (upd H1 dx (.own x)) x (.ins (CT K) dx [])) (fun v H2 => v = .non ∧ Q (.ref x) H2) E0 := by
  intro x dx hx hdx hne
  refine ⟨[.ref x], as.map V.ref, rfl, rfl, by rw [List.length_map, hst.len]; exact Nat.le_trans few (by decide), fun p hp => ?_⟩
  have npx : p ≠ x := fun e => by
    rw [e, upd_same] at hp
    cases hp
  have npd : p ≠ dx := fun e => by
    rw [e, upd_ne hne, upd_same] at hp
    cases hp
  have hp1 : H1 p = none := by
    rw [upd_ne npx, upd_ne npd] at hp
    exact hp
  have s1 : Same H1 (upd (upd (upd H1 dx (.own x)) x (.ins (CT K) dx [])) p (.tup (as.map V.ref))) := fun b o e => by
    rw [upd_ne (ne_of_none e hp1), upd_ne (ne_of_none e hx), upd_ne (ne_of_none e hdx)]
    exact e
  refine ⟨x, dx, p, as, st, rfl, by rw [upd_ne npx.symm, upd_same], .inl (.inl upd_same), hst.same s1, good, few, fun H2 sp ss b hx2 hsp hss => ⟨rfl, ?_⟩⟩
  have s2 : Same H1 H2 := fun b' o e => b b' o (ne_of_none e hx) (s1 _ _ e)
  refine q x H2 hx s2 ⟨good, few, dx, p, sp, as, ss, hx2, ?_, hst.same s2, hsp, hss⟩
  exact .inl (.inl (b _ _ npx upd_same))
def spOf (K : Fr) : Sp := fun vs H Q _ => ∃ (l : Addr) (as : List Addr) (st : List Stp), vs = [.ref (CT K), .ref l] ∧ H l = some (.lst (as.map V.ref)) ∧ StepsAt K H as st ∧ Goes most 0 st ∧ st.length ≤ 30 ∧ ∀ x H2, H x = none → Same H H2 → TA_ K H2 x st → Q (.ref x) H2
def spSize (K : Fr) : Sp := fun vs H Q _ => ∃ x st, vs = [.ref x] ∧ TA_ K H x st ∧ Q (.int (sz st)) H
def spTyped (K : Fr) : Sp := fun vs H Q _ => ∃ x st, vs = [.ref x] ∧ TA_ K H x st ∧ Q (.str (sL (typed st))) H
def spCheck (K : Fr) : Sp := fun vs H Q _ => ∃ (x : Addr) (p : Nat) (st : List Stp), vs = [.ref x, .int p] ∧ TA_ K H x st ∧ p < sz st ∧ Q .non H
def spCall (K : Fr) : Sp := fun vs H Q _ => ∃ (x : Addr) (p : Nat) (st : List Stp), vs = [.ref x, .int p] ∧ TA_ K H x st ∧ p < sz st ∧ ∀ (k : Nat) H2, Same H H2 → (ex st)[p]? = some k → Q (.int k) H2
section
variable {P : Program} {w : World} {K : Fr} {mg : Str → Option Value} {base : Heap} {f : Addr}
theorem scOf : FnScope ["cls", "steps"] ["cls", "steps"] (defScope sOf) := ⟨rfl, rfl, rfl, by decide +kernel, rfl, by decide +kernel, by decide +kernel⟩
theorem ok_of (D : Df K "of_steps" "Text.of_steps" sOf f) (T : Tc K mg) (GI : FnR P w K mg base CX0 5 (ma K (CT K) "__init__") (spInit5 K)) : Kp P w K mg base 7 f (spOf K) := by
  refine kp_of D scOf (fun _ _ _ _ _ _ us hl => match us, hl with | [_, _], _ => rfl) ?_ (fun cdv A outer s H vs Q E hr h => ?_)
  · rintro vs H Q E ⟨l, as, st, rfl, _⟩
    rfl
  · obtain ⟨l, as, st, rfl, hl, hst, good, few, q⟩ := h
    refine ⟨_, (pss_cons (ps_if (pt_not (pt_val (pe_callB call_isiT (by rfl) T.isi boot_isinstance (pa_cons (pv 1) (pa_cons (pe_tup (pa_cons (pe_ty T.lst b_list) (pa_cons (pe_ty T.tup b_tuple) pa_nil))) pa_nil))))) pss_never pss_nil) (pss_one (ps_ret (pe_makeSL T.mkT GI hr (i := 0) rfl (Or.inl rfl) pass0 (pv 1))))), ?_⟩
    refine ⟨_, rfl, (by show 2 ≤ sizeLine; decide), fun p hp => ?_⟩
    have s1 : Same H (upd H p (.tup [.ty "list", .ty "tuple"])) := same_upd hp
    refine ⟨.ref l, p, [.ty "list", .ty "tuple"], .type "list", [.type "list", .type "tuple"], true, rfl, upd_same, .cons (.ty _) (.cons (.ty _) .nil), .base (.lst (s1 _ _ hl)), ?_, true, rfl, ?_⟩
    · exact kitAny_cons (b := true) (kit_ty rfl) (fun z => by cases z) (fun _ => rfl)
    refine iteF ?_
    refine ⟨rfl, _, rfl, l, _, rfl, .inr (SqL.of (s1 _ _ hl)), ?_⟩
    exact make_text T.csct (hst.same s1) good few fun x H2 hx s2 t => q x H2 (s1.free hx) (s1.trans s2) t
theorem scSize : FnScope ["self"] ["self"] (defScope sSize) := ⟨rfl, rfl, rfl, by decide +kernel, rfl, by decide +kernel, by decide +kernel⟩
theorem ok_size (D : Df K "size" "Text.size" sSize f) (T : Tc K mg) : Kp P w K mg base 1 f (spSize K) := by
  refine kp_of D scSize (fun _ _ _ _ _ _ us hl => match us, hl with | [_], _ => rfl) ?_ (fun cdv A outer s H vs Q E hr h => ?_)
  · rintro vs H Q E ⟨x, st, rfl, _⟩
    rfl
  · obtain ⟨x, st, rfl, t, q⟩ := h
    obtain ⟨dx, ts, sp, as, ss, hx, _⟩ := t.obj
    exact ⟨_, (pss_one (ps_ret (pe_fld (pv 0) rfl))), _, rfl, x, _, dx, _, _, rfl, hx, T.clT, T.nT3, rfl, q⟩
theorem scTyped : FnScope ["self"] ["self"] (defScope sTyped) := ⟨rfl, rfl, rfl, by decide +kernel, rfl, by decide +kernel, by decide +kernel⟩
theorem ok_typed (D : Df K "typed_keys" "Text.typed_keys" sTyped f) (T : Tc K mg) : Kp P w K mg base 1 f (spTyped K) := by
  refine kp_of D scTyped (fun _ _ _ _ _ _ us hl => match us, hl with | [_], _ => rfl) ?_ (fun cdv A outer s H vs Q E hr h => ?_)
  · rintro vs H Q E ⟨x, st, rfl, _⟩
    rfl
  · obtain ⟨x, st, rfl, t, q⟩ := h
    obtain ⟨dx, ts, sp, as, ss, hx, _⟩ := t.obj
    exact ⟨_, (pss_one (ps_ret (pe_fld (pv 0) rfl))), _, rfl, x, _, dx, _, _, rfl, hx, T.clT, T.nT4, rfl, q⟩
theorem scCheck : FnScope ["self", "place"] ["self", "place"] (defScope sCheck) := ⟨rfl, rfl, rfl, by decide +kernel, rfl, by decide +kernel, by decide +kernel⟩
theorem ok_check (D : Df K "_check_place" "Text._check_place" sCheck f) (T : Tc K mg) (GN : Kp P w K mg base 1 (ga K "is_number") spIsNumber) : Kp P w K mg base 2 f (spCheck K) := by
  refine kp_of D scCheck (fun _ _ _ _ _ _ us hl => match us, hl with | [_, _], _ => rfl) ?_ (fun cdv A outer s H vs Q E hr h => ?_)
  · rintro vs H Q E ⟨x, p, st, rfl, _⟩
    rfl
  · obtain ⟨x, p, st, rfl, t, hp, q⟩ := h
    obtain ⟨dx, ts, sp, as, ss, hx, _⟩ := t.obj
    refine ⟨_, (pss_one (ps_if (pt_not (pt_val (pk_call GN hr T.gIsNumber (pa_cons (pv 1) (pa_cons pe_int (pa_cons (pe_op op_sub (pe_fld (pv 0) rfl) pe_int) pa_nil)))))) pss_never pss_nil)), ?_⟩
    refine ⟨_, rfl, _, rfl, x, _, dx, _, _, rfl, hx, T.clT, T.nT3, rfl, _, _, rfl, rfl, .int p, 0, _, rfl, rfl, ?_⟩
    have e : isNum (.int (p : Int)) 0 ((sz st : Int) - 1) = true := by
      show (decide ((0 : Int) ≤ p) && decide ((p : Int) ≤ (sz st : Int) - 1)) = true
      rw [decide_eq_true (by omega), decide_eq_true (by omega)]
      rfl
    refine ⟨true, congrArg V.bl e, ?_⟩
    exact q
theorem scCall : FnScope ["self", "place"] ["self", "place"] (defScope sCall) := ⟨rfl, rfl, rfl, by decide +kernel, rfl, by decide +kernel, by decide +kernel⟩
theorem lk_check (ts sp : Addr) (st : List Stp) : (txF ts sp st).lookup ("_check_place" : Str) = none := by rfl
theorem ok_call (D : Df K "__call__" "Text.__call__" sCall f) (T : Tc K mg) (GC : Kp P w K mg base 2 (ma K (CT K) "_check_place") (spCheck K)) (GK : Kp P w K mg base 1 (ga K "key_at") (spKeyAt K)) : Kp P w K mg base 3 f (spCall K) := by
  obtain ⟨fdC, psC, FC, bC, kpC⟩ := GC
  refine kp_of D scCall (fun _ _ _ _ _ _ us hl => match us, hl with | [_, _], _ => rfl) ?_ (fun cdv A outer s H vs Q E hr h => ?_)
  · rintro vs H Q E ⟨x, p, st, rfl, _⟩
    rfl
  · obtain ⟨x, p, st, rfl, t, hp, q⟩ := h
    obtain ⟨dx, ts, sp, as, ss, hx, _, _, hsp, hss⟩ := t.obj
    refine ⟨_, (pss_cons (ps_expr (pe_meth (pv 0) T.clT T.mCheck FC hr bC .nil pass0 (pa_cons (pv 1) pa_nil))) (pss_one (ps_ret (pk_call GK (hr.mono (by decide)) T.gKeyAt (pa_cons (pe_fld (pv 0) rfl) (pa_cons (pv 1) pa_nil)))))), ?_⟩
    refine ⟨_, rfl, x, dx, _, rfl, hx, lk_check _ _ _, _, rfl, x, p, st, rfl, t, hp, ?_⟩
    exact ⟨_, rfl, x, _, dx, _, _, rfl, hx, T.clT, T.nT2, rfl, _, rfl, sp, p, ss, st, rfl, hsp, hss, t.good, hp, q⟩
end
end KL
namespace KL
open PySem PySem.Spec PyProof.Rows L2 Pk He
/-! ### sums and multiples in plain Lean -/
def plus (a b : List Stp) : List Stp := a ++ b.map (mv (sz a))
theorem mv_gr (s : Nat) (x : Stp) : (mv s x).gr = x.gr := by
  cases x with
  | wr w => rfl
  | pa f l t =>
    show (l + s + 1 - (f + s)) * t = (l + 1 - f) * t
    rw [show l + s + 1 - (f + s) = l + 1 - f by omega]
theorem mv_ks (s : Nat) (x : Stp) : (mv s x).ks = x.ks := by cases x <;> rfl
theorem mv_ty (s : Nat) (x : Stp) : (mv s x).ty = x.ty := by cases x <;> rfl
theorem mv_ok {s n : Nat} {x : Stp} (h : x.ok n = true) : (mv s x).ok (s + n) = true := by
  cases x with
  | wr w => exact h
  | pa f l t =>
    simp [Stp.ok] at h
    simp [mv, Stp.ok]
    omega
theorem sz_mv (s : Nat) (b : List Stp) : sz (b.map (mv s)) = sz b := by
  unfold sz
  rw [List.map_map]
  congr 1
  exact List.map_congr_left fun x _ => mv_gr s x
theorem nk_mv (s : Nat) (b : List Stp) : nk (b.map (mv s)) = nk b := by
  unfold nk
  rw [List.map_map]
  congr 1
  exact List.map_congr_left fun x _ => mv_ks s x
theorem goes_mv {m s : Nat} : ∀ {n : Nat} {b : List Stp}, Goes m n b → s + n + sz b ≤ m → Goes m (s + n) (b.map (mv s))
  | _, [], _, _ => trivial
  | n, x :: r, h, hl => by
    rw [sz_cons] at hl
    refine ⟨mv_ok h.1, by rw [mv_gr]; omega, ?_⟩
    have ih := goes_mv (s := s) h.2.2 (by omega)
    rw [mv_gr, Nat.add_assoc]
    exact ih
theorem goes_plus {a b : List Stp} (ha : Goes most 0 a) (hb : Goes most 0 b) (hl : sz a + sz b ≤ most) : Goes most 0 (plus a b) := by
  refine goes_app.mpr ⟨ha, ?_⟩
  rw [Nat.zero_add]
  exact goes_mv (s := sz a) (n := 0) hb (by omega)
theorem sz_plus (a b : List Stp) : sz (plus a b) = sz a + sz b := by
  unfold plus
  rw [sz_app, sz_mv]
/-- times n, at least twice -/
def timesL (a : List Stp) (n : Nat) : List Stp := a ++ [.pa 0 (sz a - 1) (n - 1)]
theorem gr_pos {s : Nat} {x : Stp} (h : x.ok s = true) : 0 < x.gr := by
  cases x with
  | wr w =>
    simp [Stp.ok] at h
    exact h.1.1
  | pa f l t =>
    simp [Stp.ok] at h
    exact Nat.mul_pos (by omega) (by omega)
theorem sz_pos {a : List Stp} (ha : Goes most 0 a) (h : a ≠ []) : 0 < sz a := by
  cases a with
  | nil => exact absurd rfl h
  | cons x r =>
    rw [sz_cons]
    have := gr_pos ha.1
    omega
theorem sz_times {a : List Stp} {n : Nat} (ha : Goes most 0 a) (h : a ≠ []) (hn : 2 ≤ n) : sz (timesL a n) = n * sz a := by
  have h0 := sz_pos ha h
  unfold timesL
  rw [sz_app, sz_cons]
  show sz a + ((sz a - 1 + 1 - 0) * (n - 1) + 0) = n * sz a
  rw [show sz a - 1 + 1 - 0 = sz a by omega]
  obtain ⟨m, rfl⟩ : ∃ m, n = m + 1 := ⟨n - 1, by omega⟩
  rw [Nat.add_sub_cancel, Nat.add_mul, Nat.one_mul, Nat.add_zero, Nat.mul_comm (sz a) m, Nat.add_comm]
theorem goes_times {a : List Stp} {n : Nat} (ha : Goes most 0 a) (h : a ≠ []) (hn : 2 ≤ n) (hm : n ≤ 1000000000) (hl : n * sz a ≤ most) : Goes most 0 (timesL a n) := by
  have h0 := sz_pos ha h
  have hs := sz_times ha h hn
  refine goes_app.mpr ⟨ha, ?_, ?_, trivial⟩
  · simp [Stp.ok]
    omega
  · unfold timesL at hs
    rw [sz_app, sz_cons] at hs
    have hz : sz ([] : List Stp) = 0 := rfl
    rw [hz] at hs
    omega
/-! ### other letters -/
def relet (ls : List Nat) : Nat → List Stp → List Stp
  | _, [] => []
  | n, .wr w :: r => .wr ((ls.drop n).take w.length) :: relet ls (n + w.length) r
  | n, .pa f l t :: r => .pa f l t :: relet ls n r
theorem relet_len (ls : List Nat) : ∀ (n : Nat) (st : List Stp), (relet ls n st).length = st.length
  | _, [] => rfl
  | n, .wr w :: r => congrArg (· + 1) (relet_len ls (n + w.length) r)
  | n, .pa f l t :: r => congrArg (· + 1) (relet_len ls n r)
theorem relet_app (ls : List Nat) : ∀ (n : Nat) (a b : List Stp), relet ls n (a ++ b) = relet ls n a ++ relet ls (n + nk a) b
  | n, [], b => by simp [relet, nk]
  | n, .wr w :: a, b => by
    show _ :: relet ls (n + w.length) (a ++ b) = _ :: (relet ls (n + w.length) a ++ _)
    rw [relet_app ls (n + w.length) a b]
    simp [nk, Stp.ks, Nat.add_assoc]
  | n, .pa f l t :: a, b => by
    show _ :: relet ls n (a ++ b) = _ :: (relet ls n a ++ _)
    rw [relet_app ls n a b]
    simp [nk, Stp.ks]
/-- one step with other letters -/
def rel1 (ls : List Nat) (n : Nat) : Stp → Stp
  | .wr w => .wr ((ls.drop n).take w.length)
  | .pa f l t => .pa f l t
theorem relet_take (ls : List Nat) {st : List Stp} {i : Nat} {x : Stp} (h : st[i]? = some x) : relet ls 0 (st.take (i + 1)) = relet ls 0 (st.take i) ++ [rel1 ls (nk (st.take i)) x] := by
  rw [take_succ h, relet_app, Nat.zero_add]
  cases x <;> rfl
theorem rel1_gr {ls : List Nat} {n : Nat} {x : Stp} (h : n + x.ks ≤ ls.length) : (rel1 ls n x).gr = x.gr := by
  cases x with
  | wr w =>
    show ((ls.drop n).take w.length).length = w.length
    have h2 : n + w.length ≤ ls.length := h
    rw [List.length_take, List.length_drop]
    omega
  | pa f l t => rfl
theorem rel1_ok {ls : List Nat} {n s : Nat} {x : Stp} (h : n + x.ks ≤ ls.length) (hl : ls.all isLet = true) (ok : x.ok s = true) : (rel1 ls n x).ok s = true := by
  cases x with
  | wr w =>
    have hg : ((ls.drop n).take w.length).length = w.length := rel1_gr (x := .wr w) h
    simp only [Stp.ok, Bool.and_eq_true, decide_eq_true_eq] at ok
    show (decide (1 ≤ ((ls.drop n).take w.length).length) && decide (((ls.drop n).take w.length).length ≤ 20) && ((ls.drop n).take w.length).all isLet) = true
    rw [hg, decide_eq_true ok.1.1, decide_eq_true ok.1.2]
    rw [List.all_eq_true] at hl
    simp only [Bool.and_self, Bool.true_and, List.all_eq_true]
    intro c hc
    exact hl c (List.mem_of_mem_drop (List.mem_of_mem_take hc))
  | pa f l t => exact ok
theorem goes_relet {m : Nat} {ls : List Nat} (hl : ls.all isLet = true) : ∀ {s n : Nat} {st : List Stp}, Goes m s st → n + nk st ≤ ls.length → Goes m s (relet ls n st)
  | _, _, [], _, _ => trivial
  | s, n, x :: r, h, hn => by
    have e : nk (x :: r) = x.ks + nk r := by simp [nk]
    rw [e] at hn
    have h1 : n + x.ks ≤ ls.length := by omega
    have e2 : relet ls n (x :: r) = rel1 ls n x :: relet ls (n + x.ks) r := by cases x <;> rfl
    rw [e2]
    refine ⟨rel1_ok h1 hl h.1, by rw [rel1_gr h1]; exact h.2.1, ?_⟩
    rw [rel1_gr h1]
    exact goes_relet hl h.2.2 (by omega)
def spAdd (K : Fr) : Sp := fun vs H Q _ => ∃ (x y : Addr) (a b : List Stp), vs = [.ref x, .ref y] ∧ TA_ K H x a ∧ TA_ K H y b ∧ sz a + sz b ≤ most ∧ a.length + b.length ≤ 30 ∧ ∀ z H2, H z = none → Same H H2 → TA_ K H2 z (plus a b) → Q (.ref z) H2
def spMul (K : Fr) : Sp := fun vs H Q _ => ∃ (x : Addr) (n : Nat) (a : List Stp), vs = [.ref x, .int n] ∧ 1 ≤ n ∧ n ≤ 1000000000 ∧ TA_ K H x a ∧ (n = 1 ∨ a = [] → Q (.ref x) H) ∧
  (2 ≤ n → a ≠ [] → n * sz a ≤ most ∧ a.length < 30 ∧ ∀ z H2, H z = none → Same H H2 → TA_ K H2 z (timesL a n) → Q (.ref z) H2)
def spWith (K : Fr) : Sp := fun vs H Q _ => ∃ (x : Addr) (ls : List Nat) (st : List Stp), vs = [.ref x, .str (sL ls)] ∧ TA_ K H x st ∧ ls.length = nk st ∧ ls.all isLet = true ∧ ∀ z H2, H z = none → Same H H2 → TA_ K H2 z (relet ls 0 st) → Q (.ref z) H2
theorem yes_go {te : TE} {σ : L2.St} {H : Hp} {N : VK} {N0 : Hp → Prop} (h : te σ H N) : tYes σ H fun b H3 => if b = true then te σ H3 N else N0 H3 := by
  show (if true = true then te σ H N else N0 H)
  rw [if_pos rfl]
  exact h
/-! ### a list changes, texts stand -/
theorem sqT_butL {K : Fr} {H H2 : Hp} {r a : Addr} {ys xs : List V} (hr : H r = some (.lst ys)) (b : But r H H2) (h : SqT K H a xs) : SqT K H2 a xs := by
  rcases h with (h | ⟨o, h⟩) | h
  · exact .inl (.inl (b _ _ (ne_of h hr (by intro z; cases z)) h))
  · exact .inl (.inr ⟨o, b _ _ (ne_of h hr (by intro z; cases z)) h⟩)
  · exact .inr h
theorem steps_butL {K : Fr} {H H2 : Hp} {r : Addr} {ys : List V} {as : List Addr} {st : List Stp} (hr : H r = some (.lst ys)) (b : But r H H2) (h : StepsAt K H as st) : StepsAt K H2 as st :=
  ⟨h.len, fun i x hx => let ⟨a, h1, h2⟩ := h.at_ i x hx; ⟨a, h1, sqT_butL hr b h2⟩⟩
theorem spans_butL {CS : Addr} {H H2 : Hp} {r : Addr} {ys : List V} {ss : List Addr} {st : List Stp} (hr : H r = some (.lst ys)) (b : But r H H2) (h : SpansAt CS H ss st) : SpansAt CS H2 ss st :=
  ⟨h.len, fun i x hx => let ⟨a, dx, h1, h2⟩ := h.at_ i x hx; ⟨a, dx, h1, b _ _ (ne_of h2 hr (by intro z; cases z)) h2⟩⟩
theorem text_butL {K : Fr} {H H2 : Hp} {r x : Addr} {ys : List V} {st : List Stp} (hr : H r = some (.lst ys)) (b : But r H H2) (h : TA_ K H x st) : TA_ K H2 x st := by
  obtain ⟨dx, ts, sp, as, ss, h1, h2, h3, h4, h5⟩ := h.obj
  exact ⟨h.good, h.few, dx, ts, sp, as, ss, b _ _ (ne_of h1 hr (by intro z; cases z)) h1, sqT_butL hr b h2, steps_butL hr b h3, sqT_butL hr b h4, spans_butL hr b h5⟩
theorem steps_app {K : Fr} {H : Hp} {as bs : List Addr} {a b : List Stp} (h1 : StepsAt K H as a) (h2 : StepsAt K H bs b) : StepsAt K H (as ++ bs) (a ++ b) := by
  refine ⟨by rw [List.length_append, List.length_append, h1.len, h2.len], fun i x hx => ?_⟩
  by_cases hi : i < a.length
  · rw [List.getElem?_append_left hi] at hx
    rw [List.getElem?_append_left (by rw [h1.len]; exact hi)]
    exact h1.at_ i x hx
  · rw [List.getElem?_append_right (by omega)] at hx
    rw [List.getElem?_append_right (by rw [h1.len]; omega), h1.len]
    exact h2.at_ _ x hx
section
variable {P : Program} {w : World} {K : Fr} {mg : Str → Option Value} {base : Heap} {f : Addr}
theorem scAdd : FnScope ["self", "other", "moved", "steps", "step"] ["self", "other"] (defScope sAdd) := ⟨rfl, rfl, rfl, by decide +kernel, rfl, by decide +kernel, by decide +kernel⟩
theorem ok_add (D : Df K "__add__" "Text.__add__" sAdd f) (T : Tc K mg) (GI : FnR P w K mg base CX0 5 (ma K (CT K) "__init__") (spInit5 K)) (GM : Kp P w K mg base 1 (ga K "moved_step") (spMoved K)) : Kp P w K mg base 7 f (spAdd K) := by
  refine kp_of D scAdd (fun _ _ _ _ _ _ us hl => match us, hl with | [_, _], _ => rfl) ?_ (fun cdv A outer s H vs Q E hr h => ?_)
  · rintro vs H Q E ⟨x, y, a, b, rfl, _⟩
    rfl
  · obtain ⟨x, y, a, b, rfl, ta, tb, hl, few, q⟩ := h
    obtain ⟨dx, ts, sp, as, ss, hx, hts, hst, _⟩ := ta.obj
    obtain ⟨dy, ts2, sp2, as2, ss2, hy, hts2, hst2, _⟩ := tb.obj
    refine ⟨_, (pss_cons (ps_if (pt_not (pt_val (pe_callB (C8.call_isC T.insT) (by rfl) T.isi boot_isinstance (pa_cons (pv 1) (pa_cons (pe_gR T.gText) pa_nil))))) pss_never pss_nil) (pss_cons (ps_setLc (i := 2) (own := [("step", 4)]) (g := gName 4) (tt := tYes) rfl scAdd.nd rfl rfl (sw_true rfl rfl rfl (by decide +kernel)) (pi_tup (pe_fld (pv 1) rfl)) (blkOk_by (N := ["self", "other", "moved", "steps", "step"]) (sc := defScope sAdd) (by decide +kernel)) (fun _ _ _ _ _ => (pg_name (i := 4) scAdd.nd rfl (Or.inl rfl))) (fun _ _ _ _ _ => pts_nil) (fun _ _ _ _ _ => (pk_call GM (hr.mono (by decide)) T.gMoved (pa_cons (pv 4) (pa_cons (fldK K (pv 0)) pa_nil))))) (pss_cons (ps_set (i := 3) scAdd.nd rfl (Or.inl rfl) (pe_lst (StX.pa_star (pe_fld (pv 0) rfl) (StX.pa_star (pv 2) pa_nil)))) (pss_one (ps_ret (pe_makeS T.mkT GI hr rfl T.gText pass0 (pv 3))))))), ?_⟩
    refine ⟨_, rfl, y, dy, _, rfl, hy, true, rfl, ?_⟩
    refine iteF ?_
    refine ⟨_, rfl, y, _, dy, _, _, rfl, hy, T.clT, T.nT1, rfl, ts2, rfl, ⟨_, hts2⟩, fun D hD => ?_⟩
    have hn : (as2.map V.ref).length = b.length := by rw [List.length_map, hst2.len]
    refine lc_it (walk_tup (xs := as2.map V.ref)) (fun i H2 => Same H H2 ∧ ∃ bs, H2 D = some (.lst (bs.map V.ref)) ∧ StepsAt K H2 bs ((b.take i).map (mv (sz a)))) ⟨same_upd hD, [], upd_same, StepsAt.nil⟩ (fun i H2 _ p => same_sqT p.1 hts2) ?_ ?_
    · rintro i v H2 H3 hi ⟨s2, bs, hD2, hbs⟩ ⟨rfl, hv⟩
      rw [hn] at hi
      obtain ⟨z, hz⟩ : ∃ z, b[i]? = some z := ⟨b[i], List.getElem?_eq_getElem hi⟩
      obtain ⟨c, hc, hcz⟩ := hst2.at_ i z hz
      have ev : v = .ref c := map_at hc hv
      subst ev
      refine ⟨rfl, yes_go ?_⟩
      refine ⟨_, rfl, _, rfl, x, _, dx, _, _, rfl, s2 _ _ hx, T.clT, T.nT3, rfl, c, z, sz a, rfl, same_sqT s2 hcz, fun m H4 s4 hm => ?_⟩
      have hD4 := s4 _ _ hD2
      refine ⟨_, hD4, ?_, ?_, bs ++ [m], by rw [upd_same, List.map_append]; rfl, ?_⟩
      · rw [List.length_map, hbs.len, List.length_map, List.length_take]
        exact Nat.lt_of_le_of_lt (Nat.le_trans (Nat.min_le_right _ _) tb.few) (by decide)
      · intro q o e
        rw [upd_ne (ne_of_none e hD)]
        exact s4 _ _ (s2 _ _ e)
      · rw [take_succ hz, List.map_append]
        exact (steps_butL hD4 but_upd (hbs.same s4)).snoc (sqT_butL hD4 but_upd hm)
    · rintro H2 ⟨s2, bs, hD2, hbs⟩
      rw [hn, List.take_length] at hbs
      refine ⟨_, rfl, x, _, dx, _, _, rfl, s2 _ _ hx, T.clT, T.nT1, rfl, ts, _, rfl, .inl (same_sqT s2 hts), _, rfl, D, _, rfl, .inr (SqL.of hD2), ?_, fun p hp => ?_⟩
      · rw [List.append_nil, List.length_append, List.length_map, List.length_map, hst.len, hbs.len, List.length_map]
        exact Nat.le_trans few (by decide)
      · have e : as.map V.ref ++ (bs.map V.ref ++ []) = (as ++ bs).map V.ref := by simp
        rw [e]
        have s3 : Same H2 (upd H2 p (.lst ((as ++ bs).map V.ref))) := same_upd hp
        refine ⟨_, rfl, p, _, rfl, .inr (SqL.of upd_same), ?_⟩
        refine make_text T.csct (st := plus a b) (steps_app (hst.same (s2.trans s3)) (hbs.same s3)) (goes_plus ta.good tb.good hl) (by unfold plus; rw [List.length_append, List.length_map]; exact few) fun z H4 hz s4 t => ?_
        exact q z H4 ((s2.trans s3).free hz) (s2.trans (s3.trans s4)) t
end
end KL
namespace KL
open PySem PySem.Spec PyProof.Rows L2 Pk He
theorem dec_int_t {i j : Int} (h : i = j) : decide (V.int i = V.int j) = true := decide_eq_true (by rw [h])
theorem dec_int_f {i j : Int} (h : i ≠ j) : decide (V.int i = V.int j) = false := decide_eq_false (fun z => h (by injection z))
section
variable {P : Program} {w : World} {K : Fr} {mg : Str → Option Value} {base : Heap} {f : Addr}
theorem scMul : FnScope ["self", "other", "steps"] ["self", "other"] (defScope sMul) := ⟨rfl, rfl, rfl, by decide +kernel, rfl, by decide +kernel, by decide +kernel⟩
theorem ok_mul (D : Df K "__mul__" "Text.__mul__" sMul f) (T : Tc K mg) (GI : FnR P w K mg base CX0 5 (ma K (CT K) "__init__") (spInit5 K)) (GN : Kp P w K mg base 1 (ga K "is_number") spIsNumber) : Kp P w K mg base 7 f (spMul K) := by
  refine kp_of D scMul (fun _ _ _ _ _ _ us hl => match us, hl with | [_, _], _ => rfl) ?_ (fun cdv A outer s H vs Q E hr h => ?_)
  · rintro vs H Q E ⟨x, n, a, rfl, _⟩
    rfl
  · obtain ⟨x, n, a, rfl, h1, h2, ta, q1, q2⟩ := h
    obtain ⟨dx, ts, sp, as, ss, hx, hts, hst, _⟩ := ta.obj
    obtain ⟨tm, hMT⟩ := T.mostTimes
    have e : isNum (.int (n : Int)) 1 1000000000 = true := by
      show (decide ((1 : Int) ≤ n) && decide ((n : Int) ≤ 1000000000)) = true
      rw [decide_eq_true (by omega), decide_eq_true (by omega)]
      rfl
    refine ⟨_, (pss_cons (ps_if (pt_not (pt_val (pk_call GN (hr.mono (by decide)) T.gIsNumber (pa_cons (pv 1) (pa_cons pe_int (pa_cons (pe_gI hMT) pa_nil)))))) pss_never pss_nil) (pss_cons (ps_if (pw_or (pt_cmpR op_eq (pv 1) pe_int (nomark _)) (pw_or1 (pt_cmpR op_eq (pe_fld (pv 0) rfl) pe_int (nomark _)))).pt (pss_one (ps_ret (pv 0))) pss_nil) (pss_cons (ps_set (i := 2) scMul.nd rfl (Or.inl rfl) (pe_lst (StX.pa_star (pe_fld (pv 0) rfl) (pa_cons (pe_tup (pa_cons pe_str (pa_cons pe_int (pa_cons (pe_op op_sub (pe_fld (pv 0) rfl) pe_int) (pa_cons (pe_op op_sub (pv 1) pe_int) pa_nil))))) pa_nil)))) (pss_one (ps_ret (pe_makeS T.mkT GI hr rfl T.gText pass0 (pv 2))))))), ?_⟩
    refine ⟨_, rfl, .int n, 1, _, rfl, rfl, true, congrArg V.bl e, ?_⟩
    refine iteF ?_
    refine ⟨_, rfl, rfl, _, rfl, ?_⟩
    by_cases hn : n = 1
    · rw [dec_int_t (by omega)]
      refine iteT ?_
      exact ⟨_, rfl, q1 (.inl hn)⟩
    · rw [dec_int_f (by omega)]
      refine iteF ?_
      refine ⟨_, rfl, x, _, dx, _, _, rfl, hx, T.clT, T.nT3, rfl, rfl, _, rfl, ?_⟩
      by_cases ha : a = []
      · subst ha
        refine iteT ?_
        exact ⟨_, rfl, q1 (.inr rfl)⟩
      · have hz := sz_pos ta.good ha
        obtain ⟨hl, few, q⟩ := q2 (by omega) ha
        rw [dec_int_f (show ((sz a : Nat) : Int) ≠ 0 by omega)]
        refine iteF ?_
        refine ⟨_, rfl, x, _, dx, _, _, rfl, hx, T.clT, T.nT1, rfl, ts, _, rfl, .inl hts, _, rfl, x, _, dx, _, _, rfl, hx, T.clT, T.nT3, rfl, _, _, rfl, rfl, _, rfl, _, _, rfl, rfl, (by show 4 ≤ sizeLine; decide), fun p hp => ?_⟩
        have s1 : Same H (upd H p (.tup [.str "paste", .int 0, .int ((sz a : Int) - 1), .int ((n : Int) - 1)])) := same_upd hp
        generalize hH1 : upd H p (.tup [.str "paste", .int 0, .int ((sz a : Int) - 1), .int ((n : Int) - 1)]) = H1 at s1
        have hp1 : SqT K H1 p (stV (.pa 0 (sz a - 1) (n - 1))) := by
          rw [← hH1]
          refine .inl (.inl ?_)
          rw [upd_same]
          show some (HO.tup [.str "paste", .int 0, .int ((sz a : Int) - 1), .int ((n : Int) - 1)]) = some (HO.tup [.str "paste", .int ((0 : Nat) : Int), .int ((sz a - 1 : Nat) : Int), .int ((n - 1 : Nat) : Int)])
          rw [show ((sz a : Int) - 1) = ((sz a - 1 : Nat) : Int) by omega, show ((n : Int) - 1) = ((n - 1 : Nat) : Int) by omega]
          rfl
        refine ⟨?_, fun l hl1 => ?_⟩
        · rw [List.length_append, List.length_map, hst.len]
          exact Nat.le_trans (show a.length + 1 ≤ 30 by omega) (by decide)
        · have e2 : as.map V.ref ++ [V.ref p] = (as ++ [p]).map V.ref := by simp
          rw [e2]
          have s2 : Same H1 (upd H1 l (.lst ((as ++ [p]).map V.ref))) := same_upd hl1
          refine ⟨_, rfl, l, _, rfl, .inr (SqL.of upd_same), ?_⟩
          refine make_text T.csct (st := timesL a n) ((hst.same (s1.trans s2)).snoc (same_sqT s2 hp1)) (goes_times ta.good ha (by omega) h2 hl) (by unfold timesL; rw [List.length_append]; exact few) fun z H4 hz s4 t => ?_
          exact q z H4 ((s1.trans s2).free hz) (s1.trans (s2.trans s4)) t
end
end KL
namespace KL
open PySem PySem.Spec PyProof.Rows L2 Pk He
/-- the law's row of draws at r: the script, how far it is read, the seed, what is held -/
def RowAt (K : Fr) (S : Addr × List Int) (H : Hp) (r : Addr) : Prop := ∃ (i seed held : Int), H r = some (.lst [.ref S.1, .int i, .int seed, .int held]) ∧ SqL K H S.1 (S.2.map V.int) ∧ 0 ≤ i ∧ 0 ≤ seed ∧ seed < 2147483647 ∧ 0 ≤ held ∧ ∀ (H1 : Hp) (o : HO), SqL K H1 S.1 (S.2.map V.int) → SqL K (upd H1 r o) S.1 (S.2.map V.int)
theorem RowAt.same {K : Fr} {S : Addr × List Int} {H H2 : Hp} {r : Addr} (h : RowAt K S H r) (s : Same H H2) : RowAt K S H2 r := by
  obtain ⟨i, sd, hd, h1, h2, h3⟩ := h
  exact ⟨i, sd, hd, s _ _ h1, s.seq h2, h3⟩
theorem RowAt.lst {K : Fr} {S : Addr × List Int} {H : Hp} {r : Addr} (h : RowAt K S H r) : ∃ xs, H r = some (.lst xs) := by
  obtain ⟨i, sd, hd, h1, h2, h3⟩ := h
  exact ⟨_, h1⟩
theorem sqL_upd {K : Fr} {H : Hp} {r a : Addr} {o : HO} {xs : List V} (hne : a ≠ r) (h : SqL K H a xs) : SqL K (upd H r o) a xs := by
  rcases h with (h | ⟨u, h⟩) | h
  · exact .inl (.inl (by rw [upd_ne hne]; exact h))
  · exact .inl (.inr ⟨u, by rw [upd_ne hne]; exact h⟩)
  · exact .inr h
/-- what a draw is worth: any number below the bound; all but the row stands -/
def Draws (K : Fr) (S : Addr × List Int) (r : Addr) (H : Hp) (m : Int) (Q : VK) : Prop := ∀ (v : Int) (H2 : Hp), RowAt K S H2 r → But r H H2 → 0 ≤ v → v < m → Q (.int v) H2
def spTaken (K : Fr) : Sp := fun vs H Q _ => ∃ (r : Addr) (m : Int), vs = [.ref r, .int m] ∧ ∃ S : Addr × List Int, RowAt K S H r ∧ 0 < m ∧ m < 1073741824 ∧ Draws K S r H m Q
section
variable {P : Program} {w : World} {K : Fr} {mg : Str → Option Value} {base : Heap} {f : Addr}
theorem scTaken : FnScope ["_law_row", "_law_many", "_law_found", "_law_cell"] ["_law_row", "_law_many"] (defScope sTaken) := ⟨rfl, rfl, rfl, by decide +kernel, rfl, by decide +kernel, by decide +kernel⟩
theorem ok_taken (D : Df K "_law_taken" "_law_taken" sTaken f) (T : Tc K mg) : Kp P w K mg base 1 f (spTaken K) := by
  refine kp_of D scTaken (fun _ _ _ _ _ _ us hl => match us, hl with | [_, _], _ => rfl) ?_ (fun cdv A outer s H vs Q E hr h => ?_)
  · rintro vs H Q E ⟨r, m, rfl, _⟩
    rfl
  · obtain ⟨r, m, rfl, ⟨scr, ns⟩, ⟨i, seed, held, hrow, hscr, hi, hs0, hs1, hh, hne⟩, hm0, hm1, q⟩ := h
    have at_ : ∀ (H2 : Hp) (a b c : Int), H2 r = some (.lst [.ref scr, .int a, .int b, .int c]) → SqL K H2 r [.ref scr, .int a, .int b, .int c] := fun H2 a b c e => SqL.of e
    refine ⟨_, (pss_cons (ps_if (pt_cmpR op_gt (pe_ix ix_list (pv 0) pe_int (fun _ _ => rfl)) pe_int (nomark _)) (pss_cons (ps_set (i := 2) scTaken.nd rfl (Or.inl rfl) (pe_op op_mod (pk_t1 call_int1 T.int b_int (pe_ix ix_list (pv 0) pe_int (fun _ _ => rfl))) (pv 1))) (pss_cons (ps_asg (pe_op op_fdiv (pe_ix ix_list (pv 0) pe_int (fun _ _ => rfl)) (pv 1)) (pg_sub (pv 0) pe_int set_list)) (pss_one (ps_ret (pv 2))))) pss_nil) (pss_cons (ps_asg (pe_op op_add (pe_ix ix_list (pv 0) pe_int (fun _ _ => rfl)) pe_int) (pg_sub (pv 0) pe_int set_list)) (pss_cons (ps_if (pt_cmpR op_gt (pe_ix ix_list (pv 0) pe_int (fun _ _ => rfl)) (pk_b1 call_len_seq T.len b_len (pe_ix ix_list (pv 0) pe_int (fun _ _ => rfl))) (nomark _)) (pss_cons (ps_asg (pe_op op_mod (pk_t1 call_int1 T.int b_int (pe_op op_add (pe_op op_mul (pe_ix ix_list (pv 0) pe_int (fun _ _ => rfl)) pe_int) pe_int)) pe_int) (pg_sub (pv 0) pe_int set_list)) (pss_one (ps_ret (pe_op op_mod (pk_t1 call_int1 T.int b_int (pe_op op_fdiv (pe_ix ix_list (pv 0) pe_int (fun _ _ => rfl)) pe_int)) (pv 1))))) pss_nil) (pss_cons (ps_set (i := 3) scTaken.nd rfl (Or.inl rfl) (pe_ix ix_list (pe_ix ix_list (pv 0) pe_int (fun _ _ => rfl)) (pe_op op_sub (pe_ix ix_list (pv 0) pe_int (fun _ _ => rfl)) pe_int) (fun _ _ => rfl))) (pss_cons (ps_asg (pe_op op_mod (pk_t1 call_int1 T.int b_int (pe_op op_add (pe_op op_add (pe_op op_mul (pe_ix ix_list (pv 0) pe_int (fun _ _ => rfl)) pe_int) (pv 3)) pe_int)) pe_int) (pg_sub (pv 0) pe_int set_list)) (pss_cons (ps_if (pt_cmpR op_ge (pv 3) (pe_op op_pow pe_int pe_int) (nomark _)) (pss_one (ps_asg (pe_op op_fdiv (pv 3) (pv 1)) (pg_sub (pv 0) pe_int set_list))) pss_nil) (pss_one (ps_ret (pe_op op_mod (pk_t1 call_int1 T.int b_int (pv 3)) (pv 1)))))))))), ?_⟩
    refine ⟨_, rfl, r, _, 3, _, rfl, rfl, SqL.of hrow, rfl, _, _, rfl, rfl, _, rfl, ?_⟩
    refine ite2 (fun h1 => ?_) fun h1 => ?_
    · have h1 : 0 < held := of_decide_eq_true h1
      refine ⟨_, rfl, r, _, 3, _, rfl, rfl, SqL.of hrow, rfl, .inl ⟨_, rfl, _, rfl, _, _, rfl, rfl, hm0, ?_⟩⟩
      refine ⟨_, rfl, r, _, 3, _, rfl, rfl, SqL.of hrow, rfl, _, rfl, _, _, rfl, rfl, ⟨hm0, hm1⟩, _, rfl, r, _, 3, 3, rfl, rfl, hrow, rfl, ?_⟩
      refine ⟨_, rfl, ?_⟩
      refine q _ _ ⟨i, seed, held / m, upd_same, hne _ _ hscr, hi, hs0, hs1, Int.ediv_nonneg hh (Int.le_of_lt hm0), hne⟩ but_upd (Int.emod_nonneg _ (by omega)) (Int.emod_lt_of_pos _ hm0)
    · refine ⟨_, rfl, r, _, 1, _, rfl, rfl, SqL.of hrow, rfl, _, _, rfl, rfl, _, rfl, r, _, 1, 1, rfl, rfl, hrow, rfl, ?_⟩
      have r1 : (upd H r (.lst [.ref scr, .int (i + 1), .int seed, .int held])) r = some (.lst [.ref scr, .int (i + 1), .int seed, .int held]) := upd_same
      have q1 : SqL K (upd H r (.lst [.ref scr, .int (i + 1), .int seed, .int held])) scr (ns.map V.int) := hne _ _ hscr
      have b1 : But r H (upd H r (.lst [.ref scr, .int (i + 1), .int seed, .int held])) := but_upd
      change tSeq _ _ _ _ (upd H r (.lst [.ref scr, .int (i + 1), .int seed, .int held]))
      generalize upd H r (.lst [.ref scr, .int (i + 1), .int seed, .int held]) = H1 at r1 q1 b1
      refine ⟨_, rfl, r, _, 1, _, rfl, rfl, SqL.of r1, rfl, _, rfl, r, _, 0, _, rfl, rfl, SqL.of r1, rfl, scr, _, rfl, .inl q1, _, _, rfl, rfl, _, rfl, ?_⟩
      refine ite2 (fun h2 => ?_) fun h2 => ?_
      · refine ⟨_, rfl, r, _, 2, _, rfl, rfl, SqL.of r1, rfl, _, _, rfl, rfl, .inl ⟨by omega, by omega⟩, _, _, rfl, rfl, .inl ⟨_, rfl, _, _, rfl, rfl, (by show (0 : Int) < 2147483647; decide), _, rfl, r, _, 2, 2, rfl, rfl, r1, rfl, ?_⟩⟩
        have r2 : (upd H1 r (.lst [.ref scr, .int (i + 1), .int ((seed * 48271 + 11) % 2147483647), .int held])) r = some (.lst [.ref scr, .int (i + 1), .int ((seed * 48271 + 11) % 2147483647), .int held]) := upd_same
        have q2 : SqL K (upd H1 r (.lst [.ref scr, .int (i + 1), .int ((seed * 48271 + 11) % 2147483647), .int held])) scr (ns.map V.int) := hne _ _ q1
        have b2 : But r H (upd H1 r (.lst [.ref scr, .int (i + 1), .int ((seed * 48271 + 11) % 2147483647), .int held])) := b1.trans but_upd
        refine ⟨_, rfl, r, _, 2, _, rfl, rfl, SqL.of r2, rfl, _, _, rfl, rfl, ⟨by decide, by decide⟩, .inl ⟨_, rfl, _, rfl, _, _, rfl, rfl, hm0, ?_⟩⟩
        exact q _ _ ⟨i + 1, _, held, r2, q2, by omega, Int.emod_nonneg _ (by decide), Int.emod_lt_of_pos _ (by decide), hh, hne⟩ b2 (Int.emod_nonneg _ (by omega)) (Int.emod_lt_of_pos _ hm0)
      · have h2 : i < (ns.length : Int) := by
          rcases Int.lt_or_le i ns.length with h3 | h3
          · exact h3
          · exact absurd (decide_eq_true (by rw [List.length_map]; omega)) h2
        obtain ⟨c, hc⟩ : ∃ c, ns[i.toNat]? = some c := ⟨ns[i.toNat]'(by omega), List.getElem?_eq_getElem (by omega)⟩
        have hix : atI (ns.map V.int) (i + 1 - 1) = some (.int c) := by
          rw [show i + 1 - 1 = ((i.toNat : Nat) : Int) by omega]
          refine atI_nat ?_
          rw [List.getElem?_map, hc]
          rfl
        refine ⟨_, rfl, r, _, 0, _, rfl, rfl, SqL.of r1, rfl, _, rfl, r, _, 1, _, rfl, rfl, SqL.of r1, rfl, _, _, rfl, rfl, scr, _, _, _, rfl, rfl, q1, hix, ?_⟩
        refine ⟨_, rfl, r, _, 2, _, rfl, rfl, SqL.of r1, rfl, _, _, rfl, rfl, .inl ⟨by omega, by omega⟩, _, rfl, _, _, rfl, rfl, _, _, rfl, rfl, .inl ⟨_, rfl, _, _, rfl, rfl, (by show (0 : Int) < 2147483647; decide), _, rfl, r, _, 2, 2, rfl, rfl, r1, rfl, ?_⟩⟩
        have r2 : (upd H1 r (.lst [.ref scr, .int (i + 1), .int ((seed * 48271 + c + 11) % 2147483647), .int held])) r = some (.lst [.ref scr, .int (i + 1), .int ((seed * 48271 + c + 11) % 2147483647), .int held]) := upd_same
        have q2 : SqL K (upd H1 r (.lst [.ref scr, .int (i + 1), .int ((seed * 48271 + c + 11) % 2147483647), .int held])) scr (ns.map V.int) := hne _ _ q1
        have b2 : But r H (upd H1 r (.lst [.ref scr, .int (i + 1), .int ((seed * 48271 + c + 11) % 2147483647), .int held])) := b1.trans but_upd
        change tSeq _ _ _ _ (upd H1 r (.lst [.ref scr, .int (i + 1), .int ((seed * 48271 + c + 11) % 2147483647), .int held]))
        generalize upd H1 r (.lst [.ref scr, .int (i + 1), .int ((seed * 48271 + c + 11) % 2147483647), .int held]) = H2 at r2 q2 b2
        refine ⟨_, rfl, _, _, rfl, rfl, ⟨by decide, by decide, by decide⟩, _, _, rfl, rfl, _, rfl, ?_⟩
        refine ite2 (fun h3 => ?_) fun h3 => ?_
        · have h3 : (1000000000000000000 : Int) ≤ c := of_decide_eq_true h3
          refine ⟨_, rfl, _, rfl, _, _, rfl, rfl, ⟨hm0, hm1⟩, _, rfl, r, _, 3, 3, rfl, rfl, r2, rfl, ?_⟩
          refine ⟨_, rfl, .inl ⟨_, rfl, _, rfl, _, _, rfl, rfl, hm0, ?_⟩⟩
          exact q _ _ ⟨i + 1, _, c / m, upd_same, hne _ _ q2, by omega, Int.emod_nonneg _ (by decide), Int.emod_lt_of_pos _ (by decide), Int.ediv_nonneg (by omega) (Int.le_of_lt hm0), hne⟩ (b2.trans but_upd) (Int.emod_nonneg _ (by omega)) (Int.emod_lt_of_pos _ hm0)
        · refine ⟨_, rfl, .inl ⟨_, rfl, _, rfl, _, _, rfl, rfl, hm0, ?_⟩⟩
          exact q _ _ ⟨i + 1, _, held, r2, q2, by omega, Int.emod_nonneg _ (by decide), Int.emod_lt_of_pos _ (by decide), hh, hne⟩ b2 (Int.emod_nonneg _ (by omega)) (Int.emod_lt_of_pos _ hm0)
end
end KL
namespace KL
open PySem PySem.Spec PyProof.Rows L2 Pk He
def spWord2 (K : Fr) : Sp := fun vs H Q _ => ∃ (r : Addr) (m : Int), vs = [.ref r, .int m] ∧ ∃ S : Addr × List Int, RowAt K S H r ∧ 1 ≤ m ∧ m ≤ 20 ∧
  ∀ (ls : List Nat) (H2 : Hp), RowAt K S H2 r → But r H H2 → 1 ≤ ls.length → (ls.length : Int) ≤ m → ls.all isLet = true → Q (.str (sL ls)) H2
/-- the drawn steps stand at a -/
structure Drawn (K : Fr) (H : Hp) (a : Addr) (m c : Nat) (st : List Stp) : Prop where
  tup : ∃ as : List Addr, SqT K H a (as.map V.ref) ∧ StepsAt K H as st
  good : Goes m 0 st
  few : st.length ≤ c
  some_ : 1 ≤ c → 20 ≤ m → st ≠ []
def spSteps (K : Fr) : Sp := fun vs H Q _ => ∃ (r : Addr) (c m : Nat), vs = [.ref r, .int c, .int m] ∧ ∃ S : Addr × List Int, RowAt K S H r ∧ c ≤ 30 ∧ m ≤ 1000000 ∧
  ∀ (a : Addr) (st : List Stp) (H2 : Hp), RowAt K S H2 r → But r H H2 → Drawn K H2 a m c st → Q (.ref a) H2
section
variable {P : Program} {w : World} {K : Fr} {S : Addr × List Int} {mg : Str → Option Value} {base : Heap} {f : Addr}
theorem scWord : FnScope ["_law_row", "_law_most", "_law_word_here", "_law_k"] ["_law_row", "_law_most"] (defScope sWord) := ⟨rfl, rfl, rfl, by decide +kernel, rfl, by decide +kernel, by decide +kernel⟩
theorem abcz_at {v : Int} (h0 : 0 ≤ v) (h1 : v < 4) : ∃ c, (Str.ofString "abcz").cps[v.toNat]? = some c ∧ isLet c = true := by
  have h : v = 0 ∨ v = 1 ∨ v = 2 ∨ v = 3 := by omega
  rcases h with rfl | rfl | rfl | rfl
  · exact ⟨97, by decide +kernel, rfl⟩
  · exact ⟨98, by decide +kernel, rfl⟩
  · exact ⟨99, by decide +kernel, rfl⟩
  · exact ⟨122, by decide +kernel, rfl⟩
theorem ok_word (D : Df K "_law_word" "_law_word" sWord f) (T : Tc K mg) (GT : Kp P w K mg base 1 (ga K "_law_taken") (spTaken K)) : Kp P w K mg base 2 f (spWord2 K) := by
  refine kp_of D scWord (fun _ _ _ _ _ _ us hl => match us, hl with | [_, _], _ => rfl) ?_ (fun cdv A outer s H vs Q E hr h => ?_)
  · rintro vs H Q E ⟨r, m, rfl, _⟩
    rfl
  · obtain ⟨r, m, rfl, S, hrow, h1, h2, q⟩ := h
    refine ⟨_, (pss_cons (ps_set (i := 2) scWord.nd rfl (Or.inl rfl) pe_str) (pss_cons (ps_for PassesOwn.never rfl (pi_range1 (by rfl) T.rng (pa_cons (pe_op op_add pe_int (pk_call GT (hr.mono (by decide)) T.gTaken (pa_cons (pv 0) (pa_cons (pv 1) pa_nil)))) pa_nil)) (pg_name (i := 3) scWord.nd rfl (Or.inl rfl)) (pss_one (ps_set (i := 2) scWord.nd rfl (Or.inl rfl) (pe_op op_add_str (pv 2) (pe_item_str pe_str (pk_call GT (hr.mono (by decide)) T.gTaken (pa_cons (pv 0) (pa_cons pe_int pa_nil))) (fun _ _ => rfl)))))) (pss_one (ps_ret (pv 2))))), ?_⟩
    refine ⟨_, rfl, _, rfl, r, m, rfl, S, hrow, by omega, by omega, fun v H1 row1 b1 hv0 hv1 => ?_⟩
    refine ⟨_, _, rfl, rfl, 1 + v, rfl, by omega, by omega, ?_⟩
    refine for_range (lo := 0) (fun i σ H2 => ∃ (ls : List Nat) (v3 : Option V), σ = [some (.ref r), some (.int m), some (.str (sL ls)), v3] ∧ ls.length = i ∧ ls.all isLet = true ∧ RowAt K S H2 r ∧ But r H H2) ⟨[], none, rfl, rfl, rfl, row1, b1⟩ ?_ ?_
    · rintro i σ H2 hi ⟨ls, v3, rfl, hl, hlet, row2, b2⟩
      refine ⟨_, rfl, _, rfl, r, 4, rfl, S, row2, by decide, by decide, fun z H3 row3 b3 hz0 hz1 => ?_⟩
      obtain ⟨c, hc, hcl⟩ := abcz_at hz0 hz1
      refine ⟨_, _, c, rfl, rfl, hz0, by omega, (by show z < ((Str.ofString "abcz").length : Int); exact hz1), hc, ?_⟩
      refine ⟨sL ls, ⟨#[c]⟩, rfl, rfl, ?_, ?_⟩
      · rw [sL_len, hl]
        exact Nat.le_trans (show i + 1 ≤ 100 by omega) (by decide)
      · refine ⟨ls ++ [c], some (.int (0 + (i : Int))), ?_, by simp [hl], by rw [List.all_append, hlet]; simp [hcl], row3, b2.trans b3⟩
        show ([some (.ref r), some (.int m), some (.str (sL ls ++ sL [c])), some (.int (0 + (i : Int)))] : L2.St) = _
        rw [sL_app]
    · rintro σ H2 ⟨ls, v3, rfl, hl, hlet, row2, b2⟩
      exact ⟨_, rfl, q ls H2 row2 b2 (by omega) (by omega) hlet⟩
theorem sqT_row {H H2 : Hp} {r a : Addr} {xs : List V} (h : RowAt K S H r) (b : But r H H2) (t : SqT K H a xs) : SqT K H2 a xs := let ⟨_, hx⟩ := h.lst; sqT_butL hx b t
theorem steps_row {H H2 : Hp} {r : Addr} {as : List Addr} {st : List Stp} (h : RowAt K S H r) (b : But r H H2) (t : StepsAt K H as st) : StepsAt K H2 as st := let ⟨_, hx⟩ := h.lst; steps_butL hx b t
theorem text_row {H H2 : Hp} {r x : Addr} {st : List Stp} (h : RowAt K S H r) (b : But r H H2) (t : TA_ K H x st) : TA_ K H2 x st := let ⟨_, hx⟩ := h.lst; text_butL hx b t
/-- size == 0 or a draw is 0 -/
theorem size_or {σ : L2.St} {H : Hp} {r : Addr} {z : Int} {Q : Bool → Hp → Prop} (h4 : σ[4]? = some (some (.int z))) (h0 : σ[0]? = some (some (.ref r))) (hrow : RowAt K S H r) (q1 : ∀ H3, RowAt K S H3 r → But r H H3 → Q true H3) (q2 : z ≠ 0 → ∀ H3, RowAt K S H3 r → But r H H3 → Q false H3) :
    tOr (tTest (tOp rEq (tVar 4) (tC (.int 0)))) (tTest (tOp rEq (tCl (spTaken K) (tCons (tVar 0) (tCons (tC (.int 3)) tNil))) (tC (.int 0)))) σ H Q := by
  refine ⟨_, h4, rfl, _, rfl, ?_⟩
  by_cases hz : z = 0
  · rw [decide_eq_true (by rw [hz])]
    exact iteT (q1 H hrow (But.refl _ _))
  · rw [decide_eq_false (fun e => hz (by injection e))]
    refine iteF ?_
    refine ⟨_, h0, r, 3, rfl, S, hrow, by decide, by decide, fun v H3 row3 b3 hv0 hv1 => ⟨rfl, _, rfl, ?_⟩⟩
    by_cases hv : v = 0
    · rw [decide_eq_true (by rw [hv])]
      exact q1 H3 row3 b3
    · rw [decide_eq_false (fun e => hv (by injection e))]
      exact q2 hz H3 row3 b3
theorem row_ne {H : Hp} {r p : Addr} (h : RowAt K S H r) (hp : H p = none) : p ≠ r := fun e => by
  obtain ⟨xs, hx⟩ := h.lst
  rw [e, hx] at hp
  cases hp
theorem RowAt.upd {H : Hp} {r p : Addr} {o : HO} (h : RowAt K S H r) (hp : H p = none) : RowAt K S (L2.upd H p o) r := h.same (same_upd hp)
theorem sqL_far {H0 H : Hp} {a D : Addr} {o : HO} {xs : List V} (h0 : SqL K H0 a xs) (hD : H0 D = none) (h : SqL K H a xs) : SqL K (upd H D o) a xs := by
  rcases h0 with (h0 | ⟨u, h0⟩) | h0
  · exact sqL_upd (ne_of_none h0 hD) h
  · exact sqL_upd (ne_of_none h0 hD) h
  · exact .inr h0
/-- what was made after the row stood may change -/
theorem RowAt.far {H0 H : Hp} {r D : Addr} {o : HO} (h0 : RowAt K S H0 r) (hD : H0 D = none) (h : RowAt K S H r) : RowAt K S (L2.upd H D o) r := by
  have n := row_ne h0 hD
  obtain ⟨_, _, _, _, g0, _⟩ := h0
  obtain ⟨i, sd, hd, h1, h2, h3⟩ := h
  exact ⟨i, sd, hd, by rw [upd_ne n.symm]; exact h1, sqL_far g0 hD h2, h3⟩
theorem scSteps : FnScope ["_law_row", "_law_count", "_law_most", "_law_steps_here", "_law_size", "_law_k", "_law_word_here", "_law_first", "_law_last", "_law_times"] ["_law_row", "_law_count", "_law_most"] (defScope sSteps) := ⟨rfl, rfl, rfl, by decide +kernel, rfl, by decide +kernel, by decide +kernel⟩
theorem three_at {a b c v : Int} (h0 : 0 ≤ v) (h1 : v < 3) : ∃ x : Int, atI [V.int a, V.int b, V.int c] v = some (.int x) ∧ (x = a ∨ x = b ∨ x = c) := by
  have h : v = 0 ∨ v = 1 ∨ v = 2 := by omega
  rcases h with rfl | rfl | rfl
  · exact ⟨a, rfl, .inl rfl⟩
  · exact ⟨b, rfl, .inr (.inl rfl)⟩
  · exact ⟨c, rfl, .inr (.inr rfl)⟩
theorem two_at {a b v : Int} (h0 : 0 ≤ v) (h1 : v < 2) : ∃ x : Int, atI [V.int a, V.int b] v = some (.int x) ∧ (x = a ∨ x = b) := by
  have h : v = 0 ∨ v = 1 := by omega
  rcases h with rfl | rfl
  · exact ⟨a, rfl, .inl rfl⟩
  · exact ⟨b, rfl, .inr rfl⟩
theorem ok_steps (D : Df K "_law_steps" "_law_steps" sSteps f) (T : Tc K mg) (GT : Kp P w K mg base 1 (ga K "_law_taken") (spTaken K)) (GWd : Kp P w K mg base 2 (ga K "_law_word") (spWord2 K)) : Kp P w K mg base 3 f (spSteps K) := by
  refine kp_of D scSteps (fun _ _ _ _ _ _ us hl => match us, hl with | [_, _, _], _ => rfl) ?_ (fun cdv A outer s H vs Q E hr h => ?_)
  · rintro vs H Q E ⟨r, c, m, rfl, _⟩
    rfl
  · obtain ⟨r, c, m, rfl, S, hrow, hc, hm, q⟩ := h
    refine ⟨_, (pss_cons (ps_par (i := 3) (j := 4) rfl scSteps.nd rfl rfl (by decide) rfl rfl (pa_cons (pe_lst pa_nil) (pa_cons pe_int pa_nil)) (by rfl)) (pss_cons (ps_for PassesOwn.never rfl (pi_range1 (by rfl) T.rng (pa_cons (pv 1) pa_nil)) (pg_name (i := 5) scSteps.nd rfl (Or.inl rfl)) (pss_one (ps_if (pw_or (pt_cmpR op_eq (pv 4) pe_int (nomark _)) (pw_or1 (pt_cmpR op_eq (pk_call GT (hr.mono (by decide)) T.gTaken (pa_cons (pv 0) (pa_cons pe_int pa_nil))) pe_int (nomark _)))).pt (pss_cons (ps_set (i := 6) scSteps.nd rfl (Or.inl rfl) (pk_call GWd (hr.mono (by decide)) T.gWord (pa_cons (pv 0) (pa_cons (pe_ix ix_list (pe_lst (pa_cons pe_int (pa_cons pe_int (pa_cons pe_int pa_nil)))) (pk_call GT (hr.mono (by decide)) T.gTaken (pa_cons (pv 0) (pa_cons pe_int pa_nil))) (fun _ _ => rfl)) pa_nil)))) (pss_one (ps_if (pt_cmpR op_le (pe_op op_add (pv 4) (pk_b1 call_len_str T.len b_len (pv 6))) (pv 2) (nomark _)) (pss_one (ps_par (i := 3) (j := 4) rfl scSteps.nd rfl rfl (by decide) rfl rfl (pa_cons (pe_op op_cat (pv 3) (pe_lst (pa_cons (pe_tup (pa_cons pe_str (pa_cons (pv 6) pa_nil))) pa_nil))) (pa_cons (pe_op op_add (pv 4) (pk_b1 call_len_str T.len b_len (pv 6))) pa_nil)) (by rfl))) pss_nil))) (pss_cons (ps_set (i := 7) scSteps.nd rfl (Or.inl rfl) (pk_call GT (hr.mono (by decide)) T.gTaken (pa_cons (pv 0) (pa_cons (pv 4) pa_nil)))) (pss_cons (ps_set (i := 8) scSteps.nd rfl (Or.inl rfl) (pe_op op_add (pv 7) (pk_call GT (hr.mono (by decide)) T.gTaken (pa_cons (pv 0) (pa_cons (pe_ix ix_list (pe_lst (pa_cons (pe_op op_sub (pv 4) (pv 7)) (pa_cons (pe_callB (call_min2 rfl) (by rfl) T.min b_min (pa_cons pe_int (pa_cons (pe_op op_sub (pv 4) (pv 7)) pa_nil))) pa_nil))) (pk_call GT (hr.mono (by decide)) T.gTaken (pa_cons (pv 0) (pa_cons pe_int pa_nil))) (fun _ _ => rfl)) pa_nil))))) (pss_cons (ps_set (i := 9) scSteps.nd rfl (Or.inl rfl) (pe_op op_add pe_int (pk_call GT (hr.mono (by decide)) T.gTaken (pa_cons (pv 0) (pa_cons (pe_ix ix_list (pe_lst (pa_cons pe_int (pa_cons pe_int (pa_cons pe_int pa_nil)))) (pk_call GT (hr.mono (by decide)) T.gTaken (pa_cons (pv 0) (pa_cons pe_int pa_nil))) (fun _ _ => rfl)) pa_nil))))) (pss_one (ps_if (pt_cmpR op_le (pe_op op_add (pv 4) (pe_op op_mul (pe_op op_add (pe_op op_sub (pv 8) (pv 7)) pe_int) (pv 9))) (pv 2) (nomark _)) (pss_one (ps_par (i := 3) (j := 4) rfl scSteps.nd rfl rfl (by decide) rfl rfl (pa_cons (pe_op op_cat (pv 3) (pe_lst (pa_cons (pe_tup (pa_cons pe_str (pa_cons (pv 7) (pa_cons (pv 8) (pa_cons (pv 9) pa_nil))))) pa_nil))) (pa_cons (pe_op op_add (pv 4) (pe_op op_mul (pe_op op_add (pe_op op_sub (pv 8) (pv 7)) pe_int) (pv 9))) pa_nil)) (by rfl))) pss_nil)))))))) (pss_one (ps_ret (pk_t1 call_tuple_of T.tup b_tuple (pv 3)))))), ?_⟩
    refine ⟨Nat.zero_le _, fun L hL => ⟨_, _, rfl, ?_⟩⟩
    have nLr := row_ne hrow hL
    refine ⟨_, rfl, (c : Int), rfl, by omega, by omega, ?_⟩
    refine for_range (lo := 0) (fun i σ H2 => ∃ (L : Addr) (as : List Addr) (st : List Stp) (v5 v6 v7 v8 v9 : Option V), σ = [some (.ref r), some (.int c), some (.int m), some (.ref L), some (.int (sz st : Nat)), v5, v6, v7, v8, v9] ∧
      RowAt K S H2 r ∧ But r H H2 ∧ H2 L = some (.lst (as.map V.ref)) ∧ L ≠ r ∧ StepsAt K H2 as st ∧ Goes m 0 st ∧ st.length ≤ i ∧ (1 ≤ i → 20 ≤ m → st ≠ []))
      ⟨L, [], [], none, none, none, none, none, rfl, hrow.upd hL, (Same.but (same_upd hL)), upd_same, nLr, StepsAt.nil, trivial, Nat.le_refl _, fun h => absurd h (by decide)⟩ ?_ ?_
    · rintro i σ H2 hi ⟨L, as, st, v5, v6, v7, v8, v9, rfl, row2, b2, hL2, nLr, hst, good, hlen, hne⟩
      have hi30 : i < c := hi
      have hszm : sz st ≤ m := by
        rcases Decidable.em (st = []) with e | e
        · rw [e]
          exact Nat.zero_le _
        · have := goes_sz good e
          omega
      refine size_or rfl rfl row2 (fun H3 row3 b3 => ?_) (fun hz H3 row3 b3 => ?_)
      · refine iteT ?_
        refine ⟨_, rfl, (by show 3 ≤ sizeLine; decide), fun p hp => ?_⟩
        have npr := row_ne row3 hp
        refine ⟨_, rfl, r, 3, rfl, S, row3.upd hp, by decide, by decide, fun v H4 row4 b4 hv0 hv1 => ?_⟩
        obtain ⟨x, hx, hx2⟩ := three_at (a := 2) (b := 5) (c := 20) hv0 hv1
        refine ⟨p, _, v, _, rfl, rfl, SqL.of (b4 _ _ npr upd_same), hx, r, x, rfl, S, row4, by omega, by omega, fun ls H5 row5 b5 hl1 hl2 hlet => ?_⟩
        have b25 : But r H2 H5 := b3.trans ((Same.but (same_upd hp)).trans (b4.trans b5))
        have hL5 := b25 _ _ nLr hL2
        have hst5 : StepsAt K H5 as st := steps_row row2 b25 hst
        have hls : (sL ls).length ≤ sizeLine := by
          rw [sL_len]
          exact Nat.le_trans (show ls.length ≤ 20 by omega) (by decide)
        refine ⟨_, rfl, _, rfl, _, rfl, hls, _, _, rfl, rfl, _, rfl, _, _, rfl, rfl, _, rfl, ?_⟩
        refine ite2 (fun h1 => ?_) fun h1 => ?_
        · have h1 := of_decide_eq_true h1
          rw [sL_len] at h1
          refine ⟨_, rfl, _, rfl, (by show 2 ≤ sizeLine; decide), fun t ht => ⟨(by show 1 ≤ sizeLine; decide), fun l hl => ?_⟩⟩
          have s6 : Same H5 (upd (upd H5 t (.tup [.str "write", .str (sL ls)])) l (.lst [.ref t])) := (same_upd ht).trans (same_upd hl)
          have nlt : t ≠ l := fun e => by
            rw [← e, upd_same] at hl
            cases hl
          have htt : (upd (upd H5 t (.tup [.str "write", .str (sL ls)])) l (.lst [.ref t])) t = some (.tup [.str "write", .str (sL ls)]) := by
            rw [upd_ne nlt, upd_same]
          refine ⟨L, l, _, _, rfl, rfl, s6 _ _ hL5, upd_same, ?_, fun M2 hL6 => ?_⟩
          · rw [List.length_map, hst.len]
            exact Nat.le_trans (show st.length + 1 ≤ 100 by omega) (by decide)
          · have s7 := s6.trans (same_upd (o := .lst (as.map V.ref ++ [.ref t])) hL6)
            refine ⟨_, rfl, _, rfl, _, rfl, hls, _, _, rfl, rfl, _, _, rfl, ?_⟩
            refine ⟨M2, as ++ [t], st ++ [.wr ls], some (.int (0 + (i : Int))), some (.str (sL ls)), v7, v8, v9, ?_, row5.same s7, (b2.trans b25).trans (Same.but s7), by rw [upd_same, List.map_append]; rfl, row_ne (row5.same s6) hL6, (hst5.same s7).snoc ?_, ?_, by simp; omega, fun _ _ => by simp⟩
            · show ([some (.ref r), some (.int c), some (.int m), some (.ref M2), some (.int ((sz st : Int) + ((sL ls).length : Int))), some (.int (0 + (i : Int))), some (.str (sL ls)), v7, v8, v9] : L2.St) = [some (.ref r), some (.int c), some (.int m), some (.ref M2), some (.int (sz (st ++ [.wr ls]) : Nat)), _, _, _, _, _]
              rw [sL_len, sz_app, ← Int.natCast_add]
              rfl
            · exact .inl (.inl (same_upd hL6 _ _ htt))
            · refine goes_app.mpr ⟨good, ?_, ?_, trivial⟩
              · simp only [Stp.ok, Bool.and_eq_true, decide_eq_true_eq]
                exact ⟨⟨hl1, by omega⟩, hlet⟩
              · show 0 + sz st + ls.length ≤ m
                omega
        · refine ⟨L, as, st, _, _, _, _, _, rfl, row5, b2.trans b25, hL5, nLr, hst5, good, by omega, fun _ h20 => ?_⟩
          intro e
          subst e
          refine h1 (decide_eq_true ?_)
          rw [sL_len]
          show ((0 : Nat) : Int) + (ls.length : Int) ≤ (m : Int)
          omega
      · refine iteF ?_
        have hz0 : 0 < sz st := by omega
        refine ⟨_, rfl, _, rfl, r, (sz st : Int), rfl, S, row3, by omega, by omega, fun v H4 row4 b4 hv0 hv1 => ?_⟩
        obtain ⟨fN, rfl⟩ := Int.eq_ofNat_of_zero_le hv0
        refine ⟨_, rfl, _, rfl, _, rfl, _, rfl, _, _, rfl, rfl, _, rfl, _, rfl, _, _, rfl, rfl, _, _, rfl, (by show 2 ≤ sizeLine; decide), fun p hp => ?_⟩
        have npr := row_ne row4 hp
        refine ⟨_, rfl, r, 2, rfl, S, row4.upd hp, by decide, by decide, fun v2 H5 row5 b5 hw0 hw1 => ?_⟩
        obtain ⟨x, hx, hx2⟩ := two_at (a := (sz st : Int) - fN) (b := if (sz st : Int) - fN < 4 then (sz st : Int) - fN else 4) hw0 hw1
        have hx3 : 1 ≤ x ∧ x ≤ (sz st : Int) - fN := by
          rcases hx2 with e | e
          · omega
          · rw [e]
            split <;> omega
        refine ⟨p, _, v2, _, rfl, rfl, SqL.of (b5 _ _ npr upd_same), hx, r, x, rfl, S, row5, by omega, by omega, fun v3 H6 row6 b6 hu0 hu1 => ?_⟩
        obtain ⟨dN, rfl⟩ := Int.eq_ofNat_of_zero_le hu0
        refine ⟨_, _, rfl, rfl, ?_⟩
        refine ⟨_, rfl, (by show 3 ≤ sizeLine; decide), fun p2 hp2 => ?_⟩
        have npr2 := row_ne row6 hp2
        refine ⟨_, rfl, r, 3, rfl, S, row6.upd hp2, by decide, by decide, fun v4 H7 row7 b7 hy0 hy1 => ?_⟩
        obtain ⟨y, hy, hy2⟩ := three_at (a := 1) (b := 3) (c := 9) hy0 hy1
        refine ⟨p2, _, v4, _, rfl, rfl, SqL.of (b7 _ _ npr2 upd_same), hy, r, y, rfl, S, row7, by omega, by omega, fun v5 H8 row8 b8 ht0 ht1 => ?_⟩
        obtain ⟨tN, rfl⟩ := Int.eq_ofNat_of_zero_le ht0
        have b28 : But r H2 H8 := b3.trans (b4.trans ((Same.but (same_upd hp)).trans (b5.trans (b6.trans ((Same.but (same_upd hp2)).trans (b7.trans b8))))))
        have hL8 := b28 _ _ nLr hL2
        have hst8 : StepsAt K H8 as st := steps_row row2 b28 hst
        refine ⟨_, _, rfl, rfl, ?_⟩
        have ew : ((fN : Int) + (dN : Int) - (fN : Int) + 1) * (1 + (tN : Int)) = (((fN + dN + 1 - fN) * (1 + tN) : Nat) : Int) := by
          rw [show ((fN : Int) + (dN : Int) - (fN : Int) + 1) = ((fN + dN + 1 - fN : Nat) : Int) by omega, show (1 + (tN : Int)) = ((1 + tN : Nat) : Int) by omega, ← Int.natCast_mul]
        refine ⟨_, rfl, _, rfl, _, rfl, _, _, rfl, rfl, _, _, rfl, rfl, _, rfl, _, _, rfl, rfl, .inr ⟨by omega, by omega⟩, _, _, rfl, rfl, _, rfl, _, _, rfl, rfl, _, rfl, ?_⟩
        refine ite2 (fun h1 => ?_) fun h1 => ?_
        · have h1 := of_decide_eq_true h1
          have h1 : (sz st : Int) + ((fN : Int) + (dN : Int) - (fN : Int) + 1) * (1 + (tN : Int)) ≤ (m : Int) := h1
          rw [ew] at h1
          refine ⟨_, rfl, _, rfl, _, rfl, _, rfl, (by show 4 ≤ sizeLine; decide), fun t ht => ⟨(by show 1 ≤ sizeLine; decide), fun l hl => ?_⟩⟩
          have nlt : t ≠ l := fun e => by
            rw [← e, upd_same] at hl
            cases hl
          have s9 := (same_upd ht).trans (same_upd (o := .lst [.ref t]) hl)
          refine ⟨L, l, _, _, rfl, rfl, s9 _ _ hL8, upd_same, ?_, fun M2 hM => ?_⟩
          · rw [List.length_map, hst.len]
            exact Nat.le_trans (show st.length + 1 ≤ 100 by omega) (by decide)
          · have s10 := s9.trans (same_upd (o := .lst (as.map V.ref ++ [.ref t])) hM)
            refine ⟨_, rfl, _, rfl, _, rfl, _, _, rfl, rfl, _, _, rfl, rfl, _, rfl, _, _, rfl, rfl, .inr ⟨by omega, by omega⟩, _, _, rfl, rfl, _, _, rfl, ?_⟩
            refine ⟨M2, as ++ [t], st ++ [.pa fN (fN + dN) (1 + tN)], some (.int (0 + (i : Int))), v6, some (.int fN), some (.int ((fN : Int) + dN)), some (.int (1 + (tN : Int))), ?_, row8.same s10, (b2.trans b28).trans (Same.but s10), by rw [upd_same, List.map_append]; rfl, row_ne (row8.same s9) hM, (hst8.same s10).snoc ?_, ?_, by simp; omega, fun _ _ => by simp⟩
            · show ([some (.ref r), some (.int c), some (.int m), some (.ref M2), some (.int ((sz st : Int) + ((fN : Int) + (dN : Int) - (fN : Int) + 1) * (1 + (tN : Int)))), _, _, _, _, _] : L2.St) = [some (.ref r), some (.int c), some (.int m), some (.ref M2), some (.int (sz (st ++ [.pa fN (fN + dN) (1 + tN)]) : Nat)), _, _, _, _, _]
              rw [ew, sz_app, ← Int.natCast_add]
              rfl
            · refine .inl (.inl (same_upd hM _ _ ?_))
              rw [upd_ne nlt, upd_same]
              rfl
            · refine goes_app.mpr ⟨good, ?_, ?_, trivial⟩
              · simp only [Stp.ok, Bool.and_eq_true, decide_eq_true_eq]
                omega
              · show 0 + sz st + (fN + dN + 1 - fN) * (1 + tN) ≤ m
                omega
        · refine ⟨L, as, st, some (.int (0 + (i : Int))), v6, some (.int fN), some (.int ((fN : Int) + dN)), some (.int (1 + (tN : Int))), rfl, row8, b2.trans b28, hL8, nLr, hst8, good, by omega, fun _ _ e => ?_⟩
          rw [e] at hz0
          exact absurd hz0 (Nat.lt_irrefl _)
    · rintro σ H2 ⟨L, as, st, v5, v6, v7, v8, v9, rfl, row2, b2, hL2, nLr, hst, good, hlen, hne⟩
      refine ⟨_, rfl, L, _, rfl, .inl ⟨SqL.of hL2, fun p hp => ?_⟩⟩
      exact q p st _ (row2.upd hp) (b2.trans (Same.but (same_upd hp))) ⟨⟨as, .inl (.inl upd_same), hst.same (same_upd hp)⟩, good, hlen, hne⟩
end
end KL
namespace KL
open PySem PySem.Spec PyProof.Rows L2 Pk He
section
variable {P : Program} {w : World} {K : Fr} {mg : Str → Option Value} {base : Heap} {f : Addr}
theorem fn_of {P : Program} {w : World} {K : PySem.W.Frag} {mg : Str → Option Value} {base : Heap} {k : Nat} {f : Addr} {sp : Sp} {x qual : Str} {st : Stmt} {kws : List (Str × V)} {N ps : List Str} {fd : FuncData} (F : FunD K x qual (defArgs st) (defBody st) (defScope st) [] kws f fd) (S : FnScope N ps (defScope st))
    (len : ∀ vs H Q E, sp vs H Q E → vs.length = ps.length)
    (hbody : ∀ (cdv : Value) (A : Around) (outer : List Env) (s : Shared) (H : Hp) (vs : List V) (Q : VK) (E : XK), Room k (A.deeper (envOfC qual (defScope st) s.heap.objs.size f cdv)) → sp vs H Q E →
      ∃ t, PSs (cxOf CX0 P w K mg base N qual (defScope st) f cdv A outer s H E).nox (defBody st) t ∧ t { nx := fun _ H' => Q .non H', rt := Q } (start N vs) H) : FnOk P w K mg base CX0 (k + 1) f fd ps sp := F.ok S len fun cdv A outer s H vs Q E hr h => by
  obtain ⟨t, h1, h2⟩ := hbody cdv A outer s H vs Q E hr h
  exact ⟨t, h1.nox, h2⟩
/-- numbers as values -/
def nV (l : List Nat) : List V := l.map fun k => V.int (k : Nat)
theorem nV_len (l : List Nat) : (nV l).length = l.length := List.length_map ..
theorem map_getD (l : List Nat) : (List.range l.length).map (fun i => V.int ((l.getD i 0 : Nat))) = nV l := by
  unfold nV
  refine List.ext_getElem (by simp) fun i h1 h2 => ?_
  simp only [List.length_map, List.length_range] at h1
  simp [List.getD_eq_getElem?_getD, List.getElem?_eq_getElem h1]
theorem typed_small {H : Hp} {x : Addr} {st : List Stp} (t : TA_ K H x st) : (sL (typed st)).length ≤ 600 := by
  rw [sL_len, typed_len]
  have h1 := nk_le t.good
  have h2 := t.few
  omega
theorem lk_with (ts sp : Addr) (st : List Stp) : (txF ts sp st).lookup ("with_letters" : Str) = none := by rfl
theorem sum_one (ls : List Nat) : ((ls.map (fun c => sL [c])).map (·.length)).sum = ls.length := by
  induction ls with
  | nil => rfl
  | cons c r ih =>
    simp only [List.map_cons, List.sum_cons, ih, List.length_cons, sL_len, List.length_nil]
    omega
theorem join_one (ls : List Nat) : Txt.join (Str.ofString "") (ls.map (fun c => sL [c])) = sL ls := by
  have h : ∀ l : List Nat, TL.joinL [] (l.map fun c => [c]) = l := by
    intro l
    induction l with
    | nil => rfl
    | cons c r ih =>
      cases r with
      | nil => rfl
      | cons d r => exact congrArg (c :: ·) ih
  have h1 : (Txt.join (Str.ofString "") (ls.map (fun c => sL [c]))).cps.toList = ls := by
    rw [TL.join_eq]
    refine (TL.tl_join _ _).trans ?_
    rw [List.map_map]
    exact h ls
  rw [sL_of (Txt.join (Str.ofString "") (ls.map (fun c => sL [c]))), h1]
theorem nV_at {l : List Nat} {i : Nat} {x : V} (h : (nV l)[i]? = some x) : ∃ k, l[i]? = some k ∧ x = .int (k : Nat) := by
  unfold nV at h
  rw [List.getElem?_map] at h
  cases e : l[i]? with
  | none => rw [e] at h; cases h
  | some k => rw [e] at h; cases h; exact ⟨k, rfl, rfl⟩
theorem ins_row {K : Fr} {S : Addr × List Int} {H H2 : Hp} {r x C dx : Addr} {fs : List (Str × V)} (h : RowAt K S H r) (b : But r H H2) (hx : H x = some (.ins C dx fs)) : H2 x = some (.ins C dx fs) := by
  obtain ⟨_, hr⟩ := h.lst
  exact b _ _ (ne_of hx hr (by intro z; cases z)) hx
theorem keys_pos {st : List Stp} (h0 : 0 < sz st) (hl : (ex st).length = sz st) : 0 < nk st := by
  cases e : ex st with
  | nil =>
    rw [e] at hl
    simp at hl
    omega
  | cons k r =>
    have := ex_lt st k (by rw [e]; exact List.mem_cons_self)
    omega
theorem typed_let {m : Nat} : ∀ {s : Nat} {st : List Stp}, Goes m s st → (typed st).all isLet = true
  | _, [], _ => rfl
  | s, .wr w :: r, h => by
    have h1 := h.1
    simp only [Stp.ok, Bool.and_eq_true] at h1
    have h2 := typed_let h.2.2
    show (w ++ typed r).all isLet = true
    rw [List.all_append, h1.2, h2]
    rfl
  | s, .pa f l t :: r, h => typed_let (st := r) h.2.2
def iD (l : List Nat) : List PyData := l.map fun k => .int (k : Nat)
def nD (l : List Nat) : PyData := .list (iD l)
theorem iD_dp {K : Fr} {H : Hp} : ∀ l : List Nat, DpAll K H (nV l) (iD l)
  | [] => .nil
  | k :: r => .cons (.int _) (iD_dp r)
theorem nD_dp {K : Fr} {H : Hp} {a : Addr} {l : List Nat} (h : H a = some (.lst (nV l))) : Dp K H (.ref a) (nD l) := .lst (SqL.of h) (iD_dp l)
theorem iD_lay : ∀ l : List Nat, PyData.canLayAll0 (iD l) = true
  | [] => by simp [iD, PyData.canLayAll0]
  | k :: r => by
    have := iD_lay r
    show PyData.canLayAll0 (PyData.int (k : Nat) :: iD r) = true
    simp [PyData.canLayAll0, PyData.canLay0, this]
theorem iD_depth : ∀ l : List Nat, PyData.depthAll (iD l) ≤ 1
  | [] => by simp [iD, PyData.depthAll]
  | k :: r => by
    have := iD_depth r
    show PyData.depthAll (PyData.int (k : Nat) :: iD r) ≤ 1
    simp only [PyData.depthAll, PyData.depth]
    omega
theorem nD_shaped (l : List Nat) : SeqAt.shaped (nD l) = true := by
  have h1 := iD_depth l
  have h2 : PyData.depth (nD l) ≤ 64 := by
    simp only [nD, PyData.depth]
    omega
  show (PyData.canLay0 (nD l) && decide (PyData.depth (nD l) ≤ 64)) = true
  rw [decide_eq_true h2, Bool.and_true]
  simp only [nD, PyData.canLay0]
  exact iD_lay l
theorem iD_eqv : ∀ a b : List Nat, PyData.eqvAll (iD a) (iD b) = decide (a = b)
  | [], [] => by simp [iD, PyData.eqvAll]
  | [], _ :: _ => by simp [iD, PyData.eqvAll]
  | _ :: _, [] => by simp [iD, PyData.eqvAll]
  | a :: r, b :: s => by
    have := iD_eqv r s
    show (PyData.eqv (.int (a : Nat)) (.int (b : Nat)) && PyData.eqvAll (iD r) (iD s)) = _
    rw [this]
    simp only [PyData.eqv]
    rw [Bool.eq_iff_iff]
    simp
    omega
theorem nD_eqv (a b : List Nat) : PyData.eqv (nD a) (nD b) = decide (a = b) := by
  simp only [nD, PyData.eqv]
  exact iD_eqv a b
theorem exF_relet (ls : List Nat) : ∀ (st : List Stp) (n : Nat) (E : List Nat) (k : Nat), n + nk st ≤ ls.length → exF E k (relet ls n st) = exF E k st
  | [], _, _, _, _ => rfl
  | .wr w :: r, n, E, k, h => by
    have e1 : nk (.wr w :: r) = w.length + nk r := by simp [nk, Stp.ks]
    have e2 : ((ls.drop n).take w.length).length = w.length := by
      rw [List.length_take, List.length_drop]
      omega
    show exF (E ++ List.range' k ((ls.drop n).take w.length).length) (k + ((ls.drop n).take w.length).length) (relet ls (n + w.length) r) = exF (E ++ List.range' k w.length) (k + w.length) r
    rw [e2]
    exact exF_relet ls r _ _ _ (by omega)
  | .pa f l t :: r, n, E, k, h => by
    have e1 : nk (.pa f l t :: r) = nk r := by simp [nk, Stp.ks]
    exact exF_relet ls r n _ _ (by omega)
theorem ex_relet {ls : List Nat} {st : List Stp} (h : ls.length = nk st) : ex (relet ls 0 st) = ex st := exF_relet ls st 0 [] 0 (by omega)
theorem ex_take {most : Nat} {st : List Stp} (h : Goes most 0 st) (j : Nat) : ex (st.take j) = (ex st).take (sz (st.take j)) := by
  obtain ⟨F, e⟩ := ex_pre (st.take j) (st.drop j)
  rw [List.take_append_drop] at e
  rw [e, ← ex_len _ (goes_take h j), List.take_left]
theorem sz_take_lt {st : List Stp} (h : Goes most 0 st) {j : Nat} (hj : j < st.length) : sz (st.take j) < sz st := by
  have e : st = st.take j ++ st.drop j := (List.take_append_drop _ _).symm
  have hx : st.drop j = st[j] :: st.drop (j + 1) := List.drop_eq_getElem_cons hj
  have e2 := congrArg sz e
  rw [sz_app, hx, sz_cons] at e2
  have := gr_pos (goes_at h (List.getElem?_eq_getElem hj)).1
  omega
theorem cut_refs (as : List Addr) (k : Nat) : cutV (as.map V.ref) none (some (k : Int)) = (as.take k).map V.ref := by
  unfold cutV
  rw [HT.sIx_nat, HT.sIx_none, List.drop_zero, Nat.sub_zero, List.length_map, List.map_take, List.take_eq_take_iff, List.length_map]
  omega
theorem steps_take {K : Fr} {H : Hp} {as : List Addr} {st : List Stp} (h : StepsAt K H as st) (k : Nat) : StepsAt K H (as.take k) (st.take k) := by
  refine ⟨by rw [List.length_take, List.length_take, h.len], fun i x hx => ?_⟩
  have hi : i < k := by
    have := (List.getElem?_eq_some_iff.mp hx).1
    rw [List.length_take] at this
    omega
  rw [List.getElem?_take_of_lt hi] at hx ⊢
  exact h.at_ i x hx
end
end KL
namespace KL
open PySem PySem.Spec PyProof.Rows L2 Pk He
/-! ### steps as data -/
def stD : Stp → PyData
  | .wr w => .tuple [.str "write", .str (sL w)]
  | .pa f l t => .tuple [.str "paste", .int (f : Nat), .int (l : Nat), .int (t : Nat)]
def spStepsP (K : Fr) : Sp := fun vs H Q _ => ∃ (x : Addr) (st : List Stp), vs = [.ref x] ∧ TA_ K H x st ∧ ∀ (ts : Addr) (as : List Addr), SqT K H ts (as.map V.ref) → StepsAt K H as st → Q (.ref ts) H
def spGet (K : Fr) : Sp := fun vs H Q _ => ∃ (x : Addr) (p : Nat) (st : List Stp), vs = [.ref x, .int p] ∧ TA_ K H x st ∧ p < sz st ∧ ∀ (k c : Nat) H2, Same H H2 → (ex st)[p]? = some k → (typed st)[k]? = some c → Q (.str (sL [c])) H2
def hasV (st : List Stp) : V → Bool
  | .str z => (match z.cps.toList with
    | [c] => isLet c && decide (c ∈ typed st)
    | _ => false)
  | _ => false
def spHas (K : Fr) : Sp := fun vs H Q _ => ∃ (x : Addr) (v : V) (st : List Stp), vs = [.ref x, v] ∧ TA_ K H x st ∧ flatV v = true ∧ fitV v ∧ Q (.bl (hasV st v)) H
section
variable {P : Program} {w : World} {K : Fr} {mg : Str → Option Value} {base : Heap} {f : Addr}
theorem scStepsP : FnScope ["self"] ["self"] (defScope sStepsP) := ⟨rfl, rfl, rfl, by decide +kernel, rfl, by decide +kernel, by decide +kernel⟩
theorem ok_stepsp (D : Df K "steps" "Text.steps" sStepsP f) (T : Tc K mg) : Kp P w K mg base 1 f (spStepsP K) := by
  refine kp_of D scStepsP (fun _ _ _ _ _ _ us hl => match us, hl with | [_], _ => rfl) ?_ (fun cdv A outer s H vs Q E hr h => ?_)
  · rintro vs H Q E ⟨x, st, rfl, _⟩
    rfl
  · obtain ⟨x, st, rfl, t, q⟩ := h
    obtain ⟨dx, ts, sp, as, ss, hx, hts, hst, _⟩ := t.obj
    exact ⟨_, (pss_one (ps_ret (pe_fld (pv 0) rfl))), _, rfl, x, _, dx, _, _, rfl, hx, T.clT, T.nT1, rfl, q ts as hts hst⟩
theorem scGet : FnScope ["self", "at"] ["self", "at"] (defScope sGet) := ⟨rfl, rfl, rfl, by decide +kernel, rfl, by decide +kernel, by decide +kernel⟩
theorem ok_get (D : Df K "__getitem__" "Text.__getitem__" sGet f) (T : Tc K mg) (GC : Kp P w K mg base 2 (ma K (CT K) "_check_place") (spCheck K)) (GK : Kp P w K mg base 1 (ga K "key_at") (spKeyAt K)) : Kp P w K mg base 3 f (spGet K) := by
  obtain ⟨fdC, psC, FC, bC, kpC⟩ := GC
  refine kp_of D scGet (fun _ _ _ _ _ _ us hl => match us, hl with | [_, _], _ => rfl) ?_ (fun cdv A outer s H vs Q E hr h => ?_)
  · rintro vs H Q E ⟨x, p, st, rfl, _⟩
    rfl
  · obtain ⟨x, p, st, rfl, t, hp, q⟩ := h
    obtain ⟨dx, ts, sp, as, ss, hx, _, _, hsp, hss⟩ := t.obj
    have hz := typed_small t
    refine ⟨_, (pss_cons (ps_expr (pe_meth (pv 0) T.clT T.mCheck FC (hr.mono (by decide)) bC .nil pass0 (pa_cons (pv 1) pa_nil))) (pss_one (ps_ret (pe_item_str (pe_fld (pv 0) rfl) (pk_call GK (hr.mono (by decide)) T.gKeyAt (pa_cons (pe_fld (pv 0) rfl) (pa_cons (pv 1) pa_nil))) (fun _ _ => rfl))))), ?_⟩
    refine ⟨_, rfl, x, dx, _, rfl, hx, lk_check _ _ _, _, rfl, x, p, st, rfl, t, hp, ?_⟩
    refine ⟨_, rfl, x, _, dx, _, _, rfl, hx, T.clT, T.nT4, rfl, _, rfl, x, _, dx, _, _, rfl, hx, T.clT, T.nT2, rfl, _, rfl, sp, p, ss, st, rfl, hsp, hss, t.good, hp, fun k H2 s2 hk => ?_⟩
    have hkn := ex_lt st k (List.mem_of_getElem? hk)
    obtain ⟨c, hc⟩ : ∃ c, (typed st)[k]? = some c := ⟨(typed st)[k]'(by rw [typed_len]; exact hkn), List.getElem?_eq_getElem _⟩
    rw [sL_len, typed_len] at hz
    refine ⟨_, _, c, rfl, rfl, by omega, by omega, by rw [sL_len, typed_len]; omega, ?_, q k c H2 s2 hk hc⟩
    rw [Int.toNat_natCast, ← Array.getElem?_toList]
    exact hc
theorem scHas : FnScope ["self", "x"] ["self", "x"] (defScope sHas) := ⟨rfl, rfl, rfl, by decide +kernel, rfl, by decide +kernel, by decide +kernel⟩
theorem ok_has (D : Df K "__contains__" "Text.__contains__" sHas f) (T : Tc K mg) (GL : Kp P w K mg base 1 (ga K "is_letter") spIsLetter) : Kp P w K mg base 2 f (spHas K) := by
  refine kp_of D scHas (fun _ _ _ _ _ _ us hl => match us, hl with | [_, _], _ => rfl) ?_ (fun cdv A outer s H vs Q E hr h => ?_)
  · rintro vs H Q E ⟨x, v, st, rfl, _⟩
    rfl
  · obtain ⟨x, v, st, rfl, t, fl, ft, q⟩ := h
    obtain ⟨dx, ts, sp, as, ss, hx, _, _, hsp, hss⟩ := t.obj
    refine ⟨_, (pss_one (ps_ret (pe_and (pk_call GL (hr.mono (by decide)) T.gIsLetter (pa_cons (pv 1) pa_nil)) (pe_one (pe_cmpR op_in_sign (pv 1) (pe_fld (pv 0) rfl) rfl))))), ?_⟩
    refine ⟨_, rfl, v, rfl, fl, ft, _, rfl, ?_⟩
    have hno : isLetV v ≠ true → hasV st v = false := fun h => by
      cases v with
      | str z =>
        unfold hasV
        unfold isLetV at h
        simp only at h ⊢
        split
        · rename_i c e
          rw [e] at h
          simp only at h
          rw [Bool.eq_false_iff.mpr h]
          rfl
        · rfl
      | _ => rfl
    refine ite2 (fun h1 => ?_) fun h1 => ?_
    · cases v with
      | str z =>
        unfold isLetV at h1
        simp only at h1
        split at h1
        · rename_i c e
          have ez : z = ⟨#[c]⟩ := by
            rw [sL_of z, e]
            rfl
          refine ⟨_, rfl, _, rfl, x, _, dx, _, _, rfl, hx, T.clT, T.nT4, rfl, c, _, by rw [ez], rfl, ?_⟩
          have e2 : hasV st (.str z) = decide (c ∈ (sL (typed st)).cps.toList) := by
            show (match z.cps.toList with
              | [c] => isLet c && decide (c ∈ typed st)
              | _ => false) = _
            rw [e]
            simp only [h1, Bool.true_and]
            rfl
          rw [← e2]
          exact q
        · cases h1
      | _ => cases h1
    · rw [hno h1] at q
      exact q
end
end KL
namespace KL
open PySem PySem.Spec PyProof.Rows L2 Pk He
theorem stD_dp {K : Fr} {H : Hp} {a : Addr} {x : Stp} (h : SqT K H a (stV x)) : Dp K H (.ref a) (stD x) := by
  cases x with
  | wr w => exact .tup h (.cons (.str _) (.cons (.str _) .nil))
  | pa f l t => exact .tup h (.cons (.str _) (.cons (.int _) (.cons (.int _) (.cons (.int _) .nil))))
theorem steps_dpA {K : Fr} {H : Hp} : ∀ {as : List Addr} {st : List Stp}, as.length = st.length → (∀ (i : Nat) (x : Stp), st[i]? = some x → ∃ a, as[i]? = some a ∧ SqT K H a (stV x)) → DpAll K H (as.map V.ref) (st.map stD)
  | [], [], _, _ => .nil
  | [], _ :: _, h, _ => by cases h
  | _ :: _, [], h, _ => by cases h
  | a :: as, x :: st, h, k => by
    obtain ⟨b, hb, hx⟩ := k 0 x rfl
    cases hb
    exact .cons (stD_dp hx) (steps_dpA (by simpa using h) fun i y hy => k (i + 1) y hy)
theorem steps_dp {K : Fr} {H : Hp} {t : Addr} {as : List Addr} {st : List Stp} (h : SqT K H t (as.map V.ref)) (k : StepsAt K H as st) : Dp K H (.ref t) (.tuple (st.map stD)) := .tup h (steps_dpA k.len k.at_)
theorem sL_ok {l : List Nat} (h : l.all isLet = true) : PyData.strOk (sL l) = true := by
  show (sL l).cps.all (· < 0x110000) = true
  rw [List.all_eq_true] at h
  rw [Array.all_eq_true']
  intro c hc
  have hc2 : c ∈ l := by simpa [sL] using hc
  have := h c hc2
  simp only [isLet, Bool.and_eq_true, decide_eq_true_eq] at this ⊢
  omega
theorem stD_lay {s : Nat} {x : Stp} (h : x.ok s = true) : (stD x).canLay0 = true := by
  cases x with
  | wr w =>
    simp only [Stp.ok, Bool.and_eq_true] at h
    have h1 := sL_ok h.2
    have h2 : PyData.strOk (Str.ofString "write") = true := by decide +kernel
    simp [stD, PyData.canLay0, PyData.canLayAll0, h1, h2]
  | pa f l t =>
    have h2 : PyData.strOk (Str.ofString "paste") = true := by decide +kernel
    simp [stD, PyData.canLay0, PyData.canLayAll0, h2]
theorem stD_depth (x : Stp) : (stD x).depth = 1 := by cases x <;> simp [stD, PyData.depth, PyData.depthAll]
theorem sts_lay {m : Nat} : ∀ {s : Nat} {st : List Stp}, Goes m s st → PyData.canLayAll0 (st.map stD) = true
  | _, [], _ => by simp [PyData.canLayAll0]
  | s, x :: r, h => by
    have h1 := stD_lay h.1
    have h2 := sts_lay h.2.2
    simp [PyData.canLayAll0, h1, h2]
theorem sts_depth : ∀ st : List Stp, PyData.depthAll (st.map stD) ≤ 1
  | [] => by simp [PyData.depthAll]
  | x :: r => by
    have h1 := stD_depth x
    have h2 := sts_depth r
    simp only [List.map_cons, PyData.depthAll]
    omega
theorem sts_shaped {m : Nat} {st : List Stp} (h : Goes m 0 st) : SeqAt.shaped (.tuple (st.map stD)) = true := by
  have h1 := sts_depth st
  have h2 : PyData.depth (.tuple (st.map stD)) ≤ 64 := by
    simp only [PyData.depth]
    omega
  show (PyData.canLay0 (.tuple (st.map stD)) && decide (PyData.depth (.tuple (st.map stD)) ≤ 64)) = true
  rw [decide_eq_true h2, Bool.and_true]
  simp only [PyData.canLay0]
  exact sts_lay h
theorem str_beq (a b : List Nat) : (sL a == sL b) = decide (a = b) := by
  rw [Bool.eq_iff_iff, beq_iff_eq, decide_eq_true_iff, sL_inj]
theorem stD_eqv (x y : Stp) : PyData.eqv (stD x) (stD y) = decide (x = y) := by
  cases x with
  | wr w =>
    cases y with
    | wr v => simp [stD, PyData.eqv, PyData.eqvAll, str_beq]
    | pa f l t => simp [stD, PyData.eqv, PyData.eqvAll]
  | pa f l t =>
    cases y with
    | wr v => simp [stD, PyData.eqv, PyData.eqvAll]
    | pa g m u =>
      simp only [stD, PyData.eqv, PyData.eqvAll]
      rw [Bool.eq_iff_iff]
      simp
      omega
theorem sts_eqv : ∀ a b : List Stp, PyData.eqvAll (a.map stD) (b.map stD) = decide (a = b)
  | [], [] => by simp [PyData.eqvAll]
  | [], _ :: _ => by simp [PyData.eqvAll]
  | _ :: _, [] => by simp [PyData.eqvAll]
  | x :: r, y :: s => by
    have h1 := sts_eqv r s
    have h2 := stD_eqv x y
    simp only [List.map_cons, PyData.eqvAll, h1, h2]
    rw [Bool.eq_iff_iff]
    simp
theorem stsD_eqv (a b : List Stp) : PyData.eqv (.tuple (a.map stD)) (.tuple (b.map stD)) = decide (a = b) := by
  simp only [PyData.eqv]
  exact sts_eqv a b
def spEqT (K : Fr) : Sp := fun vs H Q _ => ∃ (x : Addr) (a : List Stp), TA_ K H x a ∧ ((∃ (y : Addr) (b : List Stp), vs = [.ref x, .ref y] ∧ TA_ K H y b ∧ Q (.bl (decide (a = b))) H) ∨ ∃ (t : Addr) (xs : List V), vs = [.ref x, .ref t] ∧ SqT K H t xs ∧ Q (.bl false) H)
section
variable {P : Program} {w : World} {K : Fr} {mg : Str → Option Value} {base : Heap} {f : Addr}
theorem scEq : FnScope ["self", "other"] ["self", "other"] (defScope sEq) := ⟨rfl, rfl, rfl, by decide +kernel, rfl, by decide +kernel, by decide +kernel⟩
theorem ok_eq (D : Df K "__eq__" "Text.__eq__" sEq f) (T : Tc K mg) : Kp P w K mg base 1 f (spEqT K) := by
  refine kp_of D scEq (fun _ _ _ _ _ _ us hl => match us, hl with | [_, _], _ => rfl) ?_ (fun cdv A outer s H vs Q E hr h => ?_)
  · rintro vs H Q E ⟨x, a, _, ⟨y, b, rfl, _⟩ | ⟨t, xs, rfl, _⟩⟩ <;> rfl
  · obtain ⟨x, a, ta, h⟩ := h
    obtain ⟨dx, ts, sp, as, ss, hx, hts, hst, _⟩ := ta.obj
    refine ⟨_, (pss_one (ps_ret (pe_and (pe_callB (CallR.or (C8.call_isC T.insT) call_isi) (by rfl) T.isi boot_isinstance (pa_cons (pv 1) (pa_cons (pe_gR T.gText) pa_nil))) (pe_one (pe_cmpR (op_eqD hr.units) (pe_fld (pv 0) rfl) (pe_fld (pv 1) rfl) (nomark _)))))), ?_⟩
    rcases h with ⟨y, b, rfl, tb, q⟩ | ⟨t, xs, rfl, ht, q⟩
    · obtain ⟨dy, ts2, sp2, as2, ss2, hy, hts2, hst2, _⟩ := tb.obj
      refine ⟨_, rfl, .inl ⟨y, dy, _, rfl, hy, true, rfl, ?_⟩⟩
      refine iteT ?_
      refine ⟨_, rfl, x, _, dx, _, _, rfl, hx, T.clT, T.nT1, rfl, _, rfl, y, _, dy, _, _, rfl, hy, T.clT, T.nT1, rfl, _, _, steps_dp hts hst, steps_dp hts2 hst2, sts_shaped ta.good, sts_shaped tb.good, ?_⟩
      rw [stsD_eqv]
      exact q
    · refine ⟨_, rfl, .inr ⟨.ref t, .ref (CT K), .type "tuple", .ref (CT K), false, rfl, .own _, sqT_ty ht, T.tupT, false, rfl, ?_⟩⟩
      exact q
end
end KL
namespace KL
open PySem PySem.Spec PyProof.Rows L2 Pk He
def spKeys (K : Fr) : Sp := fun vs H Q _ => ∃ (a : Addr) (as : List Addr) (st : List Stp), vs = [.ref a] ∧ SqT K H a (as.map V.ref) ∧ StepsAt K H as st ∧ Goes most 0 st ∧ st.length ≤ 30 ∧ sz st ≤ 2000 ∧
  ∀ p L H2, H p = none → H L = none → Same H H2 → H2 p = some (.tup [.ref L, .str (sL (typed st))]) → H2 L = some (.lst (nV (ex st))) → Q (.ref p) H2
theorem rgV_nV (n m : Nat) : rgV (n : Int) ((n + m : Nat) : Int) = nV (List.range' n m) := by
  unfold rgV nV
  have e : (((n + m : Nat) : Int) - (n : Int)).toNat = m := by omega
  rw [e]
  refine List.ext_getElem (by simp) fun i h1 h2 => ?_
  simp
theorem nV_app (a b : List Nat) : nV a ++ nV b = nV (a ++ b) := by simp [nV]
theorem cut_nV (E : List Nat) (f l : Nat) : cutV (nV E) (some (f : Int)) (some ((l : Int) + 1)) = nV ((E.drop f).take (l + 1 - f)) := by
  unfold cutV
  rw [HT.sIx_nat, show ((l : Int) + 1) = ((l + 1 : Nat) : Int) by omega, HT.sIx_nat, nV_len]
  unfold nV
  rw [← List.map_drop, ← List.map_take]
  congr 1
  rcases Nat.le_total f E.length with h | h
  · rw [Nat.min_eq_left h, List.take_eq_take_iff, List.length_drop]
    omega
  · rw [Nat.min_eq_right h, List.drop_of_length_le (Nat.le_refl _), List.drop_of_length_le h]
    simp
theorem rep_nV (t : Nat) (E : List Nat) : (List.replicate t (nV E)).flatten = nV (List.replicate t E).flatten := by
  unfold nV
  rw [List.map_flatten, List.map_replicate]
theorem ex_take_s {st : List Stp} {i : Nat} {x : Stp} (h : st[i]? = some x) : ex (st.take (i + 1)) = ex1 (ex (st.take i)) (nk (st.take i)) x := by
  rw [take_succ h, ex_snoc]
theorem sz_take_le {st : List Stp} (i : Nat) : sz (st.take i) ≤ sz st := by
  have e : st = st.take i ++ st.drop i := (List.take_append_drop _ _).symm
  have e2 := congrArg sz e
  rw [sz_app] at e2
  omega
section
variable {P : Program} {w : World} {K : Fr} {mg : Str → Option Value} {base : Heap} {f : Addr}
theorem scKeys : FnScope ["_law_steps_here", "_law_keys_here", "_law_letters", "_law_step"] ["_law_steps_here"] (defScope sKeys) := ⟨rfl, rfl, rfl, by decide +kernel, rfl, by decide +kernel, by decide +kernel⟩
theorem ok_keys (D : Df K "_law_keys" "_law_keys" sKeys f) (T : Tc K mg) : Kp P w K mg base 1 f (spKeys K) := by
  refine kp_of D scKeys (fun _ _ _ _ _ _ us hl => match us, hl with | [_], _ => rfl) ?_ (fun cdv A outer s H vs Q E hr h => ?_)
  · rintro vs H Q E ⟨a, as, st, rfl, _⟩
    rfl
  · obtain ⟨a, as, st, rfl, ha, hst, good, few, hsz, q⟩ := h
    refine ⟨_, (pss_cons (ps_par (i := 1) (j := 2) rfl scKeys.nd rfl rfl (by decide) rfl rfl (pa_cons (pe_lst pa_nil) (pa_cons pe_str pa_nil)) (by rfl)) (pss_cons (ps_for PassesOwn.never rfl (pi_tup (pv 0)) (pg_name (i := 3) scKeys.nd rfl (Or.inl rfl)) (pss_one (ps_if (pt_cmpR op_eq (pe_ix ix_tup (pv 3) pe_int (fun _ _ => rfl)) pe_str (nomark _)) (pss_cons (ps_set (i := 1) scKeys.nd rfl (Or.inl rfl) (pe_op op_cat (pv 1) (pe_listRg rfl (by rfl) T.lst (prg_2 (by rfl) T.rng (pk_b1 call_len_str T.len b_len (pv 2)) (pe_op op_add (pk_b1 call_len_str T.len b_len (pv 2)) (pk_b1 call_len_str T.len b_len (pe_ix ix_tup (pv 3) pe_int (fun _ _ => rfl)))))))) (pss_one (ps_set (i := 2) scKeys.nd rfl (Or.inl rfl) (pe_op op_add_str (pv 2) (pe_ix ix_tup (pv 3) pe_int (fun _ _ => rfl)))))) (pss_one (ps_set (i := 1) scKeys.nd rfl (Or.inl rfl) (pe_op op_cat (pv 1) (pe_op op_rep (pe_slice sl_list (pv 1) (po_some (pe_ix ix_tup (pv 3) pe_int (fun _ _ => rfl))) (po_some (pe_op op_add (pe_ix ix_tup (pv 3) pe_int (fun _ _ => rfl)) pe_int))) (pe_ix ix_tup (pv 3) pe_int (fun _ _ => rfl))))))))) (pss_one (ps_ret (pe_tup (pa_cons (pv 1) (pa_cons (pv 2) pa_nil))))))), ?_⟩
    refine ⟨Nat.zero_le _, fun L0 hL0 => ?_⟩
    refine ⟨_, _, rfl, ?_⟩
    have s0 : Same H (upd H L0 (.lst [])) := same_upd hL0
    refine ⟨_, rfl, a, rfl, ⟨_, same_sqT s0 ha⟩, ?_⟩
    have hn : (as.map V.ref).length = st.length := by rw [List.length_map, hst.len]
    refine for_tup (xs := as.map V.ref) (fun i σ H2 => ∃ (L : Addr) (v3 : Option V), σ = [some (.ref a), some (.ref L), some (.str (sL (typed (st.take i)))), v3] ∧ H L = none ∧ Same H H2 ∧ H2 L = some (.lst (nV (ex (st.take i))))) ⟨L0, none, rfl, hL0, s0, upd_same⟩ ?_ ?_ ?_
    · rintro i σ H2 _ ⟨L, v3, _, _, s2, _⟩
      exact same_sqT s2 ha
    · rintro i v σ H2 hv ⟨L, v3, rfl, hL, s2, hL2⟩
      have hi : i < st.length := by
        have := (List.getElem?_eq_some_iff.mp hv).1
        rwa [hn] at this
      obtain ⟨x, hx⟩ : ∃ x, st[i]? = some x := ⟨st[i], List.getElem?_eq_getElem hi⟩
      obtain ⟨c, hc, hcx⟩ := hst.at_ i x hx
      obtain ⟨ok, lim⟩ := goes_at good hx
      have ev : v = .ref c := map_at hc hv
      subst ev
      have hcx2 := same_sqT s2 hcx
      have hlex := ex_len _ (goes_take good i)
      have hlex2 := ex_len _ (goes_take good (i + 1))
      have hs1 := sz_take_le (st := st) (i + 1)
      have hs0 := sz_take_le (st := st) i
      have hstep := ex_take_s hx
      have htl := typed_len (st.take i)
      have hnk := nk_le (goes_take good i)
      have hti : (st.take i).length ≤ 30 := by rw [List.length_take]; omega
      have hzl : (sL (typed (st.take i))).length ≤ sizeLine := by
        rw [sL_len, htl]
        exact Nat.le_trans (show nk (st.take i) ≤ 600 by omega) (by decide)
      have e1 : ((sL (typed (st.take i))).length : Int) = (nk (st.take i) : Nat) := by rw [sL_len, htl]
      cases x with
      | wr wd =>
        simp only [Stp.ok, Bool.and_eq_true, decide_eq_true_eq] at ok
        have hw : (sL wd).length ≤ sizeLine := by
          rw [sL_len]
          exact Nat.le_trans ok.1.2 (by decide)
        refine ⟨_, rfl, c, _, 0, _, rfl, rfl, hcx2, rfl, rfl, _, rfl, ?_⟩
        rw [decide_eq_true rfl]
        refine iteT ?_
        refine ⟨_, rfl, _, rfl, _, rfl, hzl, _, rfl, _, rfl, hzl, _, rfl, c, _, 1, _, rfl, rfl, hcx2, rfl, _, rfl, hw, _, _, rfl, rfl, _, _, rfl, rfl, ?_, fun R hR => ?_⟩
        · rw [e1, sL_len]
          exact RgOk.of_le (by omega) (by omega) (by omega) (by omega)
        · have eR : rgV ((sL (typed (st.take i))).length : Int) (((sL (typed (st.take i))).length : Int) + ((sL wd).length : Int)) = nV (List.range' (nk (st.take i)) wd.length) := by
            rw [e1, sL_len, ← Int.natCast_add]
            exact rgV_nV _ _
          rw [eR]
          have s3 := s2.trans (same_upd (o := .lst (nV (List.range' (nk (st.take i)) wd.length))) hR)
          refine ⟨L, R, _, _, rfl, rfl, same_upd hR _ _ hL2, upd_same, ?_, fun M hM => ?_⟩
          · rw [nV_len, nV_len, List.length_range', hlex]
            exact Nat.le_trans (show sz (st.take i) + wd.length ≤ 2100 by omega) (by decide)
          · have s4 := s3.trans (same_upd (o := .lst (nV (ex (st.take i)) ++ nV (List.range' (nk (st.take i)) wd.length))) hM)
            refine ⟨_, rfl, _, rfl, c, _, 1, _, rfl, rfl, same_sqT s4 hcx, rfl, _, _, rfl, rfl, ?_, ?_⟩
            · rw [sL_len, sL_len, htl]
              exact Nat.le_trans (show nk (st.take i) + wd.length ≤ 700 by omega) (by decide)
            · refine ⟨M, some (.ref c), ?_, s3.free hM, s4, ?_⟩
              · rw [take_succ hx, typed_app, ← sL_app]
                simp [typed, Stp.ty]
              · rw [upd_same, nV_app, hstep]
                rfl
      | pa f0 l t =>
        have e0 : decide (V.str (Str.ofString "paste") = V.str (Str.ofString "write")) = false := by decide +kernel
        simp only [Stp.ok, Bool.and_eq_true, decide_eq_true_eq] at ok
        refine ⟨_, rfl, c, _, 0, _, rfl, rfl, hcx2, rfl, rfl, _, rfl, ?_⟩
        rw [e0]
        refine iteF ?_
        refine ⟨_, rfl, _, rfl, _, rfl, c, _, 1, _, rfl, rfl, hcx2, rfl, _, rfl, _, rfl, c, _, 2, _, rfl, rfl, hcx2, rfl, _, _, rfl, rfl, _, rfl, L, _, rfl, SqL.of hL2, fun S hS => ?_⟩
        rw [cut_nV]
        have s3 := s2.trans (same_upd (o := .lst (nV (((ex (st.take i)).drop f0).take (l + 1 - f0)))) hS)
        have hseg : (((ex (st.take i)).drop f0).take (l + 1 - f0)).length = l + 1 - f0 := by
          rw [List.length_take, List.length_drop, hlex]
          omega
        have hgr : (l + 1 - f0) * t ≤ 2000 := by
          have h9 := hs1
          rw [take_succ hx, sz_app, sz_cons] at h9
          have : (Stp.pa f0 l t).gr = (l + 1 - f0) * t := rfl
          omega
        refine ⟨_, rfl, c, _, 3, _, rfl, rfl, same_sqT s3 hcx, rfl, S, _, _, rfl, rfl, upd_same, by omega, by omega, ?_, fun R hR => ?_⟩
        · rw [nV_len, hseg, Int.toNat_natCast]
          exact Nat.le_trans hgr (by decide)
        · rw [Int.toNat_natCast, rep_nV]
          have s4 := s3.trans (same_upd (o := .lst (nV (List.replicate t (((ex (st.take i)).drop f0).take (l + 1 - f0))).flatten)) hR)
          refine ⟨L, R, _, _, rfl, rfl, same_upd hR _ _ (same_upd hS _ _ hL2), upd_same, ?_, fun M hM => ?_⟩
          · have h8 : (ex (st.take (i + 1))).length = (ex (st.take i)).length + ((List.replicate t (((ex (st.take i)).drop f0).take (l + 1 - f0))).flatten).length := by
              rw [hstep]
              exact List.length_append ..
            rw [nV_len, nV_len, ← h8, hlex2]
            exact Nat.le_trans (Nat.le_trans hs1 hsz) (by decide)
          · refine ⟨M, some (.ref c), ?_, s4.free hM, s4.trans (same_upd hM), ?_⟩
            · rw [take_succ hx, typed_app]
              simp [typed, Stp.ty]
            · rw [upd_same, nV_app, hstep]
              rfl
    · rintro σ H2 ⟨L, v3, rfl, hL, s2, hL2⟩
      rw [hn, List.take_length] at hL2 ⊢
      refine ⟨_, rfl, _, rfl, (by show 2 ≤ sizeLine; decide), fun p hp => ?_⟩
      exact q p L _ (s2.free hp) hL (s2.trans (same_upd hp)) upd_same (same_upd hp _ _ hL2)
end
end KL
namespace Pk
open PySem PySem.Spec PyProof.Rows L2
def rIxA (K : Fr) : R2 := fun x y H Q => rIxL K x y H Q ∨ rIxT K x y H Q
theorem ixA {X : Cx} (K : Fr) (h : X.K = K := by rfl) : IxR X (rIxA K) := by
  subst h
  intro value slice pins s σ H x y v u Q I rx ry hq hs
  rcases hq with hq | hq
  · exact ix_list value slice pins s σ H x y v u Q I rx ry hq hs
  · exact ix_tup value slice pins s σ H x y v u Q I rx ry hq hs
end Pk
namespace KL
open PySem PySem.Spec PyProof.Rows L2 Pk He
def flatA : V → Bool
  | .int _ => true
  | .str _ => true
  | _ => false
def AlN (K : Fr) : Nat → Hp → V → V → Prop
  | 0, _, x, y => x = y ∧ flatA x = true
  | n + 1, H, x, y => (x = y ∧ flatA x = true) ∨ ∃ (a b : Addr) (xs ys : List V), x = .ref a ∧ y = .ref b ∧ ((H a = some (.lst xs) ∧ H b = some (.lst ys)) ∨ (SqT K H a xs ∧ SqT K H b ys)) ∧ xs.length = ys.length ∧ xs.length ≤ 2000 ∧ ∀ (i : Nat) (u v : V), xs[i]? = some u → ys[i]? = some v → AlN K n H u v
theorem AlN.same {K : Fr} : ∀ {n : Nat} {H H2 : Hp} {x y : V}, AlN K n H x y → Same H H2 → AlN K n H2 x y
  | 0, _, _, _, _, h, _ => h
  | n + 1, _, _, _, _, h, s => by
    rcases h with h | ⟨a, b, xs, ys, h1, h2, h3, h4, h5, h6⟩
    · exact .inl h
    · exact .inr ⟨a, b, xs, ys, h1, h2, h3.imp (fun q => ⟨s _ _ q.1, s _ _ q.2⟩) (fun q => ⟨same_sqT s q.1, same_sqT s q.2⟩), h4, h5, fun i u v hu hv => (h6 i u v hu hv).same s⟩
def spAlike (K : Fr) (n : Nat) : Sp := fun vs H Q _ => ∃ x y, vs = [x, y] ∧ AlN K n H x y ∧ ∀ H2, Same H H2 → Q (.bl true) H2
def spNo : Sp := fun _ _ _ _ => False
section
variable {P : Program} {w : World} {K : Fr} {mg : Str → Option Value} {base : Heap} {f : Addr}
theorem scAlike : FnScope ["_law_one", "_law_due", "_law_k"] ["_law_one", "_law_due"] (defScope sAlike) := ⟨rfl, rfl, rfl, by decide +kernel, rfl, by decide +kernel, by decide +kernel⟩
theorem ok_never (D : Df K "_law_alike" "_law_alike" sAlike f) : Kp P w K mg base 1 f spNo :=
  kp_of D scAlike (fun _ _ _ _ _ _ us hl => match us, hl with | [_, _], _ => rfl) (fun _ _ _ _ h => h.elim) (fun _ _ _ _ _ _ _ _ _ h => h.elim)
theorem flatA_ty {K : Fr} {H : Hp} {x : V} (h : flatA x = true) : TyX K H x (.type (tyF x)) := tyF_ok (by cases x <;> first | rfl | cases h)
theorem ok_alike (D : Df K "_law_alike" "_law_alike" sAlike (ga K "_law_alike")) (T : Tc K mg) (gA : mg "_law_alike" = some (.ref (ga K "_law_alike"))) (k : Nat) (sp0 : Sp) (GA : Kp P w K mg base (k + 1) (ga K "_law_alike") sp0) (n : Nat)
    (step : ∀ x y H, AlN K n H x y → (x = y ∧ flatA x = true) ∨ ∃ (a b : Addr) (xs ys : List V), x = .ref a ∧ y = .ref b ∧ ((H a = some (.lst xs) ∧ H b = some (.lst ys)) ∨ (SqT K H a xs ∧ SqT K H b ys)) ∧ xs.length = ys.length ∧ xs.length ≤ 2000 ∧
      ∀ (i : Nat) (u v : V), xs[i]? = some u → ys[i]? = some v → ∀ H1, Same H H1 → ∀ (Q : VK), (∀ H2, Same H1 H2 → Q (.bl true) H2) → sp0 [u, v] H1 Q E0) : Kp P w K mg base (k + 2) (ga K "_law_alike") (spAlike K n) := by
  refine kp_of D scAlike (fun _ _ _ _ _ _ us hl => match us, hl with | [_, _], _ => rfl) ?_ (fun cdv A outer s H vs Q E hr h => ?_)
  · rintro vs H Q E ⟨x, y, rfl, _⟩
    rfl
  · obtain ⟨x, y, rfl, hal, q⟩ := h
    refine ⟨_, (pss_cons (ps_if (pw_and (pt_val (pe_callB call_isiT (by rfl) T.isi boot_isinstance (pa_cons (pv 0) (pa_cons (pe_tup (pa_cons (pe_ty T.tup b_tuple) (pa_cons (pe_ty T.lst b_list) pa_nil))) pa_nil)))) (pw_and1 (pt_val (pe_callB call_isiT (by rfl) T.isi boot_isinstance (pa_cons (pv 1) (pa_cons (pe_tup (pa_cons (pe_ty T.tup b_tuple) (pa_cons (pe_ty T.lst b_list) pa_nil))) pa_nil)))))).pt (pss_cons (ps_if (pw_or (pt_cmpR op_ne (pe_isi (pv 0) T.isi T.tup b_tuple) (pe_isi (pv 1) T.isi T.tup b_tuple) (nomark _)) (pw_or1 (pt_cmpR op_ne (pk_b1 call_len_seq T.len b_len (pv 0)) (pk_b1 call_len_seq T.len b_len (pv 1)) (nomark _)))).pt (pss_one (ps_ret pe_bl)) pss_nil) (pss_one (ps_ret (pe_cmpR (op_eqD hr.units) (pe_lc (own := [("_law_k", 2)]) (g := gName 2) rfl scAlike.nd (pi_range1 (by rfl) T.rng (pa_cons (pk_b1 call_len_seq T.len b_len (pv 0)) pa_nil)) (blkOk_by (N := ["_law_one", "_law_due", "_law_k"]) (sc := defScope sAlike) (by decide +kernel)) (fun _ _ _ _ _ => (pg_name (i := 2) scAlike.nd rfl (Or.inl rfl))) (fun _ _ _ _ _ => (pts_one (pt_not (pt_val (pk_call GA (hr.mono (by omega)) gA (pa_cons (pe_ix (ixA K) (pv 0) (pv 2) (fun _ _ => rfl)) (pa_cons (pe_ix (ixA K) (pv 1) (pv 2) (fun _ _ => rfl)) pa_nil))))))) (fun _ _ _ _ _ => (pv 2))) (pe_lst pa_nil) (nomark _))))) pss_nil) (pss_one (ps_ret (pe_and (pe_cmpR op_eq (pv 0) (pv 1) (nomark _)) (pe_one (pe_cmpR op_eq (pe_isi (pv 0) T.isi T.bool b_bool) (pe_isi (pv 1) T.isi T.bool b_bool) (nomark _))))))), ?_⟩
    rcases step x y H hal with ⟨rfl, fl⟩ | ⟨a, b, xs, ys, rfl, rfl, hq, hlen, hsm, hstep⟩
    · refine ⟨_, rfl, (by show 2 ≤ sizeLine; decide), fun p hp => ?_⟩
      have s1 : Same H (upd H p (.tup [.ty "tuple", .ty "list"])) := same_upd hp
      refine ⟨x, p, [.ty "tuple", .ty "list"], .type (tyF x), [.type "tuple", .type "list"], false, rfl, upd_same, .cons (.ty _) (.cons (.ty _) .nil), flatA_ty fl, (by cases x <;> first | rfl | cases fl), false, rfl, ?_⟩
      refine iteF ?_
      refine iteF ?_
      refine ⟨_, rfl, _, rfl, (by cases x <;> first | rfl | cases fl), ?_⟩
      rw [decide_eq_true rfl]
      refine ⟨true, rfl, ?_⟩
      refine iteT ?_
      refine ⟨_, rfl, x, "bool", tyF x, false, rfl, flatA_ty fl, (by cases x <;> first | rfl | cases fl), _, rfl, x, "bool", tyF x, false, rfl, flatA_ty fl, (by cases x <;> first | rfl | cases fl), rfl, ?_⟩
      rw [decide_eq_true rfl]
      exact q _ s1
    · obtain ⟨tn, bt, hk1, hk2, hty⟩ : ∃ (tn : String) (bt : Bool), PySem.W.kitAny K (.type tn) [.type "tuple", .type "list"] = some true ∧ kitB tn "tuple" = some bt ∧ ∀ H2, Same H H2 → TyX K H2 (.ref a) (.type tn) ∧ TyX K H2 (.ref b) (.type tn) ∧ ((SqL K H2 a xs ∧ SqL K H2 b ys) ∨ (SqT K H2 a xs ∧ SqT K H2 b ys)) := by
        rcases hq with ⟨h1, h2⟩ | ⟨h1, h2⟩
        · exact ⟨"list", false, rfl, rfl, fun H2 s => ⟨.base (.lst (s _ _ h1)), .base (.lst (s _ _ h2)), .inl ⟨SqL.of (s _ _ h1), SqL.of (s _ _ h2)⟩⟩⟩
        · exact ⟨"tuple", true, rfl, rfl, fun H2 s => ⟨sqT_ty (same_sqT s h1), sqT_ty (same_sqT s h2), .inr ⟨same_sqT s h1, same_sqT s h2⟩⟩⟩
      refine ⟨_, rfl, (by show 2 ≤ sizeLine; decide), fun p hp => ?_⟩
      have s1 : Same H (upd H p (.tup [.ty "tuple", .ty "list"])) := same_upd hp
      refine ⟨.ref a, p, [.ty "tuple", .ty "list"], .type tn, [.type "tuple", .type "list"], true, rfl, upd_same, .cons (.ty _) (.cons (.ty _) .nil), (hty _ s1).1, hk1, true, rfl, ?_⟩
      refine iteT ?_
      refine ⟨_, rfl, (by show 2 ≤ sizeLine; decide), fun p2 hp2 => ?_⟩
      have s2 := s1.trans (same_upd (o := .tup [.ty "tuple", .ty "list"]) hp2)
      refine ⟨.ref b, p2, [.ty "tuple", .ty "list"], .type tn, [.type "tuple", .type "list"], true, rfl, upd_same, .cons (.ty _) (.cons (.ty _) .nil), (hty _ s2).2.1, hk1, true, rfl, ?_⟩
      refine iteT ?_
      have sqa : SqL K (upd (upd H p (.tup [.ty "tuple", .ty "list"])) p2 (.tup [.ty "tuple", .ty "list"])) a xs ∨ SqT K (upd (upd H p (.tup [.ty "tuple", .ty "list"])) p2 (.tup [.ty "tuple", .ty "list"])) a xs := (hty _ s2).2.2.imp (·.1) (·.1)
      have sqb : SqL K (upd (upd H p (.tup [.ty "tuple", .ty "list"])) p2 (.tup [.ty "tuple", .ty "list"])) b ys ∨ SqT K (upd (upd H p (.tup [.ty "tuple", .ty "list"])) p2 (.tup [.ty "tuple", .ty "list"])) b ys := (hty _ s2).2.2.imp (·.2) (·.2)
      refine ⟨_, rfl, .ref a, "tuple", tn, bt, rfl, (hty _ s2).1, hk2, _, rfl, .ref b, "tuple", tn, bt, rfl, (hty _ s2).2.1, hk2, rfl, false, (by rw [decide_eq_true rfl]; rfl), ?_⟩
      refine iteF ?_
      refine ⟨_, rfl, a, xs, rfl, sqa, _, rfl, b, ys, rfl, sqb, rfl, false, (by rw [hlen, decide_eq_true rfl]; rfl), ?_⟩
      refine iteF ?_
      refine ⟨_, rfl, a, xs, rfl, sqa, (xs.length : Int), rfl, by omega, by omega, fun D hD => ?_⟩
      generalize upd (upd H p (.tup [.ty "tuple", .ty "list"])) p2 (.tup [.ty "tuple", .ty "list"]) = H3 at *
      refine lc_keep (n := xs.length) (walk_range (lo := 0)) hD (fun _ => false) (fun _ => V.non) (Nat.le_trans hsm (by decide)) (fun _ _ => trivial) ?_ ?_
      · rintro i v H4 H5 N N0 hi s4 ⟨rfl, rfl⟩ hN hN0
        obtain ⟨u, hu⟩ : ∃ u, xs[i]? = some u := ⟨xs[i], List.getElem?_eq_getElem hi⟩
        obtain ⟨v, hv⟩ : ∃ v, ys[i]? = some v := ⟨ys[i]'(by omega), List.getElem?_eq_getElem (by omega)⟩
        have ati : ∀ (l : List V) (z : V), l[i]? = some z → atI l (0 + (i : Int)) = some z := fun l z h => by
          rw [Int.zero_add]
          exact atI_nat h
        have fin := hstep i u v hu hv _ (s2.trans s4)
        have sq5 := (hty _ (s2.trans s4)).2.2
        have last : ∀ H6, Same H5 H6 → N0 H6 := fun H6 s6 => hN0 rfl H6 s6
        refine ⟨rfl, _, rfl, _, rfl, ?_⟩
        rcases sq5 with ⟨g1, g2⟩ | ⟨g1, g2⟩
        · refine .inl ⟨a, xs, _, u, rfl, rfl, g1, ati _ _ hu, _, rfl, _, rfl, .inl ⟨b, ys, _, v, rfl, rfl, g2, ati _ _ hv, ?_⟩⟩
          refine fin _ fun H6 s6 => ⟨true, rfl, ?_⟩
          exact iteF (last H6 s6)
        · refine .inr ⟨a, xs, _, u, rfl, rfl, g1, ati _ _ hu, _, rfl, _, rfl, .inr ⟨b, ys, _, v, rfl, rfl, g2, ati _ _ hv, ?_⟩⟩
          refine fin _ fun H6 s6 => ⟨true, rfl, ?_⟩
          exact iteF (last H6 s6)
      · intro H4 s4 hD4
        have ek : keeps xs.length (fun _ => false) (fun _ => V.non) = [] := by simp [keeps]
        rw [ek] at hD4
        refine ⟨Nat.zero_le _, fun e he => ?_⟩
        refine ⟨.list [], .list [], .lst (SqL.of (same_upd he _ _ hD4)) .nil, .lst (SqL.of upd_same) .nil, rfl, rfl, ?_⟩
        exact q _ (s2.trans (s4.trans (same_upd he)))
theorem alikeN (D : Df K "_law_alike" "_law_alike" sAlike (ga K "_law_alike")) (T : Tc K mg) (gA : mg "_law_alike" = some (.ref (ga K "_law_alike"))) : ∀ n, Kp P w K mg base (n + 2) (ga K "_law_alike") (spAlike K n)
  | 0 => ok_alike D T gA 0 spNo (ok_never D) 0 fun x y H h => .inl h
  | n + 1 => ok_alike D T gA (n + 1) (spAlike K n) (alikeN D T gA n) (n + 1) fun x y H h => by
    rcases h with h | ⟨a, b, xs, ys, h1, h2, h3, h4, h5, h6⟩
    · exact .inl h
    · exact .inr ⟨a, b, xs, ys, h1, h2, h3, h4, h5, fun i u v hu hv H1 s1 Q hQ => ⟨u, v, rfl, (h6 i u v hu hv).same s1, hQ⟩⟩
end
end KL
namespace KL
open PySem PySem.Spec PyProof.Rows L2 Pk He
theorem cut_sL {ls : List Nat} {n m : Nat} (h : n + m ≤ ls.length) : cutS (sL ls) (some (n : Int)) (some ((n + m : Nat) : Int)) = sL ((ls.drop n).take m) := by
  unfold cutS
  rw [HT.sIx_nat, HT.sIx_nat, sL_len, Nat.min_eq_left (by omega), Nat.min_eq_left (by omega), Nat.add_sub_cancel_left]
  rfl
theorem nk_take_le {st : List Stp} {i : Nat} {x : Stp} (h : st[i]? = some x) : nk (st.take i) + x.ks ≤ nk st := by
  have e : st = st.take (i + 1) ++ st.drop (i + 1) := (List.take_append_drop _ _).symm
  have e2 := congrArg nk e
  rw [nk_app, take_succ h, nk_app] at e2
  simp only [nk, List.map_cons, List.map_nil, List.sum_cons, List.sum_nil] at e2 ⊢
  omega
section
variable {P : Program} {w : World} {K : Fr} {mg : Str → Option Value} {base : Heap} {f : Addr}
theorem scWith : FnScope ["self", "letters", "steps", "step", "span"] ["self", "letters"] (defScope sWith) := ⟨rfl, rfl, rfl, by decide +kernel, rfl, by decide +kernel, by decide +kernel⟩
theorem ok_with (D : Df K "with_letters" "Text.with_letters" sWith f) (T : Tc K mg) (GI : FnR P w K mg base CX0 5 (ma K (CT K) "__init__") (spInit5 K)) : Kp P w K mg base 7 f (spWith K) := by
  refine kp_of D scWith (fun _ _ _ _ _ _ us hl => match us, hl with | [_, _], _ => rfl) ?_ (fun cdv A outer s H vs Q E hr h => ?_)
  · rintro vs H Q E ⟨x, ls, st, rfl, _⟩
    rfl
  · obtain ⟨x, ls, st, rfl, t, hl, hlet, q⟩ := h
    obtain ⟨dx, ts, sp, as, ss, hx, hts, hst, hsp, hss⟩ := t.obj
    have hnk := nk_le t.good
    have few := t.few
    have hz : (sL ls).length ≤ sizeLine := by
      rw [sL_len, hl]
      exact Nat.le_trans (show nk st ≤ 600 by omega) (by decide)
    refine ⟨_, (pss_cons (ps_set (i := 2) scWith.nd rfl (Or.inl rfl) (pe_lst pa_nil)) (pss_cons (ps_for PassesOwn.never rfl (RZ.pi_zipA (by rfl) T.zip (pa_cons (pe_fld (pv 0) rfl) (pa_cons (pe_fld (pv 0) rfl) pa_nil))) (pg_tup rfl (pgs_cons (pg_name (i := 3) scWith.nd rfl (Or.inl rfl)) (pgs_cons (pg_name (i := 4) scWith.nd rfl (Or.inl rfl)) pgs_nil))) (pss_one (ps_if (pt_cmp (pc_isN (pe_fld (pv 4) rfl))) (pss_one (ps_expr (pe_bm PySem.F.plainAttrs_list PySem.F.slot_list_append PySem.F.type_list_append mt_append (pv 2) (pa_cons (pv 3) pa_nil)))) (pss_one (ps_expr (pe_bm PySem.F.plainAttrs_list PySem.F.slot_list_append PySem.F.type_list_append mt_append (pv 2) (pa_cons (pe_tup (pa_cons pe_str (pa_cons (pe_slice sl_str (pv 1) (po_some (pe_fld (pv 4) rfl)) (po_some (pe_op op_add (pe_fld (pv 4) rfl) (pk_b1 call_len_str T.len b_len (pe_ix ix_tup (pv 3) pe_int (fun _ _ => rfl)))))) pa_nil))) pa_nil))))))) (pss_one (ps_ret (pe_makeS T.mkT GI hr rfl T.gText pass0 (pv 2)))))), ?_⟩
    refine ⟨Nat.zero_le _, fun L hL => ?_⟩
    have s1 : Same H (upd H L (.lst [])) := same_upd hL
    refine ⟨_, rfl, x, _, dx, _, _, rfl, s1 _ _ hx, T.clT, T.nT1, rfl, _, rfl, x, _, dx, _, _, rfl, s1 _ _ hx, T.clT, T.nT2, rfl, ts, sp, _, _, rfl, .inr ⟨same_sqT s1 hts, same_sqT s1 hsp, ?_⟩⟩
    have hn : (as.map V.ref).length = st.length := by rw [List.length_map, hst.len]
    refine RZ.for_zipT (xs := as.map V.ref) (ys := ss.map V.ref) (by rw [hn, List.length_map, hss.len]) (fun i σ H2 => ∃ (bs : List Addr) (v3 v4 : Option V), σ = [some (.ref x), some (.str (sL ls)), some (.ref L), v3, v4] ∧ Same H H2 ∧ H2 L = some (.lst (bs.map V.ref)) ∧ StepsAt K H2 bs (relet ls 0 (st.take i)))
      ⟨[], none, none, rfl, s1, upd_same, StepsAt.nil⟩ ?_ ?_ ?_
    · rintro i σ H2 ⟨bs, v3, v4, _, s2, _⟩
      exact ⟨same_sqT s2 hts, same_sqT s2 hsp⟩
    · rintro i u v TT σ H2 hu hv ⟨bs, v3, v4, rfl, s2, hL2, hbs⟩ hT
      have hi : i < st.length := by
        have := (List.getElem?_eq_some_iff.mp hu).1
        rwa [hn] at this
      obtain ⟨y, hy⟩ : ∃ y, st[i]? = some y := ⟨st[i], List.getElem?_eq_getElem hi⟩
      obtain ⟨a, ha, hay⟩ := hst.at_ i y hy
      obtain ⟨b, db, hb, e5⟩ := hss.at_ i y hy
      obtain ⟨ok, _⟩ := goes_at t.good hy
      have eu : u = .ref a := map_at ha hu
      have ev : v = .ref b := map_at hb hv
      subst eu ev
      have s3 : Same H (upd H2 TT (.tup [.ref a, .ref b])) := s2.trans (same_upd hT)
      have hL3 : (upd H2 TT (.tup [.ref a, .ref b])) L = some (.lst (bs.map V.ref)) := same_upd hT _ _ hL2
      have hbs3 : StepsAt K (upd H2 TT (.tup [.ref a, .ref b])) bs (relet ls 0 (st.take i)) := hbs.same (same_upd hT)
      have hsm : (bs.map V.ref).length < sizeLine := by
        rw [List.length_map, hbs.len, relet_len, List.length_take]
        exact Nat.lt_of_le_of_lt (Nat.le_trans (Nat.min_le_right _ _) few) (by decide)
      have fin : ∀ (m : Addr) (H4 : Hp), Same (upd H2 TT (.tup [.ref a, .ref b])) H4 → SqT K H4 m (stV (rel1 ls (nk (st.take i)) y)) →
          ∃ (bs2 : List Addr) (v3 v4 : Option V), ([some (.ref x), some (.str (sL ls)), some (.ref L), some (.ref a), some (.ref b)] : L2.St) = [some (.ref x), some (.str (sL ls)), some (.ref L), v3, v4] ∧ Same H (upd H4 L (.lst (bs.map V.ref ++ [.ref m]))) ∧
            (upd H4 L (.lst (bs.map V.ref ++ [.ref m]))) L = some (.lst (bs2.map V.ref)) ∧ StepsAt K (upd H4 L (.lst (bs.map V.ref ++ [.ref m]))) bs2 (relet ls 0 (st.take (i + 1))) := by
        intro m H4 s4 hm
        have hL4 := s4 _ _ hL3
        refine ⟨bs ++ [m], _, _, rfl, fun c o e => ?_, by rw [upd_same, List.map_append]; rfl, ?_⟩
        · rw [upd_ne (ne_of_none e hL)]
          exact s4 _ _ (s3 _ _ e)
        · rw [relet_take ls hy]
          exact (steps_butL hL4 but_upd (hbs3.same s4)).snoc (sqT_butL hL4 but_upd hm)
      refine ⟨TT, [.ref a, .ref b], rfl, .inl (.inl upd_same), rfl, _, _, rfl, _, _, rfl, rfl, ?_⟩
      refine ⟨_, rfl, b, _, db, _, _, rfl, s3 _ _ e5, T.clS, T.nS3, spF_key _ _ _, _, rfl, ?_⟩
      cases y with
      | wr w =>
        have hks := nk_take_le hy
        have hw : (sL w).length ≤ sizeLine := by
          rw [sL_len]
          simp [Stp.ok] at ok
          exact Nat.le_trans ok.1.2 (by decide)
        refine iteF ?_
        refine ⟨_, rfl, .inl ⟨rfl, _, SqL.of hL3⟩, _, rfl, _, rfl, b, _, db, _, _, rfl, s3 _ _ e5, T.clS, T.nS3, spF_key _ _ _, _, rfl, _, rfl, b, _, db, _, _, rfl, s3 _ _ e5, T.clS, T.nS3, spF_key _ _ _, _, rfl, a, _, _, _, rfl, rfl, same_sqT s3 hay, atI_nat (j := 1) rfl, _, rfl, hw, _, _, rfl, rfl,
          _, rfl, _, rfl, hz, (by show 2 ≤ sizeLine; decide), fun p hp => ?_⟩
        have hL5 : (upd (upd H2 TT (.tup [.ref a, .ref b])) p (.tup [.str "write", .str (cutS (sL ls) (some (nk (st.take i) : Int)) (some ((nk (st.take i) : Int) + ((sL w).length : Int))))])) L = some (.lst (bs.map V.ref)) := same_upd hp _ _ hL3
        refine ⟨L, _, _, rfl, rfl, hL5, hsm, ?_⟩
        refine fin p _ (same_upd hp) (.inl (.inl ?_))
        rw [upd_same, sL_len]
        have e9 := cut_sL (ls := ls) (n := nk (st.take i)) (m := w.length) (by rw [hl]; exact hks)
        rw [Int.natCast_add] at e9
        rw [e9]
        rfl
      | pa f0 l t0 =>
        refine iteT ?_
        refine ⟨_, rfl, .inl ⟨rfl, _, SqL.of hL3⟩, _, rfl, L, _, _, rfl, rfl, hL3, hsm, ?_⟩
        exact fin a _ (Same.refl _) (same_sqT s3 hay)
    · rintro σ H2 ⟨bs, v3, v4, rfl, s2, hL2, hbs⟩
      rw [hn, List.take_length] at hbs
      refine ⟨_, rfl, L, _, rfl, .inr (SqL.of hL2), ?_⟩
      refine make_text T.csct hbs (goes_relet hlet t.good (by omega)) (by rw [relet_len]; exact few) fun z H4 hz s4 t2 => ?_
      exact q z H4 (s2.free hz) (s2.trans s4) t2
end
end KL
namespace KL
open PySem PySem.Spec PyProof.Rows L2 Pk He
def spRet (K : Fr) : Sp := fun vs H Q _ => ∃ (x : Addr) (k c : Nat) (st : List Stp), vs = [.ref x, .int k, .str (sL [c])] ∧ TA_ K H x st ∧ k < nk st ∧ isLet c = true ∧ (typed st).all isLet = true ∧
  ∀ z H2, H z = none → Same H H2 → TA_ K H2 z (relet ((typed st).set k c) 0 st) → Q (.ref z) H2
section
variable {P : Program} {w : World} {K : Fr} {mg : Str → Option Value} {base : Heap} {f : Addr}
theorem scRet : FnScope ["self", "key", "letter"] ["self", "key", "letter"] (defScope sRet) := ⟨rfl, rfl, rfl, by decide +kernel, rfl, by decide +kernel, by decide +kernel⟩
theorem ok_ret (D : Df K "retyped" "Text.retyped" sRet f) (T : Tc K mg) (GN : Kp P w K mg base 1 (ga K "is_number") spIsNumber) (GL : Kp P w K mg base 1 (ga K "is_letter") spIsLetter) (GW : Kp P w K mg base 7 (ma K (CT K) "with_letters") (spWith K)) : Kp P w K mg base 8 f (spRet K) := by
  obtain ⟨fdW, psW, FW, bW, kpW⟩ := GW
  refine kp_of D scRet (fun _ _ _ _ _ _ us hl => match us, hl with | [_, _, _], _ => rfl) ?_ (fun cdv A outer s H vs Q E hr h => ?_)
  · rintro vs H Q E ⟨x, k, c, st, rfl, _⟩
    rfl
  · obtain ⟨x, k, c, st, rfl, t, hk, hc, hal, q⟩ := h
    obtain ⟨dx, ts, sp, as, ss, hx, _, _, hsp, hss⟩ := t.obj
    have hz := typed_small t
    have hlen := typed_len st
    have e3 : ((sL (typed st)).length : Int) = (nk st : Nat) := by rw [sL_len, typed_len]
    have e1 : isNum (.int (k : Int)) 0 ((nk st : Int) - 1) = true := by
      show (decide ((0 : Int) ≤ k) && decide ((k : Int) ≤ (nk st : Int) - 1)) = true
      rw [decide_eq_true (by omega), decide_eq_true (by omega)]
      rfl
    have e2 : isLetV (.str (sL [c])) = true := hc
    refine ⟨_, (pss_cons (ps_if (pt_not (pt_val (pk_call GN (hr.mono (by decide)) T.gIsNumber (pa_cons (pv 1) (pa_cons pe_int (pa_cons (pe_op op_sub (pk_b1 call_len_str T.len b_len (pe_fld (pv 0) rfl)) pe_int) pa_nil)))))) pss_never pss_nil) (pss_cons (ps_if (pt_not (pt_val (pk_call GL (hr.mono (by decide)) T.gIsLetter (pa_cons (pv 2) pa_nil)))) pss_never pss_nil) (pss_one (ps_ret (pe_meth (pv 0) T.clT T.mWith FW (hr.mono (by decide)) bW .nil pass0 (pa_cons (pe_op op_add_str (pe_op op_add_str (pe_slice sl_str (pe_fld (pv 0) rfl) po_none (po_some (pv 1))) (pv 2)) (pe_slice sl_str (pe_fld (pv 0) rfl) (po_some (pe_op op_add (pv 1) pe_int)) po_none)) pa_nil)))))), ?_⟩
    refine ⟨_, rfl, _, rfl, x, _, dx, _, _, rfl, hx, T.clT, T.nT4, rfl, _, rfl, Nat.le_trans hz (by decide), _, _, rfl, rfl, .int k, 0, _, rfl, rfl, ?_⟩
    rw [e3, e1]
    refine ⟨true, rfl, ?_⟩
    refine iteF ?_
    refine ⟨_, rfl, _, rfl, rfl, (by decide : 1 ≤ sizeLine), ?_⟩
    rw [e2]
    refine ⟨true, rfl, ?_⟩
    refine iteF ?_
    have cutA : cutS (sL (typed st)) none (some (k : Int)) = sL ((typed st).take k) := by
      unfold cutS
      rw [HT.sIx_none, HT.sIx_nat, sL_len, Nat.min_eq_left (by omega), Nat.sub_zero]
      rfl
    have cutB : cutS (sL (typed st)) (some ((k : Int) + 1)) none = sL ((typed st).drop (k + 1)) := by
      unfold cutS
      rw [HT.sIx_none, show ((k : Int) + 1) = ((k + 1 : Nat) : Int) by omega, HT.sIx_nat, sL_len, Nat.min_eq_left (by omega)]
      show sL (((typed st).drop (k + 1)).take ((typed st).length - (k + 1))) = _
      rw [List.take_of_length_le (by rw [List.length_drop]; omega)]
    have hset : (typed st).set k c = (typed st).take k ++ [c] ++ (typed st).drop (k + 1) := by
      rw [List.set_eq_take_append_cons_drop, if_pos (by omega), List.append_assoc]
      rfl
    refine ⟨_, rfl, x, dx, _, rfl, hx, lk_with _ _ _, ?_⟩
    have hl1 : (sL ((typed st).take k)).length + (sL [c]).length ≤ sizeLine := by
      rw [sL_len, sL_len, List.length_take]
      exact Nat.le_trans (show min k (typed st).length + 1 ≤ 700 by rw [sL_len] at hz; omega) (by decide)
    have hl2 : (sL ((typed st).take k) ++ sL [c]).length + (sL ((typed st).drop (k + 1))).length ≤ sizeLine := by
      rw [sL_app, sL_len, sL_len, List.length_append, List.length_take, List.length_drop]
      exact Nat.le_trans (show min k (typed st).length + 1 + ((typed st).length - (k + 1)) ≤ 1300 by rw [sL_len] at hz; omega) (by decide)
    have hzz := Nat.le_trans hz (show 600 ≤ sizeLine by decide)
    refine ⟨_, rfl, x, _, dx, _, _, rfl, hx, T.clT, T.nT4, rfl, _, rfl, (k : Int), rfl, _, rfl, hzz, _, rfl, ?_⟩
    rw [cutA]
    refine ⟨_, _, rfl, rfl, hl1, _, rfl, x, _, dx, _, _, rfl, hx, T.clT, T.nT4, rfl, _, rfl, _, _, rfl, rfl, _, rfl, _, rfl, hzz, ?_⟩
    rw [cutB]
    refine ⟨_, _, rfl, rfl, hl2, ?_⟩
    rw [sL_app, sL_app, ← hset]
    refine ⟨x, (typed st).set k c, st, rfl, t, by rw [List.length_set]; exact hlen, ?_, q⟩
    rw [List.all_eq_true] at hal ⊢
    intro c2 h2
    rcases List.mem_or_eq_of_mem_set h2 with h3 | h3
    · exact hal c2 h3
    · rw [h3]
      exact hc
end
end KL
namespace KL
open PySem PySem.Spec PyProof.Rows L2 Pk He
def spSum (K : Fr) : Sp := fun vs H Q _ => ∃ (a b : Addr) (as bs : List Addr) (st st2 : List Stp), vs = [.ref a, .ref b] ∧ SqT K H a (as.map V.ref) ∧ StepsAt K H as st ∧ SqT K H b (bs.map V.ref) ∧ StepsAt K H bs st2 ∧ Goes most 0 st ∧ st.length ≤ 30 ∧ sz st ≤ 2000 ∧ st2.length ≤ 30 ∧
  ∀ t cs H2, Same H H2 → SqT K H2 t (cs.map V.ref) → StepsAt K H2 cs (plus st st2) → Q (.ref t) H2
section
variable {P : Program} {w : World} {K : Fr} {mg : Str → Option Value} {base : Heap} {f : Addr}
theorem scSum : FnScope ["_law_steps_here", "_law_others", "_law_size", "_law_found", "_law_step"] ["_law_steps_here", "_law_others"] (defScope sSum) := ⟨rfl, rfl, rfl, by decide +kernel, rfl, by decide +kernel, by decide +kernel⟩
theorem ok_sum (D : Df K "_law_sum" "_law_sum" sSum f) (T : Tc K mg) (gK : mg "_law_keys" = some (.ref (ga K "_law_keys"))) (GKs : Kp P w K mg base 1 (ga K "_law_keys") (spKeys K)) : Kp P w K mg base 2 f (spSum K) := by
  refine kp_of D scSum (fun _ _ _ _ _ _ us hl => match us, hl with | [_, _], _ => rfl) ?_ (fun cdv A outer s H vs Q E hr h => ?_)
  · rintro vs H Q E ⟨a, b, as, bs, st, st2, rfl, _⟩
    rfl
  · obtain ⟨a, b, as, bs, st, st2, rfl, ha, hst, hb, hst2, good, few, hsz, few2, q⟩ := h
    refine ⟨_, (pss_cons (ps_par (i := 2) (j := 3) rfl scSum.nd rfl rfl (by decide) rfl rfl (pa_cons (pk_b1 call_len_seq T.len b_len (pe_ix ix_tup (pk_call GKs (hr.mono (by decide)) gK (pa_cons (pv 0) pa_nil)) pe_int (fun _ _ => rfl))) (pa_cons (pk_t1 call_list_of T.lst b_list (pv 0)) pa_nil)) (by rfl)) (pss_cons (ps_for PassesOwn.never rfl (pi_tup (pv 1)) (pg_name (i := 4) scSum.nd rfl (Or.inl rfl)) (pss_one (ps_expr (pe_bm PySem.F.plainAttrs_list PySem.F.slot_list_append PySem.F.type_list_append mt_append (pv 3) (pa_cons (pe_ifExp (pt_cmpR op_eq (pe_ix ix_tup (pv 4) pe_int (fun _ _ => rfl)) pe_str (nomark _)) (pv 4) (pe_tup (pa_cons pe_str (pa_cons (pe_op op_add (pe_ix ix_tup (pv 4) pe_int (fun _ _ => rfl)) (pv 2)) (pa_cons (pe_op op_add (pe_ix ix_tup (pv 4) pe_int (fun _ _ => rfl)) (pv 2)) (pa_cons (pe_ix ix_tup (pv 4) pe_int (fun _ _ => rfl)) pa_nil)))))) pa_nil))))) (pss_one (ps_ret (pk_t1 call_tuple_of T.tup b_tuple (pv 3)))))), ?_⟩
    refine ⟨_, rfl, a, as, st, rfl, ha, hst, good, few, hsz, fun p L H2 hp hL s2 ep eL => ?_⟩
    have hlex := ex_len _ good
    refine ⟨p, _, 0, _, rfl, rfl, .inl (.inl ep), rfl, L, _, rfl, .inl (SqL.of eL), _, rfl, a, _, rfl, .inr (same_sqT s2 ha), fun F hF => ?_⟩
    have s3 := s2.trans (same_upd (o := .lst (as.map V.ref)) hF)
    have hF0 : H F = none := s2.free hF
    refine ⟨_, _, rfl, ?_⟩
    refine ⟨_, rfl, b, rfl, ⟨_, same_sqT s3 hb⟩, ?_⟩
    have hn : (bs.map V.ref).length = st2.length := by rw [List.length_map, hst2.len]
    have ez : ((nV (ex st)).length : Int) = (sz st : Nat) := by rw [nV_len, hlex]
    refine for_tup (xs := bs.map V.ref) (fun i σ H3 => ∃ (cs : List Addr) (v4 : Option V), σ = [some (.ref a), some (.ref b), some (.int (sz st : Nat)), some (.ref F), v4] ∧ Same H H3 ∧ H3 F = some (.lst (cs.map V.ref)) ∧ StepsAt K H3 cs (st ++ (st2.take i).map (mv (sz st))))
      ⟨as, none, by rw [ez]; rfl, s3, upd_same, by simpa using (hst.same s3)⟩ ?_ ?_ ?_
    · rintro i σ H3 _ ⟨cs, v4, _, s4, _⟩
      exact same_sqT s4 hb
    · rintro i v σ H3 hv ⟨cs, v4, rfl, s4, hF3, hcs⟩
      have hi : i < st2.length := by
        have := (List.getElem?_eq_some_iff.mp hv).1
        rwa [hn] at this
      obtain ⟨x, hx⟩ : ∃ x, st2[i]? = some x := ⟨st2[i], List.getElem?_eq_getElem hi⟩
      obtain ⟨c, hc, hcx⟩ := hst2.at_ i x hx
      have ev : v = .ref c := map_at hc hv
      subst ev
      have hcx3 := same_sqT s4 hcx
      have hlt : (cs.map V.ref).length < sizeLine := by
        rw [List.length_map, hcs.len, List.length_append, List.length_map, List.length_take]
        exact Nat.lt_of_le_of_lt (show st.length + min i st2.length ≤ 100 by omega) (by decide)
      have fin : ∀ (m : Addr) (H5 : Hp), Same H3 H5 → SqT K H5 m (stV (mv (sz st) x)) → ∃ (cs2 : List Addr) (v4 : Option V), ([some (.ref a), some (.ref b), some (.int (sz st : Nat)), some (.ref F), some (.ref c)] : L2.St) = [some (.ref a), some (.ref b), some (.int (sz st : Nat)), some (.ref F), v4] ∧
          Same H (upd H5 F (.lst (cs.map V.ref ++ [.ref m]))) ∧ (upd H5 F (.lst (cs.map V.ref ++ [.ref m]))) F = some (.lst (cs2.map V.ref)) ∧ StepsAt K (upd H5 F (.lst (cs.map V.ref ++ [.ref m]))) cs2 (st ++ (st2.take (i + 1)).map (mv (sz st))) := fun m H5 s5 hm => by
        refine ⟨cs ++ [m], _, rfl, fun b o e => ?_, by rw [upd_same, List.map_append]; rfl, ?_⟩
        · rw [upd_ne (ne_of_none e hF0)]
          exact s5 _ _ (s4 _ _ e)
        · rw [take_succ hx, List.map_append, ← List.append_assoc]
          exact (steps_butL (s5 _ _ hF3) but_upd (hcs.same s5)).snoc (sqT_butL (s5 _ _ hF3) but_upd hm)
      cases x with
      | wr wd =>
        refine ⟨_, rfl, .inl ⟨rfl, _, SqL.of hF3⟩, ?_⟩
        refine ⟨_, rfl, c, _, 0, _, rfl, rfl, hcx3, rfl, rfl, _, rfl, ?_⟩
        rw [decide_eq_true rfl]
        refine iteT ?_
        refine ⟨_, rfl, F, _, _, rfl, rfl, hF3, hlt, ?_⟩
        exact fin c H3 (Same.refl _) hcx3
      | pa f0 l t =>
        have e0 : decide (V.str (Str.ofString "paste") = V.str (Str.ofString "write")) = false := by decide +kernel
        refine ⟨_, rfl, .inl ⟨rfl, _, SqL.of hF3⟩, ?_⟩
        refine ⟨_, rfl, c, _, 0, _, rfl, rfl, hcx3, rfl, rfl, _, rfl, ?_⟩
        rw [e0]
        refine iteF ?_
        refine ⟨_, rfl, c, _, 1, _, rfl, rfl, hcx3, rfl, _, rfl, _, _, rfl, rfl, _, rfl, c, _, 2, _, rfl, rfl, hcx3, rfl, _, rfl, _, _, rfl, rfl, _, rfl, c, _, 3, _, rfl, rfl, hcx3, rfl, (by show 4 ≤ sizeLine; decide), fun m hm => ?_⟩
        have s5 : Same H3 (upd H3 m (.tup [.str "paste", .int ((f0 : Int) + (sz st : Nat)), .int ((l : Int) + (sz st : Nat)), .int (t : Nat)])) := same_upd hm
        refine ⟨F, _, _, rfl, rfl, s5 _ _ hF3, hlt, ?_⟩
        exact fin m _ s5 (.inl (.inl upd_same))
    · rintro σ H3 ⟨cs, v4, rfl, s4, hF3, hcs⟩
      rw [hn, List.take_length] at hcs
      refine ⟨_, rfl, F, _, rfl, .inl ⟨SqL.of hF3, fun p2 hp2 => ?_⟩⟩
      exact q p2 cs _ (s4.trans (same_upd hp2)) (.inl (.inl upd_same)) (hcs.same (same_upd hp2))
end
end KL
namespace KL
open PySem PySem.Spec PyProof.Rows L2 Pk He
def spIsText (K : Fr) : Sp := fun vs H Q _ => ∃ (x a : Addr) (as : List Addr) (st : List Stp), vs = [.ref x, .ref a] ∧ TA_ K H x st ∧ SqT K H a (as.map V.ref) ∧ StepsAt K H as st ∧ sz st ≤ 2000 ∧ ∀ H2, Same H H2 → Q (.bl true) H2
theorem nV_al {K : Fr} {H : Hp} {n : Nat} {a b : Addr} {l : List Nat} (h1 : H a = some (.lst (nV l))) (h2 : H b = some (.lst (nV l))) (hl : l.length ≤ 2000) : AlN K (n + 1) H (.ref a) (.ref b) := by
  refine .inr ⟨a, b, nV l, nV l, rfl, rfl, .inl ⟨h1, h2⟩, rfl, by rw [nV_len]; exact hl, fun i u v hu hv => ?_⟩
  rw [hu] at hv
  cases hv
  obtain ⟨k, _, rfl⟩ := nV_at hu
  cases n with
  | zero => exact ⟨rfl, rfl⟩
  | succ n => exact .inl ⟨rfl, rfl⟩
theorem st_al {K : Fr} {H : Hp} {n : Nat} {a b : Addr} {x : Stp} (h1 : SqT K H a (stV x)) (h2 : SqT K H b (stV x)) : AlN K (n + 1) H (.ref a) (.ref b) := by
  refine .inr ⟨a, b, stV x, stV x, rfl, rfl, .inr ⟨h1, h2⟩, rfl, by cases x <;> (show _ ≤ 2000; simp [stV]), fun i u v hu hv => ?_⟩
  rw [hu] at hv
  cases hv
  have hf : flatA u = true := by
    have := List.mem_of_getElem? hu
    cases x <;> (simp [stV] at this; rcases this with rfl | rfl | rfl | rfl <;> rfl)
  cases n with
  | zero => exact ⟨rfl, hf⟩
  | succ n => exact .inl ⟨rfl, hf⟩
theorem sts_al {K : Fr} {H : Hp} {n : Nat} {a b : Addr} {as bs : List Addr} {st : List Stp} (h1 : SqT K H a (as.map V.ref)) (h2 : SqT K H b (bs.map V.ref)) (k1 : StepsAt K H as st) (k2 : StepsAt K H bs st) (few : st.length ≤ 30) : AlN K (n + 2) H (.ref a) (.ref b) := by
  refine .inr ⟨a, b, as.map V.ref, bs.map V.ref, rfl, rfl, .inr ⟨h1, h2⟩, by rw [List.length_map, List.length_map, k1.len, k2.len], by rw [List.length_map, k1.len]; omega, fun i u v hu hv => ?_⟩
  have hi : i < st.length := by
    have := (List.getElem?_eq_some_iff.mp hu).1
    rw [List.length_map, k1.len] at this
    exact this
  obtain ⟨c, hc, hcx⟩ := k1.at_ i _ (List.getElem?_eq_getElem hi)
  obtain ⟨d, hd, hdx⟩ := k2.at_ i _ (List.getElem?_eq_getElem hi)
  have eu : u = .ref c := map_at hc hu
  have ev : v = .ref d := map_at hd hv
  subst eu ev
  exact st_al hcx hdx
/-! ### letters as data -/
def cV (l : List Nat) : List V := l.map fun c => V.str (sL [c])
def cDs (l : List Nat) : List PyData := l.map fun c => .str (sL [c])
theorem cD_dpA {K : Fr} {H : Hp} : ∀ l : List Nat, DpAll K H (cV l) (cDs l)
  | [] => .nil
  | _ :: r => .cons (.str _) (cD_dpA r)
theorem cD_dp {K : Fr} {H : Hp} {a : Addr} {l : List Nat} (h : H a = some (.lst (cV l))) : Dp K H (.ref a) (.list (cDs l)) := .lst (SqL.of h) (cD_dpA l)
theorem cD_lay : ∀ {l : List Nat}, l.all isLet = true → PyData.canLayAll0 (cDs l) = true
  | [], _ => by simp [cDs, PyData.canLayAll0]
  | c :: r, h => by
    rw [List.all_cons, Bool.and_eq_true] at h
    have h1 : PyData.strOk (sL [c]) = true := sL_ok (by rw [List.all_cons, h.1]; rfl)
    have h2 := cD_lay h.2
    show PyData.canLayAll0 (PyData.str (sL [c]) :: cDs r) = true
    simp [PyData.canLayAll0, PyData.canLay0, h1, h2]
theorem cD_depth : ∀ l : List Nat, PyData.depthAll (cDs l) ≤ 1
  | [] => by simp [cDs, PyData.depthAll]
  | c :: r => by
    have := cD_depth r
    show PyData.depthAll (PyData.str (sL [c]) :: cDs r) ≤ 1
    simp only [PyData.depthAll, PyData.depth]
    omega
theorem cD_shaped {l : List Nat} (h : l.all isLet = true) : SeqAt.shaped (.list (cDs l)) = true := by
  have h1 := cD_depth l
  have h2 : PyData.depth (.list (cDs l)) ≤ 64 := by
    simp only [PyData.depth]
    omega
  show (PyData.canLay0 (.list (cDs l)) && decide (PyData.depth (.list (cDs l)) ≤ 64)) = true
  rw [decide_eq_true h2, Bool.and_true]
  simp only [PyData.canLay0]
  exact cD_lay h
theorem cD_eqA : ∀ l : List Nat, PyData.eqvAll (cDs l) (cDs l) = true
  | [] => by simp [cDs, PyData.eqvAll]
  | c :: r => by
    have := cD_eqA r
    show (PyData.eqv (.str (sL [c])) (.str (sL [c])) && PyData.eqvAll (cDs r) (cDs r)) = true
    rw [this]
    simp [PyData.eqv]
theorem cD_eq (l : List Nat) : PyData.eqv (.list (cDs l)) (.list (cDs l)) = true := by
  simp only [PyData.eqv]
  exact cD_eqA l
/-- the letters of all places -/
def letts (st : List Stp) : List Nat := (ex st).map fun k => (typed st).getD k 0
theorem letts_let {m : Nat} {st : List Stp} (h : Goes m 0 st) : (letts st).all isLet = true := by
  have h1 := typed_let h
  rw [List.all_eq_true] at h1 ⊢
  intro c hc
  obtain ⟨k, hk, rfl⟩ := List.mem_map.mp hc
  have h2 := ex_lt st k hk
  rw [← typed_len] at h2
  rw [List.getD_eq_getElem?_getD, List.getElem?_eq_getElem h2]
  exact h1 _ (List.getElem_mem h2)
theorem letts_map (st : List Stp) : (List.range (ex st).length).map (fun i => V.str (sL [(typed st).getD ((ex st).getD i 0) 0])) = cV (letts st) := by
  unfold cV letts
  refine List.ext_getElem (by simp) fun i h1 h2 => ?_
  simp only [List.length_map, List.length_range] at h1
  simp [List.getD_eq_getElem?_getD, List.getElem?_eq_getElem h1]
def signs : List V := [.str (Str.ofString "a"), .str (Str.ofString "b"), .str (Str.ofString "z"), .str (Str.ofString "q"), .str (Str.ofString "A"), .str (Str.ofString "ab"), .str (Str.ofString ""), .non, .int 5]
theorem signs_ok {v : V} (h : v ∈ signs) : flatV v = true ∧ fitV v ∧ (v = .non ∨ v = .int 5 ∨ ∃ z, v = .str z) := by
  simp only [signs, List.mem_cons, List.not_mem_nil, or_false] at h
  rcases h with rfl | rfl | rfl | rfl | rfl | rfl | rfl | rfl | rfl
  · exact ⟨rfl, (by decide : 1 ≤ sizeLine), .inr (.inr ⟨_, rfl⟩)⟩
  · exact ⟨rfl, (by decide : 1 ≤ sizeLine), .inr (.inr ⟨_, rfl⟩)⟩
  · exact ⟨rfl, (by decide : 1 ≤ sizeLine), .inr (.inr ⟨_, rfl⟩)⟩
  · exact ⟨rfl, (by decide : 1 ≤ sizeLine), .inr (.inr ⟨_, rfl⟩)⟩
  · exact ⟨rfl, (by decide : 1 ≤ sizeLine), .inr (.inr ⟨_, rfl⟩)⟩
  · exact ⟨rfl, (by decide : 2 ≤ sizeLine), .inr (.inr ⟨_, rfl⟩)⟩
  · exact ⟨rfl, (by decide : 0 ≤ sizeLine), .inr (.inr ⟨_, rfl⟩)⟩
  · exact ⟨rfl, trivial, .inl rfl⟩
  · exact ⟨rfl, trivial, .inr (.inl rfl)⟩
section
variable {P : Program} {w : World} {K : Fr} {mg : Str → Option Value} {base : Heap} {f : Addr}
theorem scIsText : FnScope ["_law_text", "_law_steps_here", "_law_keys_here", "_law_letters", "_law_places", "_law_sign", "_law_place", "_law_key"] ["_law_text", "_law_steps_here"] (defScope sIsText) := ⟨rfl, rfl, rfl, by decide +kernel, rfl, by decide +kernel, by decide +kernel⟩
theorem ok_is_text (D : Df K "_law_is_text" "_law_is_text" sIsText f) (T : Tc K mg) (GKs : Kp P w K mg base 1 (ga K "_law_keys") (spKeys K)) (GAl : Kp P w K mg base 5 (ga K "_law_alike") (spAlike K 3)) (GSp : Kp P w K mg base 1 (pgA K (CT K) "steps") (spStepsP K))
    (GTy : Kp P w K mg base 1 (pgA K (CT K) "typed_keys") (spTyped K)) (GZ : Kp P w K mg base 1 (pgA K (CT K) "size") (spSize K)) (GC : Kp P w K mg base 3 (ma K (CT K) "__call__") (spCall K)) (GG : Kp P w K mg base 3 (ma K (CT K) "__getitem__") (spGet K)) (GH : Kp P w K mg base 2 (ma K (CT K) "__contains__") (spHas K)) : Kp P w K mg base 6 f (spIsText K) := by
  refine kp_of D scIsText (fun _ _ _ _ _ _ us hl => match us, hl with | [_, _], _ => rfl) ?_ (fun cdv A outer s H vs Q E hr h => ?_)
  · rintro vs H Q E ⟨x, a, as, st, rfl, _⟩
    rfl
  · obtain ⟨x, a, as, st, rfl, t, ha, hst, hsz, q⟩ := h
    obtain ⟨dx, _, _, _, _, hx, _⟩ := t.obj
    have hlex := ex_len _ t.good
    have hz := typed_small t
    refine ⟨_, (pss_cons (ps_asg (pk_call GKs (hr.mono (by decide)) T.gKeys (pa_cons (pv 1) pa_nil)) (pg_tup rfl (pgs_cons (pg_name (i := 2) scIsText.nd rfl (Or.inl rfl)) (pgs_cons (pg_name (i := 3) scIsText.nd rfl (Or.inr rfl)) pgs_nil)))) (pss_cons (ps_if (pt_not (pt_val (pk_call GAl (hr.mono (by decide)) T.gAlike (pa_cons (pe_lst (pa_cons (pk_prop (pv 0) T.clT T.pSteps GSp (hr.mono (by decide))) (pa_cons (pk_prop (pv 0) T.clT T.pTyped GTy (hr.mono (by decide))) (pa_cons (pk_prop (pv 0) T.clT T.pSize GZ (hr.mono (by decide))) pa_nil)))) (pa_cons (pe_lst (pa_cons (pk_t1 call_tuple_of T.tup b_tuple (pv 1)) (pa_cons (pv 3) (pa_cons (pk_b1 call_len_seq T.len b_len (pv 2)) pa_nil)))) pa_nil))))) (pss_one (ps_ret pe_bl)) pss_nil) (pss_cons (ps_set (i := 4) scIsText.nd rfl (Or.inl rfl) (pe_listRg rfl (by rfl) T.lst (prg_1 (by rfl) T.rng (pk_b1 call_len_seq T.len b_len (pv 2))))) (pss_cons (ps_if (pt_not (pt_val (pk_call GAl (hr.mono (by decide)) T.gAlike (pa_cons (pe_lc (own := [("_law_place", 6)]) (g := gName 6) (tt := tYes) rfl scIsText.nd (pi_list (pv 4)) (blkOk_by (N := ["_law_text", "_law_steps_here", "_law_keys_here", "_law_letters", "_law_places", "_law_sign", "_law_place", "_law_key"]) (sc := defScope sIsText) (by decide +kernel)) (fun _ _ _ _ _ => (pg_name (i := 6) scIsText.nd rfl (Or.inl rfl))) (fun _ _ _ _ _ => pts_nil) (fun _ _ _ _ _ => (pk_callO (pv 0) T.callO GC (hr.mono (by decide)) (pa_cons (pv 6) pa_nil)))) (pa_cons (pv 2) pa_nil))))) (pss_one (ps_ret pe_bl)) pss_nil) (pss_cons (ps_if (pt_cmpR (op_neD hr.units) (pe_lc (own := [("_law_place", 6)]) (g := gName 6) (tt := tYes) rfl scIsText.nd (pi_list (pv 4)) (blkOk_by (N := ["_law_text", "_law_steps_here", "_law_keys_here", "_law_letters", "_law_places", "_law_sign", "_law_place", "_law_key"]) (sc := defScope sIsText) (by decide +kernel)) (fun _ _ _ _ _ => (pg_name (i := 6) scIsText.nd rfl (Or.inl rfl))) (fun _ _ _ _ _ => pts_nil) (fun _ _ _ _ _ => (pe_getO T.oGet GG.fnR (hr.mono (by decide)) pass0 (pv 0) (pv 6)))) (pe_lc (own := [("_law_key", 7)]) (g := gName 7) (tt := tYes) rfl scIsText.nd (pi_list (pv 2)) (blkOk_by (N := ["_law_text", "_law_steps_here", "_law_keys_here", "_law_letters", "_law_places", "_law_sign", "_law_place", "_law_key"]) (sc := defScope sIsText) (by decide +kernel)) (fun _ _ _ _ _ => (pg_name (i := 7) scIsText.nd rfl (Or.inl rfl))) (fun _ _ _ _ _ => pts_nil) (fun _ _ _ _ _ => (pe_item_str (pv 3) (pv 7) (fun _ _ => rfl)))) (nomark _)) (pss_one (ps_ret pe_bl)) pss_nil) (pss_cons (ps_for PassesOwn.never rfl (pi_tup (pe_tup (pa_cons pe_str (pa_cons pe_str (pa_cons pe_str (pa_cons pe_str (pa_cons pe_str (pa_cons pe_str (pa_cons pe_str (pa_cons pe_non (pa_cons pe_int pa_nil))))))))))) (pg_name (i := 5) scIsText.nd rfl (Or.inl rfl)) (pss_one (ps_if (pt_cmpR op_ne (pe_cmpR (op_inO T.oHas GH.fnR (hr.mono (by decide)) pass0) (pv 5) (pv 0) rfl) (pe_and (pe_isi (pv 5) T.isi T.str b_str) (pe_and (pe_cmpR op_eq (pk_b1 call_len_str T.len b_len (pv 5)) pe_int (nomark _)) (pe_one (pe_cmpR op_in_sign (pv 5) (pv 3) rfl)))) (nomark _)) (pss_one (ps_ret pe_bl)) pss_nil))) (pss_one (ps_ret pe_bl)))))))), ?_⟩
    refine ⟨_, rfl, a, as, st, rfl, ha, hst, t.good, t.few, hsz, fun p L H1 hp hL s1 ep eL => ?_⟩
    refine ⟨p, _, rfl, .inl (.inl ep), rfl, _, _, rfl, _, _, rfl, rfl, ?_⟩
    have hx1 := s1 _ _ hx
    have t1 := t.same s1
    refine ⟨_, rfl, x, dx, _, rfl, hx1, x, st, rfl, t1, fun ts as2 hts hst2 => ⟨_, rfl, x, dx, _, rfl, hx1, x, st, rfl, t1, _, rfl, x, dx, _, rfl, hx1, x, st, rfl, t1, (by show 3 ≤ sizeLine; decide), fun l1 hl1 => ?_⟩⟩
    have s2 : Same H1 (upd H1 l1 (.lst [.ref ts, .str (sL (typed st)), .int (sz st : Nat)])) := same_upd hl1
    refine ⟨_, rfl, a, _, rfl, .inr ⟨same_sqT (s1.trans s2) ha, ?_⟩⟩
    refine ⟨_, rfl, _, rfl, L, _, rfl, .inl (SqL.of (s2 _ _ eL)), (by show 3 ≤ sizeLine; decide), fun l2 hl2 => ?_⟩
    have en : ((nV (ex st)).length : Int) = (sz st : Nat) := by rw [nV_len, hlex]
    rw [en]
    have s3 := s2.trans (same_upd (o := .lst [.ref a, .str (sL (typed st)), .int (sz st : Nat)]) hl2)
    have al1 : AlN K 3 (upd (upd H1 l1 (.lst [.ref ts, .str (sL (typed st)), .int (sz st : Nat)])) l2 (.lst [.ref a, .str (sL (typed st)), .int (sz st : Nat)])) (.ref l1) (.ref l2) := by
      refine .inr ⟨l1, l2, _, _, rfl, rfl, .inl ⟨same_upd hl2 _ _ upd_same, upd_same⟩, rfl, (by show 3 ≤ 2000; decide), fun i u v hu hv => ?_⟩
      match i, hu, hv with
      | 0, hu, hv =>
        cases hu
        cases hv
        exact sts_al (n := 0) (same_sqT s3 hts) (same_sqT (s1.trans s3) ha) (hst2.same s3) (hst.same (s1.trans s3)) t.few
      | 1, hu, hv =>
        cases hu
        cases hv
        exact .inl ⟨rfl, rfl⟩
      | 2, hu, hv =>
        cases hu
        cases hv
        exact .inl ⟨rfl, rfl⟩
      | n + 3, hu, hv => simp at hu
    refine ⟨.ref l1, .ref l2, rfl, al1, fun H4 s4 => ⟨true, rfl, ?_⟩⟩
    refine iteF ?_
    have s04 := s1.trans (s3.trans s4)
    have eL4 := s4 _ _ (s3 _ _ eL)
    have t4 := t.same s04
    have hx4 := s04 _ _ hx
    clear al1 s4 s3 s2 hl2 hl1 hts hst2 t1 hx1 ep eL
    refine ⟨_, rfl, L, _, rfl, .inl (SqL.of eL4), _, rfl, ?_, fun R hR => ?_⟩
    · rw [en]
      exact RgOk.of_le (by omega) (by omega) (by omega) (by omega)
    · have eR : rgV 0 ((nV (ex st)).length : Int) = nV (List.range' 0 (sz st)) := by
        rw [en]
        have := rgV_nV 0 (sz st)
        rw [Nat.zero_add] at this
        exact this
      rw [eR]
      have s5 := same_upd (o := .lst (nV (List.range' 0 (sz st)))) hR
      have eR5 : (upd H4 R (.lst (nV (List.range' 0 (sz st))))) R = some (.lst (nV (List.range' 0 (sz st)))) := upd_same
      have nR : (nV (List.range' 0 (sz st))).length = sz st := by rw [nV_len, List.length_range']
      have atR : ∀ (j : Nat) (v : V), (nV (List.range' 0 (sz st)))[j]? = some v → v = .int (j : Nat) := fun j v h => by
        obtain ⟨k, hk, rfl⟩ := nV_at h
        have hj := (List.getElem?_eq_some_iff.mp hk).1
        rw [List.length_range'] at hj
        rw [List.getElem?_range' hj] at hk
        cases hk
        simp
      refine ⟨_, rfl, R, rfl, ⟨_, SqL.of eR5⟩, fun D hD => ?_⟩
      refine lc_map (walk_list (xs := nV (List.range' 0 (sz st)))) hD (fun i => V.int ((ex st).getD i 0 : Nat)) (by rw [nR]; exact Nat.le_trans hsz (by decide)) (fun H6 s6 => SqL.of (s6 _ _ eR5)) ?_ ?_
      · rintro j v H6 H7 N hj s6 ⟨rfl, hv⟩ hN
        rw [nR] at hj
        have ev := atR j v hv
        subst ev
        have s46 := s5.trans s6
        refine ⟨rfl, _, rfl, x, rfl, _, rfl, ⟨dx, _, s46 _ _ hx4⟩, x, j, st, rfl, t4.same s46, hj, fun k Hk sk hk => ?_⟩
        have e : (ex st).getD j 0 = k := by rw [List.getD_eq_getElem?_getD, hk]; rfl
        have := hN _ sk
        rw [e] at this
        exact this
      · intro H6 s6 hD6
        rw [nR, ← hlex, map_getD] at hD6
        have s46 := s5.trans s6
        refine ⟨_, rfl, .ref D, .ref L, rfl, nV_al hD6 (s46 _ _ eL4) (by omega), fun H7 s7 => ⟨true, rfl, ?_⟩⟩
        refine iteF ?_
        have s47 := s46.trans s7
        have eL7 := s47 _ _ eL4
        have t7 := t4.same s47
        have hx7 := s47 _ _ hx4
        have eR7 := s7 _ _ (s6 _ _ eR5)
        have s07 := s04.trans s47
        clear s47 s46 s7 s6 s5 hD6 eR5 hD hR eL4 t4 hx4
        have hletts : ∀ (j k : Nat), (ex st)[j]? = some k → ∃ c, (typed st)[k]? = some c ∧ (typed st).getD ((ex st).getD j 0) 0 = c := fun j k hk => by
          have hkn := ex_lt st k (List.mem_of_getElem? hk)
          rw [← typed_len] at hkn
          refine ⟨(typed st)[k], List.getElem?_eq_getElem hkn, ?_⟩
          have e : (ex st).getD j 0 = k := by rw [List.getD_eq_getElem?_getD, hk]; rfl
          rw [e, List.getD_eq_getElem?_getD, List.getElem?_eq_getElem hkn]
          rfl
        refine ⟨_, rfl, R, rfl, ⟨_, SqL.of eR7⟩, fun D1 hD1 => ?_⟩
        refine lc_map (walk_list (xs := nV (List.range' 0 (sz st)))) hD1 (fun i => V.str (sL [(typed st).getD ((ex st).getD i 0) 0])) (by rw [nR]; exact Nat.le_trans hsz (by decide)) (fun H8 s8 => SqL.of (s8 _ _ eR7)) ?_ ?_
        · rintro j v H8 H9 N hj s8 ⟨rfl, hv⟩ hN
          rw [nR] at hj
          have ev := atR j v hv
          subst ev
          refine ⟨rfl, _, rfl, _, rfl, x, dx, _, rfl, s8 _ _ hx7, x, j, st, rfl, t7.same s8, hj, fun k c Hk sk hk hc => ?_⟩
          obtain ⟨c2, hc2, e2⟩ := hletts j k hk
          rw [hc] at hc2
          cases hc2
          have := hN _ sk
          rw [e2] at this
          exact this
        · intro H8 s8 hD8
          rw [nR, ← hlex, letts_map] at hD8
          refine ⟨_, rfl, L, rfl, ⟨_, SqL.of (s8 _ _ eL7)⟩, fun D2 hD2 => ?_⟩
          refine lc_map (walk_list (xs := nV (ex st))) hD2 (fun i => V.str (sL [(typed st).getD ((ex st).getD i 0) 0])) (by rw [nV_len, hlex]; exact Nat.le_trans hsz (by decide)) (fun H9 s9 => SqL.of (s9 _ _ (s8 _ _ eL7))) ?_ ?_
          · rintro j v H9 H10 N hj s9 ⟨rfl, hv⟩ hN
            obtain ⟨k, hk, rfl⟩ := nV_at hv
            obtain ⟨c, hc, e2⟩ := hletts j k hk
            have hkn := ex_lt st k (List.mem_of_getElem? hk)
            refine ⟨rfl, _, rfl, _, rfl, _, _, c, rfl, rfl, by omega, by rw [sL_len, typed_len] at hz; omega, by rw [sL_len, typed_len]; omega, ?_, ?_⟩
            · rw [Int.toNat_natCast, ← Array.getElem?_toList]
              exact hc
            · have := hN _ (Same.refl _)
              rw [e2] at this
              exact this
          · intro H9 s9 hD9
            rw [nV_len, letts_map] at hD9
            have hll := letts_let t.good
            refine ⟨_, _, cD_dp (s9 _ _ hD8), cD_dp hD9, cD_shaped hll, cD_shaped hll, _, rfl, ?_⟩
            rw [cD_eq]
            refine iteF ?_
            have s79 := s8.trans s9
            refine ⟨(by show 9 ≤ sizeLine; decide), fun pt hpt => ?_⟩
            have sp := same_upd (o := .tup signs) hpt
            have s7t := s79.trans sp
            have ept : SqT K (upd H9 pt (.tup signs)) pt signs := .inl (.inl upd_same)
            refine ⟨pt, rfl, ⟨_, ept⟩, ?_⟩
            refine for_tup (xs := signs) (fun _ σ H3 => ∃ w5 : Option V, σ = [some (.ref x), some (.ref a), some (.ref L), some (.str (sL (typed st))), some (.ref R), w5, none, none] ∧ Same (upd H9 pt (.tup signs)) H3) ⟨none, rfl, Same.refl _⟩ ?_ ?_ ?_
            · rintro i σ H10 _ ⟨w5, _, s10⟩
              exact same_sqT s10 ept
            · rintro i v σ H10 hv ⟨w5, rfl, s10⟩
              obtain ⟨fl, ft, hvv⟩ := signs_ok (List.mem_of_getElem? hv)
              have s710 := s7t.trans s10
              refine ⟨_, rfl, _, rfl, x, dx, _, rfl, s710 _ _ hx7, x, v, st, rfl, t7.same s710, fl, ft, _, rfl, ?_⟩
              refine ⟨_, rfl, v, "str", tyF v, decide (tyF v = "str"), rfl, tyF_ok fl, ?_, _, rfl, ?_⟩
              · cases v <;> first | rfl | cases fl
              rcases hvv with rfl | rfl | ⟨z, rfl⟩
              · exact ⟨rfl, false, rfl, iteF ⟨_, rfl, s10⟩⟩
              · exact ⟨rfl, false, rfl, iteF ⟨_, rfl, s10⟩⟩
              · refine ⟨_, rfl, _, rfl, ft, rfl, _, rfl, ?_⟩
                refine ite2 (fun h1 => ?_) fun h1 => ?_
                · obtain ⟨c, e1, e2⟩ := one_sign (z := z) (by simpa using h1)
                  refine ⟨_, rfl, _, rfl, c, _, by rw [e1], rfl, rfl, false, ?_, iteF ⟨_, rfl, s10⟩⟩
                  have e3 : hasV st (.str z) = decide (c ∈ (sL (typed st)).cps.toList) := by
                    show (match z.cps.toList with
                      | [c] => isLet c && decide (c ∈ typed st)
                      | _ => false) = _
                    rw [e2]
                    show (isLet c && decide (c ∈ typed st)) = decide (c ∈ typed st)
                    by_cases hm : c ∈ typed st
                    · rw [List.all_eq_true.mp (typed_let t.good) c hm]
                      rfl
                    · rw [decide_eq_false hm, Bool.and_false]
                  rw [e3, decide_eq_true rfl]
                  rfl
                · refine ⟨rfl, false, ?_, iteF ⟨_, rfl, s10⟩⟩
                  have e3 : hasV st (.str z) = false := by
                    show (match z.cps.toList with
                      | [c] => isLet c && decide (c ∈ typed st)
                      | _ => false) = _
                    split
                    · rename_i c e
                      refine absurd ?_ h1
                      rw [sL_of z, e]
                      rfl
                    · rfl
                  rw [e3]
                  rfl
            · rintro σ H10 ⟨w5, rfl, s10⟩
              exact q _ (s07.trans (s7t.trans s10))
end
end KL
namespace Pk
open PySem PySem.Spec PyProof.Rows L2
theorem pe_joinK {X : Cx} (K : Fr) {o e : Expr} {to te : TE} {apos pos : Pos} (ho : PE X o to) (he : PE X e te) (hs : starEach [e] X.env = [(false, eval e X.env)] := by rfl) (hbase : attributeBase o "join" X.env (eval o X.env) = eval o X.env := by rfl) (hline : (apos.endLine == pos.line) = true := by rfl) (h : X.K = K := by rfl) :
    PE X (.Call (.Attribute o "join" apos) [e] [] pos) (tM1 (fun x xs H Q => ∃ a p, ∃ ys : List Str, x = .str a ∧ xs = [.ref p] ∧ (SqL K H p (ys.map V.str) ∨ SqT K H p (ys.map V.str)) ∧
      (ys.map (·.length)).sum + ys.length * a.length ≤ 16777216 ∧ Q (.str (Txt.join a ys)) H) to te) := by
  subst h
  exact pe_join ho he hs hbase hline
end Pk
namespace KL
open PySem PySem.Spec PyProof.Rows L2 Pk He
def spLaw (K : Fr) : Sp := fun vs H Q _ => ∃ (scr : Addr) (ns : List Int), vs = [.ref scr] ∧ SqL K H scr (ns.map V.int) ∧ ∀ H2, Q (.bl true) H2
section
variable {P : Program} {w : World} {K : Fr} {mg : Str → Option Value} {base : Heap} {f : Addr}
theorem abcq_at {v : Int} (h0 : 0 ≤ v) (h1 : v < 4) : ∃ c, (Str.ofString "abcq").cps[v.toNat]? = some c ∧ isLet c = true := by
  have h : v = 0 ∨ v = 1 ∨ v = 2 ∨ v = 3 := by omega
  rcases h with rfl | rfl | rfl | rfl
  · exact ⟨97, by decide +kernel, rfl⟩
  · exact ⟨98, by decide +kernel, rfl⟩
  · exact ⟨99, by decide +kernel, rfl⟩
  · exact ⟨113, by decide +kernel, rfl⟩
theorem lk_ret (ts sp : Addr) (st : List Stp) : (txF ts sp st).lookup ("retyped" : Str) = none := by rfl
theorem typed_relet (ls : List Nat) : ∀ (st : List Stp) (n : Nat), n + nk st ≤ ls.length → typed (relet ls n st) = (ls.drop n).take (nk st)
  | [], n, h => by simp [relet, typed, nk]
  | .wr w :: r, n, h => by
    have e1 : nk (.wr w :: r) = w.length + nk r := by simp [nk, Stp.ks]
    rw [e1] at h ⊢
    have ih := typed_relet ls r (n + w.length) (by omega)
    show (ls.drop n).take w.length ++ typed (relet ls (n + w.length) r) = _
    rw [ih, List.take_add, List.drop_drop]
  | .pa f l t :: r, n, h => by
    have e1 : nk (.pa f l t :: r) = nk r := by simp [nk, Stp.ks]
    rw [e1] at h ⊢
    exact typed_relet ls r n h
theorem typed_relet0 {ls : List Nat} {st : List Stp} (h : ls.length = nk st) : typed (relet ls 0 st) = ls := by
  rw [typed_relet ls st 0 (by omega), List.drop_zero, ← h, List.take_length]
theorem all_map (l : List Nat) : (List.range l.length).map (fun i => V.str (sL [l.getD i 0])) = (l.map (fun c => sL [c])).map V.str := by
  refine List.ext_getElem (by simp) fun i h1 h2 => ?_
  simp only [List.length_map, List.length_range] at h1
  simp [List.getD_eq_getElem?_getD, List.getElem?_eq_getElem h1]
theorem letts_set {ls : List Nat} {st : List Stp} (h : ls.length = nk st) : (List.range (ex st).length).map (fun i => V.str (sL [ls.getD ((ex st).getD i 0) 0])) = cV (letts (relet ls 0 st)) := by
  have := letts_map (relet ls 0 st)
  rw [ex_relet h, typed_relet0 h] at this
  exact this
theorem eqv_nil (st : List Stp) : PyData.eqv (.tuple (st.map stD)) (.tuple []) = decide (st = []) := by
  simp only [PyData.eqv]
  exact sts_eqv st []
def scIn : Scope := { kind := .function, names := [(".0", .local), ("_law_one", .local), ("range", .globalImplicit), ("len", .globalImplicit), ("_law_key", .cell), ("_law_letters", .cell), ("_law_new", .cell)], isGenerator := false, isCoroutine := false }
theorem scLaw : FnScope ["_law_script", "_law_row", "_law_steps_here", "_law_others", "_law_text", "_law_other", "_law_times", "_law_due", "_law_keys_here", "_law_letters", "_law_key", "_law_new", "_law_after", "_law_one", "_law_place", "_law_k"] ["_law_script"] (defScope sLaw) := ⟨rfl, rfl, rfl, by decide +kernel, rfl, by decide +kernel, by decide +kernel⟩
theorem ok_law {fd : FuncData} (D : FunD K "law" "law" (defArgs sLaw) (defBody sLaw) (defScope sLaw) [] [] f fd) (T : Tc K mg) (GZ : Kp P w K mg base 1 (pgA K (CT K) "size") (spSize K)) (GKs : Kp P w K mg base 1 (ga K "_law_keys") (spKeys K))
    (GT : Kp P w K mg base 1 (ga K "_law_taken") (spTaken K)) (GS : Kp P w K mg base 3 (ga K "_law_steps") (spSteps K)) (GOf : Kp P w K mg base 7 (He5.wf K (CT K) "classmethod" "of_steps") (spOf K)) (GIs : Kp P w K mg base 6 (ga K "_law_is_text") (spIsText K)) (GSm : Kp P w K mg base 2 (ga K "_law_sum") (spSum K))
    (GC : Kp P w K mg base 3 (ma K (CT K) "__call__") (spCall K)) (GG : Kp P w K mg base 3 (ma K (CT K) "__getitem__") (spGet K)) (GE : Kp P w K mg base 1 (ma K (CT K) "__eq__") (spEqT K)) (GA : Kp P w K mg base 7 (ma K (CT K) "__add__") (spAdd K)) (GM : Kp P w K mg base 7 (ma K (CT K) "__mul__") (spMul K)) (GRt : Kp P w K mg base 8 (ma K (CT K) "retyped") (spRet K)) : FnOk P w K mg base CX0 9 f fd ["_law_script"] (spLaw K) := by
  obtain ⟨fdR, psR, FR, bR, kpR⟩ := GRt
  refine fn_of D scLaw ?_ (fun cdv A outer s H vs Q E hr h => ?_)
  · rintro vs H Q E ⟨scr, ns, rfl, _⟩
    rfl
  · obtain ⟨scr, ns, rfl, hs, q⟩ := h
    refine ⟨_, (pss_cons (ps_set (i := 1) scLaw.nd rfl (Or.inl rfl) (pe_lst (pa_cons (pv 0) (pa_cons pe_int (pa_cons pe_int (pa_cons pe_int pa_nil)))))) (pss_cons (ps_par (i := 2) (j := 3) rfl scLaw.nd rfl rfl (by decide) rfl rfl (pa_cons (pk_call GS (hr.mono (by decide)) T.gSteps (pa_cons (pv 1) (pa_cons (pk_call GT (hr.mono (by decide)) T.gTaken (pa_cons (pv 1) (pa_cons pe_int pa_nil))) (pa_cons pe_int pa_nil)))) (pa_cons (pk_call GS (hr.mono (by decide)) T.gSteps (pa_cons (pv 1) (pa_cons (pk_call GT (hr.mono (by decide)) T.gTaken (pa_cons (pv 1) (pa_cons pe_int pa_nil))) (pa_cons pe_int pa_nil)))) pa_nil)) (by rfl)) (pss_cons (ps_par (i := 4) (j := 5) rfl scLaw.nd rfl rfl (by decide) rfl rfl (pa_cons (ClX.pe_cmeth (pe_gR T.gText) T.rd T.cmOf GOf.fnR (hr.mono (by decide)) pass0 (pa_cons (pk_t1 call_list_of T.lst b_list (pv 2)) pa_nil)) (pa_cons (ClX.pe_cmeth (pe_gR T.gText) T.rd T.cmOf GOf.fnR (hr.mono (by decide)) pass0 (pa_cons (pk_t1 call_list_of T.lst b_list (pv 3)) pa_nil)) pa_nil)) (by rfl)) (pss_cons (ps_if (pw_or (pt_not (pt_val (pk_call GIs (hr.mono (by decide)) T.gIsText (pa_cons (pv 4) (pa_cons (pv 2) pa_nil))))) (pw_or1 (pt_not (pt_val (pk_call GIs (hr.mono (by decide)) T.gIsText (pa_cons (pe_op (op_own T.oAdd T.first GA.fnR (hr.mono (by decide)) pass0) (pv 4) (pv 5)) (pa_cons (pk_call GSm (hr.mono (by decide)) T.gSum (pa_cons (pv 2) (pa_cons (pv 3) pa_nil))) pa_nil))))))).pt (pss_one (ps_ret pe_bl)) pss_nil) (pss_cons (ps_set (i := 6) scLaw.nd rfl (Or.inl rfl) (pe_op op_add pe_int (pk_call GT (hr.mono (by decide)) T.gTaken (pa_cons (pv 1) (pa_cons pe_int pa_nil))))) (pss_cons (ps_set (i := 7) scLaw.nd rfl (Or.inl rfl) (pv 2)) (C8.pss_cut (ps_if (pw_and (pt_cmpR op_gt (pv 6) pe_int (nomark _)) (pw_and1 (pt_cmpR (op_neD hr.units) (pv 2) (pe_tup pa_nil) (nomark _)))).pt (pss_one (ps_set (i := 7) scLaw.nd rfl (Or.inl rfl) (pe_op op_catT (pv 2) (pe_tup (pa_cons (pe_tup (pa_cons pe_str (pa_cons pe_int (pa_cons (pe_op op_sub (pk_prop (pv 4) T.clT T.pSize GZ (hr.mono (by decide))) pe_int) (pa_cons (pe_op op_sub (pv 6) pe_int) pa_nil))))) pa_nil))))) pss_nil) (C8.pss_cut (ps_if (pt_not (pt_val (pk_call GIs (hr.mono (by decide)) T.gIsText (pa_cons (pe_op (op_ownI T.oMul T.tMul GM.fnR (hr.mono (by decide)) pass0) (pv 4) (pv 6)) (pa_cons (pv 7) pa_nil))))) (pss_one (ps_ret pe_bl)) pss_nil) (pss_cons (ps_if (pw_or (pt_cmpR op_ne (pe_cmpR (op_eqO T.oEq GE.fnR (hr.mono (by decide)) pass0) (pv 4) (pv 5) (nomark _)) (pe_cmpR (op_eqD hr.units) (pv 2) (pv 3) (nomark _)) (nomark _)) (pw_or (pt_cmpR (op_neO T.oEq T.neT T.insT.hm GE.fnR (hr.mono (by decide)) pass0) (pv 4) (ClX.pe_cmeth (pe_gR T.gText) T.rd T.cmOf GOf.fnR (hr.mono (by decide)) pass0 (pa_cons (pk_t1 call_list_of T.lst b_list (pv 2)) pa_nil)) (nomark _)) (pw_or1 (pt_cmpR (op_eqO T.oEq GE.fnR (hr.mono (by decide)) pass0) (pv 4) (pv 2) (nomark _))))).pt (pss_one (ps_ret pe_bl)) pss_nil) (pss_cons (ps_if (pt_cmpR (op_neD hr.units) (pv 2) (pe_tup pa_nil) (nomark _)) (pss_cons (ps_asg (pk_call GKs (hr.mono (by decide)) T.gKeys (pa_cons (pv 2) pa_nil)) (pg_tup rfl (pgs_cons (pg_name (i := 8) scLaw.nd rfl (Or.inl rfl)) (pgs_cons (pg_name (i := 9) scLaw.nd rfl (Or.inr rfl)) pgs_nil)))) (pss_cons (ps_asg (pe_tup (pa_cons (pk_call GT (hr.mono (by decide)) T.gTaken (pa_cons (pv 1) (pa_cons (pk_b1 call_len_str T.len b_len (pv 9)) pa_nil))) (pa_cons (pe_item_str pe_str (pk_call GT (hr.mono (by decide)) T.gTaken (pa_cons (pv 1) (pa_cons pe_int pa_nil))) (fun _ _ => rfl)) pa_nil))) (pg_tup rfl (pgs_cons (pg_name (i := 10) scLaw.nd rfl (Or.inr rfl)) (pgs_cons (pg_name (i := 11) scLaw.nd rfl (Or.inr rfl)) pgs_nil)))) (pss_cons (ps_set (i := 12) scLaw.nd rfl (Or.inr rfl) (pe_meth (pv 4) T.clT T.mRet FR (hr.mono (by decide)) bR .nil pass0 (pa_cons (pv 10) (pa_cons (pv 11) pa_nil)))) (pss_cons (ps_setLc (i := 7) (own := [("_law_one", 13)]) (g := gName 13) (tt := tYes) rfl scLaw.nd rfl rfl (sw_true rfl rfl rfl (by decide +kernel)) (pi_list (pv 8)) (blkOk_by (N := ["_law_script", "_law_row", "_law_steps_here", "_law_others", "_law_text", "_law_other", "_law_times", "_law_due", "_law_keys_here", "_law_letters", "_law_key", "_law_new", "_law_after", "_law_one", "_law_place", "_law_k"]) (sc := defScope sLaw) (by decide +kernel)) (fun _ _ _ _ _ => (pg_name (i := 13) scLaw.nd rfl (Or.inl rfl))) (fun _ _ _ _ _ => pts_nil) (fun _ _ _ _ _ => (pe_item_str (pe_joinK K pe_str (pe_lc (own := [("_law_k", 15)]) (g := gName 15) (tt := tYes) rfl scLaw.nd (pi_range1 (by rfl) T.rng (pa_cons (pk_b1 call_len_str T.len b_len (pv 9)) pa_nil)) (blkOk_by (N := ["_law_script", "_law_row", "_law_steps_here", "_law_others", "_law_text", "_law_other", "_law_times", "_law_due", "_law_keys_here", "_law_letters", "_law_key", "_law_new", "_law_after", "_law_one", "_law_place", "_law_k"]) (sc := scIn) (by decide +kernel)) (fun _ _ _ _ _ => (pg_name (i := 15) scLaw.nd rfl (Or.inl rfl))) (fun _ _ _ _ _ => pts_nil) (fun _ _ _ _ _ => (pe_ifExp (pt_cmpR op_eq (pv 15) (pv 10) (nomark _)) (pv 11) (pe_item_str (pv 9) (pv 15) (fun _ _ => rfl)))))) (pv 13) (fun _ _ => rfl)))) (pss_cons (ps_if (pw_or (pt_cmpR (op_neD hr.units) (pe_lc (own := [("_law_place", 14)]) (g := gName 14) (tt := tYes) rfl scLaw.nd (pi_range1 (by rfl) T.rng (pa_cons (pk_prop (pv 12) T.clT T.pSize GZ (hr.mono (by decide))) pa_nil)) (blkOk_by (N := ["_law_script", "_law_row", "_law_steps_here", "_law_others", "_law_text", "_law_other", "_law_times", "_law_due", "_law_keys_here", "_law_letters", "_law_key", "_law_new", "_law_after", "_law_one", "_law_place", "_law_k"]) (sc := defScope sLaw) (by decide +kernel)) (fun _ _ _ _ _ => (pg_name (i := 14) scLaw.nd rfl (Or.inl rfl))) (fun _ _ _ _ _ => pts_nil) (fun _ _ _ _ _ => (pe_getO T.oGet GG.fnR (hr.mono (by decide)) pass0 (pv 12) (pv 14)))) (pv 7) (nomark _)) (pw_or1 (pt_cmpR op_ne (pk_prop (pv 12) T.clT T.pSize GZ (hr.mono (by decide))) (pk_prop (pv 4) T.clT T.pSize GZ (hr.mono (by decide))) (nomark _)))).pt (pss_one (ps_ret pe_bl)) pss_nil) (pss_one (ps_if (pw_or (pt_cmpR (op_neD hr.units) (pe_lc (own := [("_law_place", 14)]) (g := gName 14) (tt := tYes) rfl scLaw.nd (pi_range1 (by rfl) T.rng (pa_cons (pk_prop (pv 12) T.clT T.pSize GZ (hr.mono (by decide))) pa_nil)) (blkOk_by (N := ["_law_script", "_law_row", "_law_steps_here", "_law_others", "_law_text", "_law_other", "_law_times", "_law_due", "_law_keys_here", "_law_letters", "_law_key", "_law_new", "_law_after", "_law_one", "_law_place", "_law_k"]) (sc := defScope sLaw) (by decide +kernel)) (fun _ _ _ _ _ => (pg_name (i := 14) scLaw.nd rfl (Or.inl rfl))) (fun _ _ _ _ _ => pts_nil) (fun _ _ _ _ _ => (pk_callO (pv 12) T.callO GC (hr.mono (by decide)) (pa_cons (pv 14) pa_nil)))) (pv 8) (nomark _)) (pw_or1 (pt_not (pt_val (pk_call GIs (hr.mono (by decide)) T.gIsText (pa_cons (pv 4) (pa_cons (pv 2) pa_nil))))))).pt (pss_one (ps_ret pe_bl)) pss_nil))))))) pss_nil) (pss_one (ps_ret pe_bl)))))))))))), ?_⟩
    refine ⟨_, rfl, (by show 4 ≤ sizeLine; decide), fun r hr1 => ?_⟩
    have row0 : RowAt K (scr, ns) (upd H r (.lst [.ref scr, .int 0, .int 0, .int 0])) r := ⟨0, 0, 0, upd_same, sqL_far hs hr1 hs, by decide, by decide, by decide, by decide, fun H1 o h1 => sqL_far hs hr1 h1⟩
    refine ⟨_, rfl, _, rfl, r, 9, rfl, _, row0, by decide, by decide, fun v H1 row1 b1 hv0 hv1 => ?_⟩
    obtain ⟨vn, rfl⟩ := Int.eq_ofNat_of_zero_le hv0
    refine ⟨r, vn, 150, rfl, _, row1, by omega, by decide, fun a1 st H2 row2 b2 dr1 => ?_⟩
    refine ⟨_, rfl, _, rfl, r, 5, rfl, _, row2, by decide, by decide, fun v2 H3 row3 b3 hv2 hv3 => ?_⟩
    obtain ⟨vm, rfl⟩ := Int.eq_ofNat_of_zero_le hv2
    refine ⟨r, vm, 100, rfl, _, row3, by omega, by decide, fun a2 st2 H4 row4 b4 dr2 => ?_⟩
    refine ⟨_, _, rfl, ?_⟩
    obtain ⟨as, hsq0, hst0⟩ := dr1.tup
    obtain ⟨as2, hsq2, hst2⟩ := dr2.tup
    have hsq := sqT_row row2 (b3.trans b4) hsq0
    have hst := steps_row row2 (b3.trans b4) hst0
    have few : st.length ≤ 8 := Nat.le_trans dr1.few (by omega)
    have few2 : st2.length ≤ 8 := Nat.le_trans dr2.few (by omega)
    have good : Goes most 0 st := goes_mono (by decide) dr1.good
    have good2 : Goes most 0 st2 := goes_mono (by decide) dr2.good
    have hsz : sz st ≤ 150 := by
      rcases Decidable.em (st = []) with e | e
      · rw [e]
        exact Nat.zero_le _
      · have := goes_sz dr1.good e
        omega
    have hsz2 : sz st2 ≤ 100 := by
      rcases Decidable.em (st2 = []) with e | e
      · rw [e]
        exact Nat.zero_le _
      · have := goes_sz dr2.good e
        omega
    have hmost : most = 1000000000000000000 := rfl
    clear hsq0 hst0 b1 b2 b3 b4 row1 row2 row3
    refine ⟨rfl, _, rfl, a1, _, rfl, .inr hsq, fun L1 hL1 => ?_⟩
    have s41 : Same H4 (upd H4 L1 (.lst (as.map V.ref))) := same_upd hL1
    refine ⟨L1, as, st, rfl, upd_same, hst.same s41, good, by omega, fun x H5 hx5 s5 t1 => ?_⟩
    have s45 := s41.trans s5
    refine ⟨rfl, _, rfl, a2, _, rfl, .inr (same_sqT s45 hsq2), fun L9 hL9 => ?_⟩
    have s51 : Same H5 (upd H5 L9 (.lst (as2.map V.ref))) := same_upd hL9
    refine ⟨L9, as2, st2, rfl, upd_same, hst2.same (s45.trans s51), good2, by omega, fun y H6 hy6 s6 t2 => ?_⟩
    refine ⟨_, _, rfl, ?_⟩
    have s56 := s51.trans s6
    have s46 := s45.trans s56
    have t1 := t1.same s56
    have row6 := row4.same s46
    have hsq := same_sqT s46 hsq
    have hst := hst.same s46
    have hsq2 := same_sqT s46 hsq2
    have hst2 := hst2.same s46
    clear s46 s56 s6 s51 s45 s41 s5 hL9 hL1 row4 hx5 hy6
    obtain ⟨dx, _, _, _, _, hx, _⟩ := t1.obj
    obtain ⟨dy, _, _, _, _, hy, _⟩ := t2.obj
    refine ⟨_, rfl, _, rfl, x, a1, as, st, rfl, t1, hsq, hst, by omega, fun H7 s7 => ⟨true, rfl, ?_⟩⟩
    refine iteF ?_
    refine ⟨_, rfl, _, rfl, x, y, _, _, _, _, rfl, rfl, s7 _ _ hx, s7 _ _ hy, x, y, st, st2, rfl, t1.same s7, t2.same s7, by omega, by omega, fun z H8 hz8 s8 tz => ?_⟩
    have s78 := s7.trans s8
    refine ⟨_, rfl, _, rfl, a1, a2, as, as2, st, st2, rfl, same_sqT s78 hsq, hst.same s78, same_sqT s78 hsq2, hst2.same s78, good, by omega, by omega, by omega, fun tt cs H9 s9 htt hcs => ?_⟩
    refine ⟨z, tt, cs, plus st st2, rfl, tz.same s9, htt, hcs, by rw [sz_plus]; omega, fun H10 s10 => ⟨true, rfl, ?_⟩⟩
    refine iteF ?_
    have s70 := s78.trans (s9.trans s10)
    have row10 := row6.same s70
    have t1 := t1.same s70
    have t2 := t2.same s70
    have hsq := same_sqT s70 hsq
    have hst := hst.same s70
    have hsq2 := same_sqT s70 hsq2
    have hst2 := hst2.same s70
    have hx := s70 _ _ hx
    have hy := s70 _ _ hy
    clear s70 s10 s9 s78 s8 s7 hcs htt tz hz8 row6
    refine ⟨_, rfl, r, 4, rfl, _, row10, by decide, by decide, fun v3 H11 row11 b11 hv4 hv5 => ?_⟩
    obtain ⟨tn, rfl⟩ := Int.eq_ofNat_of_zero_le hv4
    refine ⟨_, _, rfl, rfl, ?_⟩
    have t1 := text_row row10 b11 t1
    have t2 := text_row row10 b11 t2
    have hsq := sqT_row row10 b11 hsq
    have hst := steps_row row10 b11 hst
    have hsq2 := sqT_row row10 b11 hsq2
    have hst2 := steps_row row10 b11 hst2
    have hx := ins_row row10 b11 hx
    have hy := ins_row row10 b11 hy
    clear b11 row10
    refine ⟨_, rfl, ?_⟩
    refine ⟨fun σ H => ∃ (d : Addr) (ds : List Addr) (sd : List Stp), σ = [some (.ref scr), some (.ref r), some (.ref a1), some (.ref a2), some (.ref x), some (.ref y), some (.int (1 + (tn : Int))), some (.ref d), none, none, none, none, none, none, none, none] ∧ Same H11 H ∧
      SqT K H d (ds.map V.ref) ∧ StepsAt K H ds sd ∧ (tn = 0 ∨ st = [] → sd = st) ∧ (1 ≤ tn → st ≠ [] → sd = timesL st (1 + tn)), ?_, ?_⟩
    · refine ⟨_, rfl, _, _, rfl, rfl, _, rfl, ?_⟩
      by_cases htn : 1 ≤ tn
      · rw [decide_eq_true (show (1 : Int) < 1 + (tn : Int) by omega)]
        refine iteT ?_
        refine ⟨_, rfl, Nat.zero_le _, fun pe hpe => ?_⟩
        have se := same_upd (o := .tup []) hpe
        refine ⟨.tuple (st.map stD), .tuple [], steps_dp (same_sqT se hsq) (hst.same se), .tup (.inl (.inl upd_same)) .nil, sts_shaped good, rfl, _, rfl, ?_⟩
        rw [eqv_nil]
        by_cases he : st = []
        · rw [decide_eq_true he]
          refine iteF ?_
          exact ⟨a1, as, st, rfl, se, same_sqT se hsq, hst.same se, fun _ => rfl, fun _ h => absurd he h⟩
        · rw [decide_eq_false he]
          refine iteT ?_
          have hz0 := sz_pos good he
          refine ⟨_, rfl, _, rfl, x, dx, _, rfl, se _ _ hx, x, st, rfl, t1.same se, _, _, rfl, rfl, _, rfl, _, _, rfl, rfl, (by show 4 ≤ sizeLine; decide), fun p1 hp1 => ⟨(by show 1 ≤ sizeLine; decide), fun p2 hp2 => ?_⟩⟩
          have e1 : (HO.tup [.str "paste", .int 0, .int ((sz st : Int) - 1), .int (1 + (tn : Int) - 1)]) = HO.tup (stV (.pa 0 (sz st - 1) (1 + tn - 1))) := by
            rw [show ((sz st : Int) - 1) = ((sz st - 1 : Nat) : Int) by omega, show (1 + (tn : Int) - 1) = ((1 + tn - 1 : Nat) : Int) by omega]
            rfl
          have s1 := same_upd (o := .tup [.str "paste", .int 0, .int ((sz st : Int) - 1), .int (1 + (tn : Int) - 1)]) hp1
          have s2 := same_upd (o := .tup [.ref p1]) hp2
          refine ⟨a1, p2, as.map V.ref, [.ref p1], rfl, rfl, same_sqT (se.trans (s1.trans s2)) hsq, .inl (.inl upd_same), ?_, ?_, fun h => (by cases h), fun _ p3 hp3 => ?_⟩
          · intro h
            have := congrArg List.length h
            rw [List.length_map, hst.len] at this
            exact he (List.length_eq_zero_iff.mp this)
          · rw [List.length_map, hst.len]
            exact Nat.le_trans (show st.length + 1 ≤ 100 by omega) (by decide)
          · have s3 := same_upd (o := .tup (as.map V.ref ++ [.ref p1])) hp3
            have sa := se.trans (s1.trans (s2.trans s3))
            refine ⟨p3, as ++ [p1], timesL st (1 + tn), rfl, sa, .inl (.inl (by rw [upd_same, List.map_append]; rfl)), (hst.same sa).snoc (.inl (.inl ?_)), fun h => (h.elim (fun h => absurd h (by omega)) fun h => absurd h he), fun _ _ => rfl⟩
            have h9 := (s2.trans s3) _ _ (upd_same (H := _) (a := p1))
            exact h9.trans (congrArg some e1)
      · rw [decide_eq_false (show ¬ ((1 : Int) < 1 + (tn : Int)) by omega)]
        refine iteF ?_
        exact ⟨a1, as, st, rfl, Same.refl _, hsq, hst, fun _ => rfl, fun h => absurd h htn⟩
    · rintro σ H12 ⟨d, ds, sd, rfl, s12, hd, hds, he1, he2⟩
      have t12 := t1.same s12
      have hx12 := s12 _ _ hx
      refine ⟨fun σ H => σ = [some (.ref scr), some (.ref r), some (.ref a1), some (.ref a2), some (.ref x), some (.ref y), some (.int (1 + (tn : Int))), some (.ref d), none, none, none, none, none, none, none, none] ∧ Same H11 H, ?_, ?_⟩
      · refine ⟨_, rfl, _, rfl, x, 1 + tn, dx, _, rfl, rfl, hx12, x, 1 + tn, st, rfl, by omega, by omega, t12, fun h => ?_, fun h1 h2 => ?_⟩
        · have hsd : sd = st := he1 (h.imp (fun h => by omega) id)
          rw [hsd] at hds
          refine ⟨_, rfl, x, d, ds, st, rfl, t12, hd, hds, by omega, fun H13 s13 => ⟨true, rfl, ?_⟩⟩
          refine iteF ?_
          exact ⟨rfl, s12.trans s13⟩
        · have hsd : sd = timesL st (1 + tn) := he2 (by omega) h2
          have hsz3 := sz_times good h2 h1
          have hle : (1 + tn) * sz st ≤ 4 * 150 := Nat.mul_le_mul (by omega) hsz
          rw [hsd] at hds
          refine ⟨by omega, by omega, fun z H13 hz13 s13 tz => ?_⟩
          refine ⟨_, rfl, z, d, ds, timesL st (1 + tn), rfl, tz, same_sqT s13 hd, hds.same s13, by omega, fun H14 s14 => ⟨true, rfl, ?_⟩⟩
          refine iteF ?_
          exact ⟨rfl, s12.trans (s13.trans s14)⟩
      · rintro σ H13 ⟨rfl, s13⟩
        have t1 := t1.same s13
        have t2 := t2.same s13
        have row13 := row11.same s13
        have hsq := same_sqT s13 hsq
        have hst := hst.same s13
        have hsq2 := same_sqT s13 hsq2
        have hst2 := hst2.same s13
        have hx := s13 _ _ hx
        have hy := s13 _ _ hy
        clear s13 t12 hx12 hds hd s12 he1 he2
        refine ⟨_, rfl, _, rfl, x, dx, _, rfl, hx, .inl ⟨y, dy, _, rfl, hy⟩, x, st, t1, .inl ⟨y, st2, rfl, t2, ?_⟩⟩
        refine ⟨_, rfl, _, rfl, .tuple (st.map stD), .tuple (st2.map stD), steps_dp hsq hst, steps_dp hsq2 hst2, sts_shaped good, sts_shaped good2, rfl, false, by rw [stsD_eqv, decide_eq_true rfl]; rfl, ?_⟩
        refine iteF ?_
        refine ⟨_, rfl, rfl, _, rfl, a1, _, rfl, .inr hsq, fun L3 hL3 => ?_⟩
        have sL3 := same_upd (o := .lst (as.map V.ref)) hL3
        refine ⟨L3, as, st, rfl, upd_same, hst.same sL3, good, by omega, fun x3 H14 hx3 s14 t3 => ?_⟩
        have s134 := sL3.trans s14
        obtain ⟨dx3, _, _, _, _, hx3', _⟩ := t3.obj
        refine ⟨x, x3, _, _, _, _, rfl, rfl, s134 _ _ hx, hx3', x, st, t1.same s134, .inl ⟨x3, st, rfl, t3, _, rfl, false, by rw [decide_eq_true rfl]; rfl, ?_⟩⟩
        refine iteF ?_
        refine ⟨_, rfl, _, rfl, x, dx, _, rfl, s134 _ _ hx, .inr ⟨a1, _, rfl, same_sqT s134 hsq, T.subT⟩, x, st, t1.same s134, .inr ⟨a1, _, rfl, same_sqT s134 hsq, false, rfl, ?_⟩⟩
        refine iteF ?_
        refine ⟨_, rfl, Nat.zero_le _, fun pe hpe => ?_⟩
        have s13e := s134.trans (same_upd (o := .tup []) hpe)
        refine ⟨.tuple (st.map stD), .tuple [], steps_dp (same_sqT s13e hsq) (hst.same s13e), .tup (.inl (.inl upd_same)) .nil, sts_shaped good, rfl, _, rfl, ?_⟩
        rw [eqv_nil]
        by_cases he : st = []
        · rw [decide_eq_true he]
          refine iteF ?_
          exact q _
        · rw [decide_eq_false he]
          refine iteT ?_
          have t1 := t1.same s13e
          have row14 := row13.same s13e
          have hsq := same_sqT s13e hsq
          have hst := hst.same s13e
          have hx := s13e _ _ hx
          generalize upd H14 pe (.tup []) = H15 at *
          clear s13e hpe s134 s14 sL3 hL3 hx3 t3 hx3' t2 hsq2 hst2 hy row13
          have hz0 := sz_pos good he
          have hlex := ex_len _ good
          refine ⟨_, rfl, a1, as, st, rfl, hsq, hst, good, by omega, by omega, fun p L H16 hp hL s16 ep eL => ?_⟩
          refine ⟨p, _, rfl, .inl (.inl ep), rfl, _, _, rfl, _, _, rfl, rfl, ?_⟩
          have nLr := row_ne row14 hL
          have row16 := row14.same s16
          have t16 := t1.same s16
          have hsq16 := same_sqT s16 hsq
          have hst16 := hst.same s16
          have hx16 := s16 _ _ hx
          clear s16 ep hp hL t1 hsq hst hx row14
          have hz := typed_small t16
          have hzl : (sL (typed st)).length ≤ sizeLine := Nat.le_trans hz (by decide)
          have hnk0 := keys_pos hz0 hlex
          have hlk : ((sL (typed st)).length : Int) = (nk st : Nat) := by rw [sL_len, typed_len]
          have hnk6 : nk st ≤ 600 := by
            rw [sL_len, typed_len] at hz
            exact hz
          refine ⟨_, rfl, _, rfl, _, rfl, hzl, r, _, rfl, _, row16, by omega, by omega, fun kv H17 row17 b17 hk1 hk2 => ?_⟩
          obtain ⟨kn, rfl⟩ := Int.eq_ofNat_of_zero_le hk1
          rw [hlk] at hk2
          refine ⟨_, rfl, r, 4, rfl, _, row17, by decide, by decide, fun cv H18 row18 b18 hc1 hc2 => ?_⟩
          obtain ⟨ch, hch1, hch2⟩ := abcq_at hc1 hc2
          refine ⟨_, _, ch, rfl, rfl, hc1, by omega, (show cv < 4 from hc2), hch1, (by show 2 ≤ sizeLine; decide), fun pp hpp => ?_⟩
          refine ⟨pp, [.int (kn : Nat), .str (sL [ch])], rfl, .inl (.inl upd_same), rfl, _, _, rfl, _, _, rfl, rfl, ?_⟩
          have spp := same_upd (o := .tup [.int (kn : Nat), .str (sL [ch])]) hpp
          have b1618 := b17.trans (b18.trans (Same.but spp))
          have t19 := text_row row16 b1618 t16
          have hsq19 := sqT_row row16 b1618 hsq16
          have hst19 := steps_row row16 b1618 hst16
          have hx19 := ins_row row16 b1618 hx16
          have eL19 := b1618 _ _ nLr eL
          have hkn : kn < nk st := by omega
          have hlet := typed_let good
          refine ⟨_, rfl, x, dx, _, rfl, hx19, lk_ret _ _ _, _, rfl, _, rfl, x, kn, ch, st, rfl, t19, hkn, hch2, hlet, fun z H20 hz20 s20 tz => ?_⟩
          have hls : ((typed st).set kn ch).length = nk st := by rw [List.length_set, typed_len]
          have hlsl : ((typed st).set kn ch).all isLet = true := by
            rw [List.all_eq_true] at hlet ⊢
            intro c2 h2
            rcases List.mem_or_eq_of_mem_set h2 with h3 | h3
            · exact hlet c2 h3
            · rw [h3]
              exact hch2
          have hkset : ∀ i, i ≠ kn → ((typed st).set kn ch)[i]? = (typed st)[i]? := fun i h => by
            rw [List.getElem?_set_ne (Ne.symm h)]
          have hkat : ((typed st).set kn ch)[kn]? = some ch := by
            rw [List.getElem?_set_self (by rw [typed_len]; exact hkn)]
          generalize els : (typed st).set kn ch = ls at *
          have hexr := ex_relet hls
          have htyr := typed_relet0 hls
          have hlexr := ex_len _ tz.good
          have hszr : sz (relet ls 0 st) = sz st := by
            rw [hexr] at hlexr
            omega
          have t20 := t19.same s20
          have hsq20 := same_sqT s20 hsq19
          have hst20 := hst19.same s20
          have eL20 := s20 _ _ eL19
          have hx20 := s20 _ _ hx19
          clear s20 t19 hsq19 hst19 eL19 hx19 b1618 spp b18 b17 row18 row17 row16 hpp
          refine ⟨_, rfl, L, rfl, ⟨_, SqL.of eL20⟩, fun D hD => ?_⟩
          refine lc_map (walk_list (xs := nV (ex st))) hD (fun i => V.str (sL [ls.getD ((ex st).getD i 0) 0])) (by rw [nV_len, hlex]; exact Nat.le_trans hsz (by decide)) (fun H9 s9 => SqL.of (s9 _ _ eL20)) ?_ ?_
          · rintro j v H21 H22 N hj s21 ⟨rfl, hv⟩ hN
            obtain ⟨k, hk, rfl⟩ := nV_at hv
            have hkl := ex_lt st k (List.mem_of_getElem? hk)
            refine ⟨rfl, ⟨_, rfl⟩, _, rfl, _, rfl, hzl, ((sL (typed st)).length : Int), rfl, by omega, by omega, fun D2 hD2 => ?_⟩
            refine lc_map (n := (sL (typed st)).length) (walk_range (lo := 0)) hD2 (fun i => V.str (sL [ls.getD i 0])) hzl (fun _ _ => trivial) ?_ ?_
            · rintro i v H23 H24 N2 hi s23 ⟨rfl, rfl⟩ hN2
              refine ⟨rfl, _, rfl, _, rfl, rfl, _, rfl, ?_⟩
              by_cases hik : i = kn
              · have d1 : decide (V.int (0 + (i : Int)) = V.int (kn : Nat)) = true := dec_int_t (by omega)
                rw [d1]
                refine iteT ?_
                refine ⟨_, rfl, ?_⟩
                have e : ls.getD i 0 = ch := by rw [hik, List.getD_eq_getElem?_getD, hkat]; rfl
                have := hN2 _ (Same.refl _)
                rw [e] at this
                exact this
              · have d1 : decide (V.int (0 + (i : Int)) = V.int (kn : Nat)) = false := dec_int_f (by omega)
                rw [d1]
                refine iteF ?_
                have hi2 : i < (typed st).length := by
                  rw [sL_len] at hi
                  exact hi
                refine ⟨_, rfl, _, rfl, _, _, (typed st)[i], rfl, rfl, by omega, by omega, by rw [sL_len]; omega, ?_, ?_⟩
                · rw [show (0 + (i : Int)).toNat = i by omega, ← Array.getElem?_toList]
                  exact List.getElem?_eq_getElem hi2
                · have e : ls.getD i 0 = (typed st)[i] := by
                    rw [List.getD_eq_getElem?_getD, hkset i hik, List.getElem?_eq_getElem hi2]
                    rfl
                  have := hN2 _ (Same.refl _)
                  rw [e] at this
                  exact this
            · intro H23 s23 hD23
              have el : (sL (typed st)).length = ls.length := by rw [sL_len, typed_len, hls]
              rw [el, all_map] at hD23
              refine ⟨Str.ofString "", D2, ls.map (fun c => sL [c]), rfl, rfl, .inl (SqL.of hD23), ?_, ?_⟩
              · rw [sum_one, List.length_map]
                show ls.length + ls.length * 0 ≤ 16777216
                omega
              · rw [join_one]
                have hk3 : k < ls.length := by omega
                refine ⟨_, rfl, _, _, ls[k], rfl, rfl, by omega, by omega, by rw [sL_len]; omega, ?_, ?_⟩
                · rw [Int.toNat_natCast, ← Array.getElem?_toList]
                  exact List.getElem?_eq_getElem hk3
                · have e : ls.getD ((ex st).getD j 0) 0 = ls[k] := by
                    have e0 : (ex st).getD j 0 = k := by rw [List.getD_eq_getElem?_getD, hk]; rfl
                    rw [e0, List.getD_eq_getElem?_getD, List.getElem?_eq_getElem hk3]
                    rfl
                  have := hN _ s23
                  rw [e] at this
                  exact this
          · intro H21 s21 hD21
            rw [nV_len, letts_set hls] at hD21
            have tz21 := tz.same s21
            have t21 := t20.same s21
            have hx21 := s21 _ _ hx20
            have eL21 := s21 _ _ eL20
            have hsq21 := same_sqT s21 hsq20
            have hst21 := hst20.same s21
            obtain ⟨dz, _, _, _, _, hz21, _⟩ := tz21.obj
            clear s21 tz t20 hx20 eL20 hsq20 hst20 hD hz20
            refine ⟨_, rfl, z, dz, _, rfl, hz21, z, _, rfl, tz21, (sz (relet ls 0 st) : Int), rfl, by omega, by omega, fun D1 hD1 => ?_⟩
            refine lc_map (n := sz (relet ls 0 st)) (walk_range (lo := 0)) hD1 (fun i => V.str (sL [(typed (relet ls 0 st)).getD ((ex (relet ls 0 st)).getD i 0) 0])) (by rw [hszr]; exact Nat.le_trans hsz (by decide)) (fun _ _ => trivial) ?_ ?_
            · rintro j v H22 H23 N hj s22 ⟨rfl, rfl⟩ hN
              refine ⟨rfl, _, rfl, _, rfl, z, dz, _, rfl, s22 _ _ hz21, z, j, _, by simp, tz21.same s22, hj, fun k c Hk sk hk hc => ?_⟩
              have e : (typed (relet ls 0 st)).getD ((ex (relet ls 0 st)).getD j 0) 0 = c := by
                have e0 : (ex (relet ls 0 st)).getD j 0 = k := by rw [List.getD_eq_getElem?_getD, hk]; rfl
                rw [e0, List.getD_eq_getElem?_getD, hc]
                rfl
              have := hN _ sk
              rw [e] at this
              exact this
            · intro H22 s22 hD22
              rw [← hlexr, letts_map] at hD22
              have hll := letts_let tz21.good
              refine ⟨_, rfl, .list (cDs (letts (relet ls 0 st))), .list (cDs (letts (relet ls 0 st))), cD_dp hD22, cD_dp (s22 _ _ hD21), cD_shaped hll, cD_shaped hll, _, rfl, ?_⟩
              rw [cD_eq]
              refine iteF ?_
              refine ⟨_, rfl, z, dz, _, rfl, s22 _ _ hz21, z, _, rfl, tz21.same s22, _, rfl, x, dx, _, rfl, s22 _ _ hx21, x, st, rfl, t21.same s22, rfl, false, ?_, ?_⟩
              · rw [dec_int_t (show ((sz (relet ls 0 st) : Nat) : Int) = (sz st : Nat) by omega)]
                rfl
              refine iteF ?_
              refine ⟨_, rfl, z, dz, _, rfl, s22 _ _ hz21, z, _, rfl, tz21.same s22, (sz (relet ls 0 st) : Int), rfl, by omega, by omega, fun D3 hD3 => ?_⟩
              refine lc_map (n := sz (relet ls 0 st)) (walk_range (lo := 0)) hD3 (fun i => V.int ((ex (relet ls 0 st)).getD i 0 : Nat)) (by rw [hszr]; exact Nat.le_trans hsz (by decide)) (fun _ _ => trivial) ?_ ?_
              · rintro j v H24 H25 N hj s24 ⟨rfl, rfl⟩ hN
                have s224 := s22.trans s24
                refine ⟨rfl, _, rfl, z, rfl, _, rfl, ⟨dz, _, s224 _ _ hz21⟩, z, j, _, by simp, tz21.same s224, hj, fun k Hk sk hk => ?_⟩
                have e0 : (ex (relet ls 0 st)).getD j 0 = k := by rw [List.getD_eq_getElem?_getD, hk]; rfl
                have := hN _ sk
                rw [e0] at this
                exact this
              · intro H24 s24 hD24
                rw [← hlexr, map_getD, hexr] at hD24
                have s224 := s22.trans s24
                refine ⟨_, rfl, nD (ex st), nD (ex st), nD_dp hD24, nD_dp (s224 _ _ eL21), nD_shaped _, nD_shaped _, _, rfl, ?_⟩
                rw [nD_eqv, decide_eq_true rfl]
                refine iteF ?_
                refine ⟨_, rfl, _, rfl, x, a1, as, st, rfl, t21.same s224, same_sqT s224 hsq21, hst21.same s224, by omega, fun H26 s26 => ⟨true, rfl, ?_⟩⟩
                refine iteF ?_
                exact q _
end
end KL
namespace KL
open PySem PySem.W PySem.Calls PyProof.Rows L2 He He5 Pk
def gD (x : PySem.Str) (st : Stmt) : DefA := { at_ := fun K => ga K x, name := x, qual := x, params := defArgs st, body := defBody st, scope := defScope st }
def mD (C m q : PySem.Str) (st : Stmt) : DefA := { at_ := fun K => ma K (ga K C) m, name := m, qual := q, params := defArgs st, body := defBody st, scope := defScope st }
def pD (C m q : PySem.Str) (st : Stmt) : DefA := { at_ := fun K => pgA K (ga K C) m, name := m, qual := q, params := defArgs st, body := defBody st, scope := defScope st }
def cD (C m q : PySem.Str) (st : Stmt) : DefA := { at_ := fun K => wf K (ga K C) "classmethod" m, name := m, qual := q, params := defArgs st, body := defBody st, scope := defScope st }
def fn : List DefA := [gD "is_number" (top 4),
  gD "is_letter" (top 5),
  gD "is_word" (top 6),
  gD "is_step" (top 19),
  gD "span_of" (top 20),
  gD "spans_of" (top 21),
  gD "key_at" (top 22),
  gD "moved_step" (top 23),
  gD "_law_taken" (top 27),
  gD "_law_alike" (top 28),
  gD "_law_word" (top 29),
  gD "_law_steps" (top 30),
  gD "_law_keys" (top 31),
  gD "_law_is_text" (top 32),
  gD "_law_sum" (top 33),
  gD "law" (top 34),
  mD "Span" "__init__" "Span.__init__" (inClass (top 18) 0),
  mD "Text" "__init__" "Text.__init__" (inClass (top 25) 1),
  cD "Text" "of_steps" "Text.of_steps" (inClass (top 25) 3),
  pD "Text" "steps" "Text.steps" (inClass (top 25) 4),
  pD "Text" "typed_keys" "Text.typed_keys" (inClass (top 25) 5),
  pD "Text" "size" "Text.size" (inClass (top 25) 6),
  mD "Text" "__call__" "Text.__call__" (inClass (top 25) 7),
  mD "Text" "__getitem__" "Text.__getitem__" (inClass (top 25) 8),
  mD "Text" "_check_place" "Text._check_place" (inClass (top 25) 9),
  mD "Text" "__iter__" "Text.__iter__" (inClass (top 25) 10),
  mD "Text" "__contains__" "Text.__contains__" (inClass (top 25) 11),
  mD "Text" "__eq__" "Text.__eq__" (inClass (top 25) 12),
  mD "Text" "__add__" "Text.__add__" (inClass (top 25) 13),
  mD "Text" "__mul__" "Text.__mul__" (inClass (top 25) 14),
  mD "Text" "retyped" "Text.retyped" (inClass (top 25) 15),
  mD "Text" "with_letters" "Text.with_letters" (inClass (top 25) 16)]
def fa : List Fa := [.free "isinstance",
  .free "int",
  .free "bool",
  .free "str",
  .free "tuple",
  .free "list",
  .free "len",
  .free "all",
  .free "range",
  .free "enumerate",
  .free "zip",
  .free "min",
  .free "max",
  .free "divmod",
  .free "ValueError",
  .free "TypeError",
  .free "super",
  .free "NotImplemented",
  .str "LETTERS" "abcdefghijklmnopqrstuvwxyz",
  .int "LONGEST_WORD" 20,
  .int "MOST_STEPS" 30,
  .int "MOST_TIMES" 1000000000,
  .glo "is_number",
  .glo "is_letter",
  .glo "is_word",
  .glo "is_step",
  .glo "span_of",
  .glo "spans_of",
  .glo "key_at",
  .glo "moved_step",
  .glo "_law_taken",
  .glo "_law_alike",
  .glo "_law_word",
  .glo "_law_steps",
  .glo "_law_keys",
  .glo "_law_is_text",
  .glo "_law_sum",
  .glo "law",
  .glo "TextError",
  .glo "InvalidStep",
  .glo "TooLong",
  .glo "InvalidPlace",
  .glo "InvalidKey",
  .glo "InvalidLetter",
  .glo "InvalidNumber",
  .glo "Span",
  .cls "Span",
  .mkr "Span",
  .noat "Span" "begin",
  .noat "Span" "end",
  .noat "Span" "key",
  .noat "Span" "source",
  .noat "Span" "width",
  .glo "Text",
  .cls "Text",
  .mkr "Text",
  .noat "Text" "_steps",
  .noat "Text" "spans",
  .noat "Text" "_size",
  .noat "Text" "_typed",
  .meth "Text" "_check_place",
  .meth "Text" "retyped",
  .meth "Text" "with_letters"]
def ex (K : Frag) : Bool := (cmetB K (ga K "Text") "of_steps") && ((propB K (ga K "Text") "steps") && ((propB K (ga K "Text") "typed_keys") && ((propB K (ga K "Text") "size") && ((opB K (ga K "Text") "__call__") && ((opB K (ga K "Text") "__getitem__") && ((opB K (ga K "Text") "__iter__") && ((opB K (ga K "Text") "__contains__") && ((opB K (ga K "Text") "__eq__") && ((opB K (ga K "Text") "__add__") && ((opB K (ga K "Text") "__mul__") && ((cvalB K (ga K "Text") "MAX_SIZE" 1000000000000000000) && ((creadB K (ga K "Text")) && ((opTB K (ga K "Text") "mul" "int") && ((selfFirst K (ga K "Text")) && ((insB K (ga K "Text")) && ((decide (ga K "Span" ≠ ga K "Text")) && ((decide (PySem.W.subIn K (.type "tuple") (.ref (ga K "Text")) = some false)) && ((eqO (PySem.W.findIn K (.ref (ga K "Text")) "__ne__") (some (some (.builtin "object.__ne__")))) && ((insTB K (ga K "Text")) && true)))))))))))))))))))
abbrev R : OpenRow := OpenLaw.row PySem.Challenge.rw_pastekeys_k02_keys_of_places
abbrev hk : PySem.W.Hook := hookM 6 fa fn ex
def ob (s : SharedT) : AlM := obsMG 6 fa fn ex (HandSHeadRun.getT s)
theorem ob_eq (s : SharedT) : ob s = hk.obs s.abs := obsMG_eq (HandSHeadRun.getT_eq s)
def loose : List PySem.Str := ["_wall", "LETTERS", "LONGEST_WORD", "is_number", "is_letter", "is_word", "TextError", "InvalidStep", "TooLong", "InvalidPlace", "InvalidKey", "InvalidLetter", "InvalidNumber", "MOST_STEPS", "MOST_TIMES", "Span", "is_step", "span_of", "spans_of", "key_at", "moved_step", "Text", "_law_taken", "_law_alike", "_law_word", "_law_steps", "_law_keys", "_law_is_text", "_law_sum"]
theorem run (w : World) : HandSHeadRun.RunEq R (PySem.W.view R.prog [34]) hk ob 6000 loose w := by
  intro os
  kernel_rfl
open PySem.Spec
theorem facts {P : Program} {w : World} {K : PySem.W.Frag} {h : Heap} {mg : PySem.Str → Option Value} {f : Addr} (X : K.In h) (G : h.Ns mainGlobals mg) (hfa : mg ("law" : PySem.Str) = some (.ref f)) (c : SaysM fa fn ex K) :
    ∃ fd : FuncData, (∀ (s : Shared) (v : Value), BindsTo s fd ⟨[v], []⟩ [("_law_script", v)]) ∧ ∀ base : Heap, K.In base → base.Ns mainGlobals mg → FnOk P w K mg base CX0 9 f fd ["_law_script"] (spLaw K) := by
  obtain ⟨e0, e⟩ := ba c.more
  obtain ⟨e1, e⟩ := ba e
  obtain ⟨e2, e⟩ := ba e
  obtain ⟨e3, e⟩ := ba e
  obtain ⟨e4, e⟩ := ba e
  obtain ⟨e5, e⟩ := ba e
  obtain ⟨e6, e⟩ := ba e
  obtain ⟨e7, e⟩ := ba e
  obtain ⟨e8, e⟩ := ba e
  obtain ⟨e9, e⟩ := ba e
  obtain ⟨e10, e⟩ := ba e
  obtain ⟨e11, e⟩ := ba e
  obtain ⟨e12, e⟩ := ba e
  obtain ⟨e13, e⟩ := ba e
  obtain ⟨e14, e⟩ := ba e
  obtain ⟨e15, e⟩ := ba e
  obtain ⟨e16, e⟩ := ba e
  obtain ⟨e17, e⟩ := ba e
  obtain ⟨e18, e⟩ := ba e
  obtain ⟨e19, e⟩ := ba e
  have T : Tc K mg := {
    isi := free_ok X G (c.says.fact 0 (f := .free "isinstance") rfl)
    int := free_ok X G (c.says.fact 1 (f := .free "int") rfl)
    bool := free_ok X G (c.says.fact 2 (f := .free "bool") rfl)
    str := free_ok X G (c.says.fact 3 (f := .free "str") rfl)
    tup := free_ok X G (c.says.fact 4 (f := .free "tuple") rfl)
    lst := free_ok X G (c.says.fact 5 (f := .free "list") rfl)
    len := free_ok X G (c.says.fact 6 (f := .free "len") rfl)
    all := free_ok X G (c.says.fact 7 (f := .free "all") rfl)
    rng := free_ok X G (c.says.fact 8 (f := .free "range") rfl)
    enu := free_ok X G (c.says.fact 9 (f := .free "enumerate") rfl)
    zip := free_ok X G (c.says.fact 10 (f := .free "zip") rfl)
    min := free_ok X G (c.says.fact 11 (f := .free "min") rfl)
    max := free_ok X G (c.says.fact 12 (f := .free "max") rfl)
    dm := free_ok X G (c.says.fact 13 (f := .free "divmod") rfl)
    ValueError := free_ok X G (c.says.fact 14 (f := .free "ValueError") rfl)
    TypeError := free_ok X G (c.says.fact 15 (f := .free "TypeError") rfl)
    super := free_ok X G (c.says.fact 16 (f := .free "super") rfl)
    NotImplemented := free_ok X G (c.says.fact 17 (f := .free "NotImplemented") rfl)
    letters := str_ok X G (c.says.fact 18 (f := .str "LETTERS" "abcdefghijklmnopqrstuvwxyz") rfl)
    longest := int_ok X G (c.says.fact 19 (f := .int "LONGEST_WORD" 20) rfl)
    mostSteps := int_ok X G (c.says.fact 20 (f := .int "MOST_STEPS" 30) rfl)
    mostTimes := int_ok X G (c.says.fact 21 (f := .int "MOST_TIMES" 1000000000) rfl)
    gIsNumber := glo_ok X G (c.says.fact 22 (f := .glo "is_number") rfl)
    gIsLetter := glo_ok X G (c.says.fact 23 (f := .glo "is_letter") rfl)
    gIsWord := glo_ok X G (c.says.fact 24 (f := .glo "is_word") rfl)
    gIsStep := glo_ok X G (c.says.fact 25 (f := .glo "is_step") rfl)
    gSpanOf := glo_ok X G (c.says.fact 26 (f := .glo "span_of") rfl)
    gSpansOf := glo_ok X G (c.says.fact 27 (f := .glo "spans_of") rfl)
    gKeyAt := glo_ok X G (c.says.fact 28 (f := .glo "key_at") rfl)
    gMoved := glo_ok X G (c.says.fact 29 (f := .glo "moved_step") rfl)
    gTaken := glo_ok X G (c.says.fact 30 (f := .glo "_law_taken") rfl)
    gAlike := glo_ok X G (c.says.fact 31 (f := .glo "_law_alike") rfl)
    gWord := glo_ok X G (c.says.fact 32 (f := .glo "_law_word") rfl)
    gSteps := glo_ok X G (c.says.fact 33 (f := .glo "_law_steps") rfl)
    gKeys := glo_ok X G (c.says.fact 34 (f := .glo "_law_keys") rfl)
    gIsText := glo_ok X G (c.says.fact 35 (f := .glo "_law_is_text") rfl)
    gSum := glo_ok X G (c.says.fact 36 (f := .glo "_law_sum") rfl)
    g_law := glo_ok X G (c.says.fact 37 (f := .glo "law") rfl)
    g_TextError := glo_ok X G (c.says.fact 38 (f := .glo "TextError") rfl)
    g_InvalidStep := glo_ok X G (c.says.fact 39 (f := .glo "InvalidStep") rfl)
    g_TooLong := glo_ok X G (c.says.fact 40 (f := .glo "TooLong") rfl)
    g_InvalidPlace := glo_ok X G (c.says.fact 41 (f := .glo "InvalidPlace") rfl)
    g_InvalidKey := glo_ok X G (c.says.fact 42 (f := .glo "InvalidKey") rfl)
    g_InvalidLetter := glo_ok X G (c.says.fact 43 (f := .glo "InvalidLetter") rfl)
    g_InvalidNumber := glo_ok X G (c.says.fact 44 (f := .glo "InvalidNumber") rfl)
    gSpan := glo_ok X G (c.says.fact 45 (f := .glo "Span") rfl)
    clS := cls_ok (c.says.fact 46 (f := .cls "Span") rfl)
    mkS := mkr_ok (c.says.fact 47 (f := .mkr "Span") rfl)
    nS1 := noat_ok (c.says.fact 48 (f := .noat "Span" "begin") rfl)
    nS2 := noat_ok (c.says.fact 49 (f := .noat "Span" "end") rfl)
    nS3 := noat_ok (c.says.fact 50 (f := .noat "Span" "key") rfl)
    nS4 := noat_ok (c.says.fact 51 (f := .noat "Span" "source") rfl)
    nS5 := noat_ok (c.says.fact 52 (f := .noat "Span" "width") rfl)
    gText := glo_ok X G (c.says.fact 53 (f := .glo "Text") rfl)
    clT := cls_ok (c.says.fact 54 (f := .cls "Text") rfl)
    mkT := mkr_ok (c.says.fact 55 (f := .mkr "Text") rfl)
    nT1 := noat_ok (c.says.fact 56 (f := .noat "Text" "_steps") rfl)
    nT2 := noat_ok (c.says.fact 57 (f := .noat "Text" "spans") rfl)
    nT3 := noat_ok (c.says.fact 58 (f := .noat "Text" "_size") rfl)
    nT4 := noat_ok (c.says.fact 59 (f := .noat "Text" "_typed") rfl)
    cmOf := cmet_ok e0
    pSteps := prop_ok e1
    pTyped := prop_ok e2
    pSize := prop_ok e3
    callO := ⟨(op_ok e4).at_, (op_ok e4).fn, (op_ok e4).fi⟩
    oGet := op_ok e5
    mCheck := meth_ok (c.says.fact 60 (f := .meth "Text" "_check_place") rfl)
    o_Text_iter := op_ok e6
    oHas := op_ok e7
    oEq := op_ok e8
    oAdd := op_ok e9
    oMul := op_ok e10
    mRet := meth_ok (c.says.fact 61 (f := .meth "Text" "retyped") rfl)
    mWith := meth_ok (c.says.fact 62 (f := .meth "Text" "with_letters") rfl)
    maxSize := cval_ok e11
    rd := cread_ok e12
    tMul := opT_ok e13
    first := e14
    insT := ins_ok (cls_ok (c.says.fact 54 (f := .cls "Text") rfl)) e15
    csct := of_decide_eq_true e16
    subT := of_decide_eq_true e17
    neT := eqO_ok e18
    tupT := of_decide_eq_true e19 }
  obtain ⟨fd, F⟩ := c.says.def_ 15 (d := gD "law" (top 34)) rfl
  have e0 := hfa.symm.trans T.g_law
  cases e0
  have b := FunD.bindsA (ps := ["_law_script"]) F fun _ _ _ _ _ _ us hl => match us, hl with | [_], _ => rfl
  refine ⟨fd, fun s v => b s [v] rfl, fun base _ _ => ?_⟩
  have h_ok_size : Kp P w K mg base 1 (pgA K (CT K) "size") (spSize K) := ok_size (c.says.def_ 21 (d := pD "Text" "size" "Text.size" (inClass (top 25) 6)) rfl) T
  have h_ok_keys : Kp P w K mg base 1 (ga K "_law_keys") (spKeys K) := ok_keys (c.says.def_ 12 (d := gD "_law_keys" (top 31)) rfl) T
  have h_ok_taken : Kp P w K mg base 1 (ga K "_law_taken") (spTaken K) := ok_taken (c.says.def_ 8 (d := gD "_law_taken" (top 27)) rfl) T
  have h_ok_word : Kp P w K mg base 2 (ga K "_law_word") (spWord2 K) := ok_word (c.says.def_ 10 (d := gD "_law_word" (top 29)) rfl) T h_ok_taken
  have h_ok_steps : Kp P w K mg base 3 (ga K "_law_steps") (spSteps K) := ok_steps (c.says.def_ 11 (d := gD "_law_steps" (top 30)) rfl) T h_ok_taken h_ok_word
  have h_ok_is_word : Kp P w K mg base 1 (ga K "is_word") spIsWord := ok_is_word (c.says.def_ 2 (d := gD "is_word" (top 6)) rfl) T
  have h_ok_is_number : Kp P w K mg base 1 (ga K "is_number") spIsNumber := ok_is_number (c.says.def_ 0 (d := gD "is_number" (top 4)) rfl) T
  have h_ok_is_step : Kp P w K mg base 2 (ga K "is_step") (spIsStep K) := ok_is_step (c.says.def_ 3 (d := gD "is_step" (top 19)) rfl) T h_ok_is_word h_ok_is_number
  have h_ok_span_init : Kp P w K mg base 1 (ma K (CS K) "__init__") (spSpanInit (CS K)) := ok_span_init (c.says.def_ 16 (d := mD "Span" "__init__" "Span.__init__" (inClass (top 18) 0)) rfl) T
  have h_ok_span_of : Kp P w K mg base 3 (ga K "span_of") (spSpanOf K) := ok_span_of (c.says.def_ 4 (d := gD "span_of" (top 20)) rfl) T h_ok_span_init
  have h_ok_spans_of : Kp P w K mg base 4 (ga K "spans_of") (spSpansOf K) := ok_spans_of (c.says.def_ 5 (d := gD "spans_of" (top 21)) rfl) T h_ok_is_step h_ok_span_of
  have h_ok_init : FnR P w K mg base CX0 5 (ma K (CT K) "__init__") (spInit5 K) := ok_init (c.says.def_ 17 (d := mD "Text" "__init__" "Text.__init__" (inClass (top 25) 1)) rfl) T h_ok_spans_of
  have h_ok_of : Kp P w K mg base 7 (wf K (CT K) "classmethod" "of_steps") (spOf K) := ok_of (c.says.def_ 18 (d := cD "Text" "of_steps" "Text.of_steps" (inClass (top 25) 3)) rfl) T h_ok_init
  have h_alikeN : Kp P w K mg base 5 (ga K "_law_alike") (spAlike K 3) := alikeN (c.says.def_ 9 (d := gD "_law_alike" (top 28)) rfl) T T.gAlike 3
  have h_ok_stepsp : Kp P w K mg base 1 (pgA K (CT K) "steps") (spStepsP K) := ok_stepsp (c.says.def_ 19 (d := pD "Text" "steps" "Text.steps" (inClass (top 25) 4)) rfl) T
  have h_ok_typed : Kp P w K mg base 1 (pgA K (CT K) "typed_keys") (spTyped K) := ok_typed (c.says.def_ 20 (d := pD "Text" "typed_keys" "Text.typed_keys" (inClass (top 25) 5)) rfl) T
  have h_ok_check : Kp P w K mg base 2 (ma K (CT K) "_check_place") (spCheck K) := ok_check (c.says.def_ 24 (d := mD "Text" "_check_place" "Text._check_place" (inClass (top 25) 9)) rfl) T h_ok_is_number
  have h_ok_key_at : Kp P w K mg base 1 (ga K "key_at") (spKeyAt K) := ok_key_at (c.says.def_ 6 (d := gD "key_at" (top 22)) rfl) T
  have h_ok_call : Kp P w K mg base 3 (ma K (CT K) "__call__") (spCall K) := ok_call (c.says.def_ 22 (d := mD "Text" "__call__" "Text.__call__" (inClass (top 25) 7)) rfl) T h_ok_check h_ok_key_at
  have h_ok_get : Kp P w K mg base 3 (ma K (CT K) "__getitem__") (spGet K) := ok_get (c.says.def_ 23 (d := mD "Text" "__getitem__" "Text.__getitem__" (inClass (top 25) 8)) rfl) T h_ok_check h_ok_key_at
  have h_ok_is_letter : Kp P w K mg base 1 (ga K "is_letter") spIsLetter := ok_is_letter (c.says.def_ 1 (d := gD "is_letter" (top 5)) rfl) T
  have h_ok_has : Kp P w K mg base 2 (ma K (CT K) "__contains__") (spHas K) := ok_has (c.says.def_ 26 (d := mD "Text" "__contains__" "Text.__contains__" (inClass (top 25) 11)) rfl) T h_ok_is_letter
  have h_ok_is_text : Kp P w K mg base 6 (ga K "_law_is_text") (spIsText K) := ok_is_text (c.says.def_ 13 (d := gD "_law_is_text" (top 32)) rfl) T h_ok_keys h_alikeN h_ok_stepsp h_ok_typed h_ok_size h_ok_call h_ok_get h_ok_has
  have h_ok_sum : Kp P w K mg base 2 (ga K "_law_sum") (spSum K) := ok_sum (c.says.def_ 14 (d := gD "_law_sum" (top 33)) rfl) T T.gKeys h_ok_keys
  have h_ok_eq : Kp P w K mg base 1 (ma K (CT K) "__eq__") (spEqT K) := ok_eq (c.says.def_ 27 (d := mD "Text" "__eq__" "Text.__eq__" (inClass (top 25) 12)) rfl) T
  have h_ok_moved : Kp P w K mg base 1 (ga K "moved_step") (spMoved K) := ok_moved (c.says.def_ 7 (d := gD "moved_step" (top 23)) rfl) T
  have h_ok_add : Kp P w K mg base 7 (ma K (CT K) "__add__") (spAdd K) := ok_add (c.says.def_ 28 (d := mD "Text" "__add__" "Text.__add__" (inClass (top 25) 13)) rfl) T h_ok_init h_ok_moved
  have h_ok_mul : Kp P w K mg base 7 (ma K (CT K) "__mul__") (spMul K) := ok_mul (c.says.def_ 29 (d := mD "Text" "__mul__" "Text.__mul__" (inClass (top 25) 14)) rfl) T h_ok_init h_ok_is_number
  have h_ok_with : Kp P w K mg base 7 (ma K (CT K) "with_letters") (spWith K) := ok_with (c.says.def_ 31 (d := mD "Text" "with_letters" "Text.with_letters" (inClass (top 25) 16)) rfl) T h_ok_init
  have h_ok_ret : Kp P w K mg base 8 (ma K (CT K) "retyped") (spRet K) := ok_ret (c.says.def_ 30 (d := mD "Text" "retyped" "Text.retyped" (inClass (top 25) 15)) rfl) T h_ok_is_number h_ok_is_letter h_ok_with
  exact ok_law F T h_ok_size h_ok_keys h_ok_taken h_ok_steps h_ok_of h_ok_is_text h_ok_sum h_ok_call h_ok_get h_ok_eq h_ok_add h_ok_mul h_ok_ret
end KL
open PySem PySem.W PySem.Calls PyProof.Rows
theorem PySem.Challenge.cw_pastekeys_k02_keys_of_places_holds : PySem.Challenge.rw_pastekeys_k02_keys_of_places.Holds := by
  w_on; o_law
  refine HandSHeadRun.head_any (r := KL.R) (q := view KL.R.prog [34]) (H := KL.hk) (ob := KL.ob) (M := 6000) (loose := KL.loose) (d := HandSHeadRun.topDef KL.R.prog 34) (kwd := []) KL.ob_eq
    (by kernel_rfl) (fun s => by kernel_rfl) KL.run (by kernel_rfl) (by kernel_rfl) (by kernel_rfl) (by rfl) (by first | assumption | decide +kernel) (by decide +kernel) ⟨rfl, rfl, rfl, rfl, rfl, by decide +kernel⟩ ?hw ?hc
  case hw => w_witness2
  case hc =>
    refine L2.walk_ofE (l := PySem.Challenge.rw_pastekeys_k02_keys_of_places) (n := 63) (k := 9) (x := "_law_script") (CX := L2.CX0) rfl (by decide) (by kernel_rfl) ⟨rfl, by decide, by decide⟩ ?F (fun _ _ _ _ z => z)
    intro w mg fa h Y G hmg0
    obtain ⟨K, KX, c⟩ := Y
    have hmg : mg ("law" : PySem.Str) = some (.ref fa) := by
      have e : (HandSHeadRun.topDef KL.R.prog 34).name = ("law" : PySem.Str) := by kernel_rfl
      rw [← e]
      exact hmg0
    obtain ⟨fd, hb, hF⟩ := KL.facts (P := (PySem.Challenge.rw_pastekeys_k02_keys_of_places).prog) (w := w) KX G hmg c
    exact ⟨K, fd, KL.spLaw K, KX, hb, fun H a ns hl _ hS => ⟨a, ns, rfl, hS, fun _ => rfl⟩, hF⟩
