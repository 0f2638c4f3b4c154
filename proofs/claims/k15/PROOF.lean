import PyProof.Rows.All
import Wide.All
import OpenK.AllK
import Wide.FinOn
import KE.KStateDown
import HandS.ForMost
import HandS.More
import HandS.Star
import HandS.Property
import HandS.ClsMeth
import HandS.Defaults
import HandS.Head0
import HandS.Head1
import HandS.Head2
import HandS.HeadEnd
import HandS.HeadHook1
import HandS.HeadHook2
import HandS.HeadNt
import HandS.OwnEq
import HandS.IsInst
import KE.GoesEnum
import KE.KOpsOwn
import HandS.Text
import HandS.Iter
import HandS.Comp
import HandS.Conv
import HandS.Wide
import HandS.TupAny
import KE.KDictZip
import HandS.Walk
import PyProof.ListStr
import HandS.Codes
import HandS.SlotsOwn
import PyProof.InstNe
import HandS.NamedTup0
import HandS.Style
import HandS.Dict
import HandS.WideBits
import HandS.SortInts
import HandS.DictComp
import KE.GoesZip
import HandS.Zip
import HandS.GenList
import HandS.WordsExc
import HandS.TryOnly
import HandS.Strs
import KE.KAssignIn
import OpenK.KOps
import HandS.SetFor
import HandS.SetKeys
import HandS.Small
import HandS.MethStar
import PyProof.StrLawsIn
import HandS.HeadHook3
import PySem.Challenge.RW_pastekeys_k15_whole_readers_keep_the_tru
set_option Elab.async false
set_option linter.all false
set_option maxRecDepth 100000
set_option maxHeartbeats 0
namespace Pk
open PySem PySem.W PySem.Calls PyProof.Rows He He5
/-! ### a hook: facts, defs, one more Bool -/
abbrev AlM : Type := He.AlD × Bool
def obsM (fa : List Fa) (fn : List DefA) (ex : Frag → Bool) (K : Frag) : AlM := (obsA fa fn K, ex K)
def valM (fn : List DefA) : AlM := (valA fn, true)
structure SaysM (fa : List Fa) (fn : List DefA) (ex : Frag → Bool) (K : Frag) : Prop where
  says : SaysA fa fn K
  more : ex K = true
theorem saysM_of {fa : List Fa} {fn : List DefA} {ex : Frag → Bool} {K : Frag} (h : obsM fa fn ex K = valM fn) : SaysM fa fn ex K := by
  have h1 : obsA fa fn K = valA fn := congrArg Prod.fst h
  have h2 : ex K = true := congrArg Prod.snd h
  exact { says := h1, more := h2 }
def obsMG (n : Nat) (fa : List Fa) (fn : List DefA) (ex : Frag → Bool) (g : Addr → Option Obj) : AlM := obsM fa fn ex (frG g (asA g n))
def hookM (n : Nat) (fa : List Fa) (fn : List DefA) (ex : Frag → Bool) : PySem.W.Hook where
  α := AlM
  obs := fun s => obsMG n fa fn ex s.heap.get?
  val := fun _ => valM fn
  says := fun _ h => ∃ K : Frag, K.In h ∧ SaysM fa fn ex K
  of := fun _ _ e => ⟨_, frG_in, saysM_of e⟩
  keeps := fun _ _ _ ⟨K, hK, c⟩ k => ⟨K, Frag.In.keeps hK k, c⟩
theorem obsMG_eq {n : Nat} {fa : List Fa} {fn : List DefA} {ex : Frag → Bool} {g : Addr → Option Obj} {s : Shared} (h : ∀ a, g a = s.heap.get? a) : obsMG n fa fn ex g = (hookM n fa fn ex).obs s := by
  have e : g = s.heap.get? := funext h
  rw [e] <;> rfl
end Pk
namespace Pk
open PySem PySem.W PySem.Calls PyProof.Rows He He5
/-! ### more facts of a class -/
def pgA (K : Frag) (C : Addr) (f : PySem.Str) : Addr := match recIn K (ma K C f) "property" with
  | some (.ref g :: _) => g
  | _ => 0
def propB (K : Frag) (C : Addr) (f : PySem.Str) : Bool := eqO (findIn K (.ref C) f) (some (some (.ref (ma K C f)))) && (eqO (specialIn K (.ref (ma K C f)) "__get__") (some (some (.builtin "property.__get__"))) && (decide (takesIn K (.ref (ma K C f)) = some true) &&
  (match recIn K (ma K C f) "property" with
    | some (.ref _ :: _) => true
    | _ => false)))
theorem prop_ok {K : Frag} {C : Addr} {f : PySem.Str} (h : propB K C f = true) : L2.PropOf K C f (ma K C f) (pgA K C f) := by
  obtain ⟨h1, h⟩ := ba h
  obtain ⟨h2, h⟩ := ba h
  obtain ⟨h3, h4⟩ := ba h
  refine ⟨eqO_ok h1, eqO_ok h2, of_decide_eq_true h3, ?_⟩
  unfold pgA
  split at h4
  · rename_i f' r e
    exact ⟨r, by rw [e]⟩
  · cases h4
def creadB (K : Frag) (C : Addr) : Bool := readsIn K C (.type "type") && eqO (specialIn K (.ref C) "__getattribute__") (some (some (.builtin "type.__getattribute__")))
theorem cread_ok {K : Frag} {C : Addr} (h : creadB K C = true) : ClX.CRead K C (.type "type") := by
  obtain ⟨h1, h2⟩ := ba h
  exact ⟨h1, eqO_ok h2⟩
def cmetB (K : Frag) (C : Addr) (m : PySem.Str) : Bool := wrapB K C "classmethod" "classmethod.__get__" m && fnIn K (wf K C "classmethod" m)
theorem cmet_ok {K : Frag} {C : Addr} {m : PySem.Str} (h : cmetB K C m = true) : ClX.CMet K C (.type "type") m (ma K C m) (wf K C "classmethod" m) := by
  obtain ⟨h1, h2⟩ := ba h
  exact cmet_of h1 h2
def cvalB (K : Frag) (C : Addr) (f : PySem.Str) (i : Int) : Bool := match findCls K (.ref C) (.type "type") f with
  | some (.val (.int j _)) => decide (j = i)
  | _ => false
theorem cval_ok {K : Frag} {C : Addr} {f : PySem.Str} {i : Int} (h : cvalB K C f i = true) : ∃ t, ClX.CVal K C (.type "type") f (.int i) (.int i t) := by
  unfold cvalB at h
  split at h
  · rename_i j t e
    have ej : j = i := of_decide_eq_true h
    subst ej
    exact ⟨t, e, ⟨t, rfl⟩⟩
  · cases h
/-- a def of the class at an address: found, a function -/
def opB (K : Frag) (C : Addr) (m : PySem.Str) : Bool := eqO (findIn K (.ref C) m) (some (some (.ref (ma K C m)))) && (isFn K (.ref (ma K C m)) && fnIn K (ma K C m))
structure OpF (K : Frag) (C : Addr) (m : PySem.Str) (f : Addr) : Prop where
  at_ : findIn K (.ref C) m = some (some (.ref f))
  fn : isFn K (.ref f) = true
  fi : fnIn K f = true
theorem op_ok {K : Frag} {C : Addr} {m : PySem.Str} (h : opB K C m = true) : OpF K C m (ma K C m) := by
  obtain ⟨h1, h⟩ := ba h
  obtain ⟨h2, h3⟩ := ba h
  exact ⟨eqO_ok h1, h2, h3⟩
/-- an operator with a built-in number at the right -/
def opTB (K : Frag) (C : Addr) (nm : String) (T : String) : Bool := selfFirst K C && (eqO (findIn K (.ref C) (dunderR nm)) (some none) && ((findIn K (.type T) (PySem.dunder nm)).isSome && ((findIn K (.type T) (dunderR nm)).isSome && decide (subIn K (.type T) (.ref C) = some false))))
structure OpT (K : Frag) (C : Addr) (nm : String) (T : String) : Prop where
  first : selfFirst K C = true
  noR : findIn K (.ref C) (dunderR nm) = some none
  l : ∃ fo, findIn K (.type T) (PySem.dunder nm) = some fo
  r : ∃ fo, findIn K (.type T) (dunderR nm) = some fo
  sub : subIn K (.type T) (.ref C) = some false
theorem opT_ok {K : Frag} {C : Addr} {nm T : String} (h : opTB K C nm T = true) : OpT K C nm T := by
  obtain ⟨h1, h⟩ := ba h
  obtain ⟨h2, h⟩ := ba h
  obtain ⟨h3, h⟩ := ba h
  obtain ⟨h4, h5⟩ := ba h
  exact ⟨h1, eqO_ok h2, Option.isSome_iff_exists.mp h3, Option.isSome_iff_exists.mp h4, of_decide_eq_true h5⟩
end Pk
/-! ## Rules that the layer lacks: operators of an own class, C(*x), cls(*x), enumerate over a tuple -/
namespace Pk
open PySem PySem.Spec PyProof.Rows L2
theorem no_tup_iter {h : Heap} {a it : Addr} {its : Array Value} {i : Nat} (p : h.IsTuple a its) (q : h.IsTupleIter it a i) : a ≠ it := fun e => by
  obtain ⟨o1, e1, c1, _⟩ := p
  obtain ⟨o2, e2, c2, _⟩ := q
  rw [e, e2] at e1
  cases e1
  rw [c2] at c1
  exact absurd c1 (by decide)
/-! ### enumerate(v) begins -/
theorem enum_new_meets {v : Value} {ob : Obj} {P : Heap → Prop} (B : Begins v ob P) :
    Meets (Builtin.«enumerate.__new__» ⟨[.type "enumerate", v], []⟩) (fun _ R s => P s.heap ∧
      R (.ok (.ret (.ref (s.heap.push ob).objs.size))) { s with heap := (s.heap.push ob).push { cls := .type "enumerate", data := .fields #[.none, .bool false, .ref s.heap.objs.size, rawInt 0, .none, .none] } }) :=
  .of_wp fun prog w A R s hh => by
    obtain ⟨hp, g, d, tk, os⟩ := s
    obtain ⟨hP, hR⟩ := hh
    have subE := sub_enumerate
    have mk : ∀ {A' : Around} {E : Value → Shared → Prop} {Q : Value → Shared → Prop}, Q (.ref hp.objs.size) ⟨hp.push ob, g, d, tk, os⟩ → wpAny (model prog w) A' (pyIter v) Q E ⟨hp, g, d, tk, os⟩ := fun q => B.iter prog w _ _ ⟨hp, g, d, tk, os⟩ _ hP q
    wp_walk using mk
    refine wpAny_stack_any fun stk => wpAny_pure ?_
    split
    · rename_i cc _ _ _ _ _
      cases (cc == Value.type "enumerate") <;> (wp_walk using mk; exact ⟨_, rfl, hR⟩)
    · wp_walk using mk
      exact ⟨_, rfl, hR⟩
theorem enum_new {prog : Program} {w : World} {A : Around} {E : Value → Shared → Prop} {s : Shared} {v : Value} {ob : Obj} {P : Heap → Prop} {Q : Value → Shared → Prop} (B : Begins v ob P) (hP : P s.heap)
    (hQ : ∀ h2, IsEnum h2 (s.heap.objs.size + 1) s.heap.objs.size 0 .none → h2.get? s.heap.objs.size = some ob → (∀ b o, s.heap.get? b = some o → h2.get? b = some o) → Q (.ref (s.heap.objs.size + 1)) { s with heap := h2 }) :
    wpAny (model prog w) A (call (.type "enumerate") [v]) Q E s := by
  refine callType_new F.called_enumerate (by decide) (F.typeCall_enumerate_1 _) (F.newCall_enumerate_1 _) (fun obj => F.args_object_init_2 obj _) F.entry_enumerate_new (enum_new_meets B) ⟨hP, ?_⟩
  have sz : (s.heap.push ob).objs.size = s.heap.objs.size + 1 := Heap.size_push ..
  have at_ := Heap.get?_push_size (s.heap.push ob) (o := { cls := .type "enumerate", data := .fields #[.none, .bool false, .ref s.heap.objs.size, rawInt 0, .none, .none] }) rfl
  rw [sz] at at_
  show _ ∧ _
  rw [sz]
  exact ⟨⟨_, at_, rfl⟩, hQ _ at_ (Heap.get?_push_of_some _ (Heap.get?_push_size _ B.free)) fun b o y => Heap.get?_push_of_some _ (Heap.get?_push_of_some _ y)⟩
/-! ### for i, x in enumerate(tuple) -/
def IteT (K : PySem.W.Frag) (a : Addr) : It :=
  ⟨fun i H => ∃ (xs : List V) (x : V), SqT K H a xs ∧ xs[i]? = some x, fun i H v H2 => ∃ T x, v = .ref T ∧ H T = none ∧ H2 = upd H T (.tup [.int (i : Nat), x]) ∧ ∀ xs, SqT K H a xs → xs[i]? = some x, fun i H => ∃ xs : List V, SqT K H a xs ∧ xs.length ≤ i⟩
theorem turn_enumT {P : Program} {w : World} {K : PySem.W.Frag} {elts : List Expr} {kk : Nat} {tpos : Pos} (a e it : Addr) :
    Turn P w K (.Tuple elts kk tpos) (IteT K a) [e, it] e (fun i h => (∃ old, IsEnum h e it ((i : Nat) : Int) old) ∧ h.IsTupleIter it a i ∧ e ≠ it ∧ e ≠ a) where
  mem := List.mem_cons_self
  obj := fun i h st b hb => by
    obtain ⟨⟨old, h1⟩, hit, _⟩ := st
    obtain ⟨o, ho, hc, hd⟩ := hit
    have hb2 : b = e ∨ b = it := by simpa using hb
    rcases hb2 with z | z
    · exact ⟨_, by rw [z]; exact h1, fun v q => by cases q⟩
    · exact ⟨o, by rw [z]; exact ho, fun v q => by rw [hd] at q; cases q⟩
  keep := fun i h h2 st k => let ⟨⟨old, h1⟩, hi, n1, n2⟩ := st; ⟨⟨old, k e List.mem_cons_self _ h1⟩, hi.at fun o q => k it (by simp) o q, n1, n2⟩
  item := by
    intro X hP hw hK hc i pins s σ H E I hf st hg
    subst hP hw hK
    obtain ⟨⟨old, hen⟩, hit, n1, n2⟩ := st
    obtain ⟨xs, x, hq, hx⟩ := hg
    obtain ⟨its, rv, p, hz⟩ := I.tuple hq
    obtain ⟨u, hu, ru⟩ := rv.get hx
    have pT : s.heap.IsTuple a its.toArray := p
    have nai := no_tup_iter pT hit
    have le_ : e < s.heap.objs.size := Heap.lt_size hen
    have li_ : it < s.heap.objs.size := by
      obtain ⟨_, q, _⟩ := id hit
      exact Heap.lt_size q
    have hcalm : X.A.in1.handled = none := I.ok.hd hc
    have hsz : i < its.toArray.size := by
      have q := (List.getElem?_eq_some_iff.mp hu).1
      simpa using q
    refine wpAny_pyNext_enum_itemC (Draws.tuple (prog := X.prog) (w := X.w) hcalm it a nai its.toArray) hen ⟨hit, pT⟩ hsz n1 (by simp [n1, n2]) fun y h1 tk hy ho1 st1 hT _ hk => ?_
    have ey : y = u := by
      have q : its.toArray[i]? = some u := by simpa using hu
      rw [q] at hy
      exact (Option.some.inj hy).symm
    subst ey
    refine ⟨_, rfl, wpAny_letOwnedTupleGo_enum (s := { s with heap := h1, toks := tk + 1 }) ho1 fun h2 hen2 sb => ?_⟩
    have hT2 := (sb.2 _ (Nat.ne_of_gt le_)).trans hT
    have new : ObjOk X.prog X.w (upd H s.heap.objs.size (.tup [.int (i : Nat), x])) h2 s.heap.objs.size (.tup [.int (i : Nat), x]) :=
      ⟨(by decide : 2 ≤ sizeLine), [.int (i : Nat) tk, y], .cons ⟨_, rfl⟩ (.cons ru .nil), ⟨_, hT2, rfl, _, rfl⟩⟩
    have I2 : Inv X pins σ (upd H s.heap.objs.size (.tup [.int (i : Nat), x])) { s with heap := h2, toks := tk + 1 } :=
      I.turnedNew (ch := [e, it]) (fun b ob hb q => (sb.2 b (fun z => hb (by simp [z]))).trans (hk b ob (fun z => hb (by simp [z])) (fun z => hb (by simp [z])) q)) hf (Nat.le_refl _) new
    refine ⟨.ref s.heap.objs.size, _, I2, rfl, ⟨_, x, rfl, I.hok.fresh (Nat.le_refl _), rfl, fun ys hy2 => by rw [I.tuple_inj hy2 hq]; exact hx⟩, ⟨⟨y, ?_⟩, st1.1.at fun o q => (sb.2 it n1.symm).trans q, n1, n2⟩, fun b hb => ?_⟩
    · rw [Int.natCast_succ]
      exact hen2
    · have hb2 : b < s.heap.objs.size := by
        have q : b = e ∨ b = it := by simpa using hb
        rcases q with z | z <;> rw [z] <;> assumption
      rw [upd_ne (Nat.ne_of_lt hb2)]
      exact (hf b hb).1
  done := by
    intro X hP hw hK hc i pins s σ H E I hf st hg
    subst hP hw hK
    obtain ⟨⟨old, hen⟩, hit, n1, n2⟩ := st
    obtain ⟨xs, hq, hx⟩ := hg
    obtain ⟨its, rv, p, hz⟩ := I.tuple hq
    obtain ⟨f0, f1, f2, f3, f4, f5⟩ := hf it (by simp)
    have pT : s.heap.IsTuple a its.toArray := p
    have nai := no_tup_iter pT hit
    have hcalm : X.A.in1.handled = none := I.ok.hd hc
    have hl := rv.length
    have D0 := Draws.tuple (prog := X.prog) (w := X.w) hcalm it a nai its.toArray
    refine wpAny_pyNext_enum_endD (n := i) (i := (i : Int)) (St := fun j h => j = i ∧ h.IsTupleIter it a i ∧ h.IsTuple a its.toArray) (P := fun _ _ => True) (fp := [it, a]) ⟨?_, ?_, ?_, ?_⟩ hen ⟨rfl, hit, pT⟩ fun h1 eb => ⟨rfl, I.turned (t' := s.toks) (fun b o hb q => eb b o hb q) f0 f1 f3 f4 f5⟩
    · exact fun j h z => let ⟨o, ho, _⟩ := z.2.1; ⟨o, ho⟩
    · exact fun j h h2 z k => ⟨z.1, D0.frame i h h2 z.2 k⟩
    · intro j s2 Q2 E2 hj st2 hQ2
      exact absurd st2.1 (Nat.ne_of_lt hj)
    · intro s2 Q2 E2 st2 hE2
      exact wpAny_nextOf_tuple_end hcalm st2.2.1 st2.2.2 (by simp; omega) hE2
  self := fun A i s Q E st h => let ⟨⟨_, hen⟩, _⟩ := st; wpAny_pyIter_enum hen h
def iEnumT (K : PySem.W.Frag) (ta : TA) : TI := fun σ H R => ta σ H fun vs H1 => ∃ a xs, vs = [.ref a] ∧ SqT K H1 a xs ∧ R (IteT K a) H1
theorem pi_enumT {X : Cx} {e : Expr} {ta : TA} {p pos tpos : Pos} {elts : List Expr} {kk : Nat} (hg : Gl X "enumerate") (hm : X.mg "enumerate" = none) (ha : PA X [e] ta) (hs : starEach [e] X.env = [(false, eval e X.env)] := by rfl) :
    PI X (.Tuple elts kk tpos) (.Call (.Name "enumerate" p) [e] [] pos) (iEnumT X.K ta) := ⟨fun pins s σ H R I h => by
  refine Call_ (ld_blt I hg hm boot_enumerate (PyProof.Rows.callWith_type1 (thn (ha.run pos pins s σ H _ I h) fun us s1 ⟨vs, H1, I1, r1, a, xs, ev, hq, q⟩ => ?_) hs rfl))
  subst ev
  cases r1 with
  | cons r rr =>
    cases rr
    cases r
    obtain ⟨its, rv, pt, hz⟩ := I1.tuple hq
    have pT : s1.heap.IsTuple a its.toArray := pt
    refine enum_new (begins_tuple a its.toArray) pT fun h2 hen hit hk => wpAny_pyIter_enum hen ?_
    have I2 : Inv X pins σ H1 { s1 with heap := h2 } := I1.kept (t' := s1.toks) hk
    obtain ⟨o, ho, _⟩ := id pT
    have hlt := Heap.lt_size ho
    refine ⟨s1.heap.objs.size + 1, [s1.heap.objs.size + 1, s1.heap.objs.size], _, _, H1, rfl, I2, turn_enumT a (s1.heap.objs.size + 1) s1.heap.objs.size, ⟨⟨.none, hen⟩, ⟨_, hit, rfl, rfl⟩, Nat.succ_ne_self _, fun z => absurd (show s1.heap.objs.size + 1 < s1.heap.objs.size by rw [z]; exact hlt) (Nat.not_lt.mpr (Nat.le_succ _))⟩, fun b hb => ?_, q⟩
    have hb2 : b = s1.heap.objs.size + 1 ∨ b = s1.heap.objs.size := by simpa using hb
    have hle : s1.heap.objs.size ≤ b := by
      rcases hb2 with z | z
      · rw [z]; exact Nat.le_succ _
      · rw [z]; exact Nat.le_refl _
    exact I1.fpOk hle (I1.hok.fresh hle)⟩
/-! ### operators of an own class -/
theorem cmp_back {X : Cx} {pins : List (Addr × Obj)} {σ : L2.St} {Q : VK} {u : Value} {s : Shared} (h : EP X pins σ Q u s) : PySem.W.CmpBack (EP X pins σ Q) u s := by
  have h0 := h
  obtain ⟨v, H, I, r, q⟩ := h
  cases u with
  | notImplemented => cases v <;> first | (cases r; done) | (obtain ⟨_, z⟩ := r; cases z)
  | _ => exact h0
section
variable {X : Cx} {CX : CXT} {k : Nat} {C f : Addr} {sp : Sp} {E : XK}
/-- a op b: both of the class -/
def rOwn (C : Addr) (sp : Sp) (E : XK) : R2 := fun x y H Q => ∃ a b da fa db fb, x = .ref a ∧ y = .ref b ∧ H a = some (.ins C da fa) ∧ H b = some (.ins C db fb) ∧ sp [x, y] H Q E
theorem op_own {op : Operator} (hs : OpF X.K C (PySem.dunder op.info.2) f) (hc : PySem.W.selfFirst X.K C = true) (F : FnR X.prog X.w X.K X.mg X.base CX k f sp) (hr : Room k X.A) (hx : Passes CX X E) : OpR X (binaryOp op) (rOwn C sp E) := by
  intro pins s σ H x y v u Q I rx ry ⟨a, b, da, fa, db, fb, ex, ey, ha, hb, q⟩
  subst ex ey
  cases rx
  cases ry
  obtain ⟨mA, O, _⟩ := ins_get I.hok ha
  obtain ⟨oa, JA, _⟩ := O.look
  obtain ⟨mB, O2, _⟩ := ins_get I.hok hb
  obtain ⟨ob, JB, _⟩ := O2.look
  obtain ⟨m, hF⟩ := I.fr
  refine PySem.W.binop_K hF I.ok.mod.kin JA JB.type hc hs.at_ hs.fn (wpAny_call ?_)
  refine codeAny_mono (run_fnR F hr hx I (vs := [V.ref a, V.ref b]) (.cons rfl (.cons rfl .nil)) q) fun r s2 hq => ?_
  cases r with
  | error e => exact hq
  | ok fl => cases fl with
    | ret w => exact cmp_back hq
    | _ => exact hq.elim
/-- a op n: n an int -/
def rOwnI (C : Addr) (sp : Sp) (E : XK) : R2 := fun x y H Q => ∃ a n da fa, x = .ref a ∧ y = .int n ∧ H a = some (.ins C da fa) ∧ sp [x, y] H Q E
theorem op_ownI {op : Operator} (hs : OpF X.K C (PySem.dunder op.info.2) f) (ht : OpT X.K C op.info.2 "int") (F : FnR X.prog X.w X.K X.mg X.base CX k f sp) (hr : Room k X.A) (hx : Passes CX X E) : OpR X (binaryOp op) (rOwnI C sp E) := by
  intro pins s σ H x y v u Q I rx ry ⟨a, n, da, fa, ex, ey, ha, q⟩
  subst ex ey
  cases rx
  obtain ⟨t, et⟩ := ry
  subst et
  obtain ⟨mA, O, _⟩ := ins_get I.hok ha
  obtain ⟨oa, JA, _⟩ := O.look
  obtain ⟨m, hF⟩ := I.fr
  obtain ⟨fo, h1⟩ := ht.l
  obtain ⟨ro, h2⟩ := ht.r
  refine PySem.W.ksp_binT (T := "int") hF I.ok.mod.kin JA rfl ht.first hs.at_ hs.fn ht.noR (.inl rfl) h1 h2 ht.sub (wpAny_call ?_)
  refine codeAny_mono (run_fnR F hr hx I (vs := [V.ref a, V.int n]) (.cons rfl (.cons ⟨t, rfl⟩ .nil)) q) fun r s2 hq => ?_
  cases r with
  | error e => exact hq
  | ok fl => cases fl with
    | ret w => exact cmp_back hq
    | _ => exact hq.elim
/-- a[i]: __getitem__ of an own class -/
def rGetO (C : Addr) (sp : Sp) (E : XK) : R2 := fun x y H Q => ∃ a da fa, x = .ref a ∧ H a = some (.ins C da fa) ∧ sp [x, y] H Q E
/-- x in a: __contains__ -/
def rInO (C : Addr) (sp : Sp) (E : XK) : R2 := fun x y H Q => ∃ a da fa, y = .ref a ∧ H a = some (.ins C da fa) ∧ sp [y, x] H (fun v H2 => ∃ b, v = .bl b ∧ Q v H2) E
/-! ### C(*x) -/
def tMakeS (K : PySem.W.Frag) (C : Addr) (sp : Sp) (E : XK) (te : TE) : TE := fun σ H Q => te σ H fun y H1 => ∃ a xs, y = V.ref a ∧ (SqT K H1 a xs ∨ SqL K H1 a xs) ∧ ∀ x dx, H1 x = none → H1 dx = none → dx ≠ x →
  sp (V.ref x :: xs) (upd (upd H1 dx (.own x)) x (.ins C dx [])) (fun v H2 => v = .non ∧ Q (.ref x) H2) E
variable {x : Str} {e : Expr} {te : TE} {p pos sp_ : Pos} {i : Nat}
theorem pe_makeS (M : Mk X.K C f) (F : FnR X.prog X.w X.K X.mg X.base CX k f sp) (hr : Room (k + 1) X.A) (hg : Gl X x) (hm : X.mg x = some (.ref C)) (hx : Passes CX X E) (he : PE X e te) (hd : (x == ("__debug__" : Str)) = false := by decide)
    (hst : starEach [.Starred e sp_] X.env = [(true, eval e X.env)] := by rfl) : PE X (.Call (.Name x p) [.Starred e sp_] [] pos) (tMakeS X.K C sp E te) := ⟨fun pins s σ H Q I h => by
  refine wpAny_Call_Name_kw (ld_glob I hg hm ?_ hd)
  refine PySem.W.callWith_S (h₀ := X.base) I.ok.mod.kin M.kp (thn (he.run pins s σ H _ I h) fun v s1 ⟨y, H1, I1, ry, a, xs, ey, hxs, q⟩ => ?_) hst
  subst ey
  cases ry
  exact StX.star_any I1 hxs fun us s2 I2 rv => ⟨I2.kIn, StX.run_makeR M F hr hx I2 rv q⟩⟩
/-- cls(*x): the class stands in a local -/
theorem pe_makeSL (M : Mk X.K C f) (F : FnR X.prog X.w X.K X.mg X.base CX k f sp) (hr : Room (k + 1) X.A) (hN : X.N[i]? = some x) (hv : Vis X.env.scope x) (hx : Passes CX X E) (he : PE X e te) (hd : (x == ("__debug__" : Str)) = false := by decide) (hcd : (x == ("__classdict__" : Str)) = false := by decide)
    (hst : starEach [.Starred e sp_] X.env = [(true, eval e X.env)] := by rfl) : PE X (.Call (.Name x p) [.Starred e sp_] [] pos) (fun σ H Q => σ[i]? = some (some (.ref C)) ∧ tMakeS X.K C sp E te σ H Q) := ⟨fun pins s σ H Q I h => by
  obtain ⟨hs, h⟩ := h
  refine wpAny_Call_Name_kw (thn ((pe_var (pos := p) hN hv hd hcd).run pins s σ H (fun v H1 => v = .ref C ∧ H1 = H) I ⟨.ref C, hs, rfl, rfl⟩) fun uu s0 ⟨v0, H0, I0, r0, e0, e1⟩ => ?_)
  subst e0 e1
  cases r0
  refine PySem.W.callWith_S (h₀ := X.base) I0.ok.mod.kin M.kp (thn (he.run pins s0 σ _ _ I0 h) fun v s1 ⟨y, H1, I1, ry, a, xs, ey, hxs, q⟩ => ?_) hst
  subst ey
  cases ry
  exact StX.star_any I1 hxs fun us s2 I2 rv => ⟨I2.kIn, StX.run_makeR M F hr hx I2 rv q⟩⟩
end
end Pk
/-! ## Promises without exceptions, their calls; isinstance of built-in types -/
namespace Pk
open PySem PySem.Spec PyProof.Rows L2
/-- the def at f keeps sp (nothing is raised) -/
def Kp (P : Program) (w : World) (K : PySem.W.Frag) (mg : Str → Option Value) (base : Heap) (k : Nat) (f : Addr) (sp : Sp) : Prop := ∃ fd ps, FnOk P w K mg base CX0 k f fd ps sp ∧ Binds K fd ps [] ∧ PySem.W.keepIn K (.ref f) = true
section
variable {P : Program} {w : World} {K : PySem.W.Frag} {mg : Str → Option Value} {base : Heap} {k j : Nat} {f : Addr} {sp : Sp}
theorem Kp.mono (G : Kp P w K mg base j f sp) (h : j ≤ k) : Kp P w K mg base k f sp := by
  obtain ⟨fd, ps, F, b, kp⟩ := G
  exact ⟨fd, ps, F.mono h, b, kp⟩
theorem Kp.fnR (G : Kp P w K mg base k f sp) : FnR P w K mg base CX0 k f sp := by
  obtain ⟨fd, ps, F, b, kp⟩ := G
  exact (F.raw b .nil).imp fun vs H Q E h => by rw [List.append_nil]; exact h
/-- a def of the text keeps its promise: the body's term and its reading -/
theorem kp_of {x qual : Str} {st : Stmt} {kws : List (Str × V)} {N ps : List Str} (D : ∃ fd, FunD K x qual (defArgs st) (defBody st) (defScope st) [] kws f fd) (S : FnScope N ps (defScope st))
    (hb : ∀ (kV doc pm : Value) (an : Option Addr) (cdv ct : Value) (us : List Value), us.length = ps.length → bindArgs (PySem.W.fnOf x qual (defArgs st) (defBody st) (defScope st) .none kV doc pm an cdv ct) ⟨us, []⟩ = pure (ps.zip us))
    (len : ∀ vs H Q E, sp vs H Q E → vs.length = ps.length)
    (hbody : ∀ (cdv : Value) (A : Around) (outer : List Env) (s : Shared) (H : Hp) (vs : List V) (Q : VK) (E : XK), Room k (A.deeper (envOfC qual (defScope st) s.heap.objs.size f cdv)) → sp vs H Q E →
      ∃ t, PSs (cxOf CX0 P w K mg base N qual (defScope st) f cdv A outer s H E).nox (defBody st) t ∧ t { nx := fun _ H' => Q .non H', rt := Q } (start N vs) H) : Kp P w K mg base (k + 1) f sp := by
  obtain ⟨fd, F⟩ := D
  refine ⟨fd, ps, F.ok S len fun cdv A outer s H vs Q E hr h => ?_, F.bindsN hb, F.kp⟩
  obtain ⟨t, h1, h2⟩ := hbody cdv A outer s H vs Q E hr h
  exact ⟨t, h1.nox, h2⟩
end
theorem b_int : bootBuiltins "int" = some (.type "int") := by decide +kernel
theorem b_bool : bootBuiltins "bool" = some (.type "bool") := by decide +kernel
theorem b_str : bootBuiltins "str" = some (.type "str") := by decide +kernel
theorem b_tuple : bootBuiltins "tuple" = some (.type "tuple") := by decide +kernel
theorem b_list : bootBuiltins "list" = some (.type "list") := by decide +kernel
theorem b_len : bootBuiltins "len" = some (.builtin "len") := by decide +kernel
theorem b_all : bootBuiltins "all" = some (.builtin "all") := by decide +kernel
theorem b_min : bootBuiltins "min" = some (.builtin "min") := by decide +kernel
theorem b_max : bootBuiltins "max" = some (.builtin "max") := by decide +kernel
section
variable {X : Cx} {k : Nat} {f C : Addr} {sp : Sp} {x m : Str} {p pos apos : Pos} {e o : Expr} {es : List Expr} {t : TA} {te ta : TE}
def tCl (sp : Sp) (t : TA) : TE := fun σ H Q => t σ H fun vs H1 => sp vs H1 Q E0
theorem pk_call (G : Kp X.prog X.w X.K X.mg X.base k f sp) (hr : Room k X.A) (hm : X.mg x = some (.ref f)) (ha : PA X (e :: es) t) (hg : Gl X x := by rfl) (hdb : (x == ("__debug__" : Str)) = false := by decide)
    (he : starEach (e :: es) X.env = (false, eval e X.env) :: starEach es X.env := by rfl) (hpl : (backTo pos (starEach es X.env)).any (·.1) = false := by rfl) : PE X (.Call (.Name x p) (e :: es) [] pos) (tCl sp t) := ⟨fun pins s σ H Q I h => by
  obtain ⟨fd, ps, F, b, kp⟩ := G
  refine (pe_call F hr hg hm kp b .nil pass0 ha hdb he hpl).run pins s σ H Q I ?_
  show t σ H fun vs H1 => sp (vs ++ []) H1 Q E0
  simp only [List.append_nil]
  exact h⟩
/-- isinstance(x, T), T a built-in type, by names of types -/
def rIsiB (K : PySem.W.Frag) : List V → Hp → VK → Prop := fun xs H Q => ∃ (x : V) (ty t : String) (r : Bool), xs = [x, .ty ty] ∧ TyX K H x (.type t) ∧ kitB t ty = some r ∧ Q (.bl r) H
theorem call_isiB : CallR X (.builtin "isinstance") (rIsiB X.K) := fun pins s σ H xs us Q I r h => by
  obtain ⟨x, ty, t, b, ex, h1, h2, q⟩ := h
  exact call_isi pins s σ H xs us Q I r ⟨x, .ty ty, .type t, .type ty, b, ex, .ty ty, h1, kit_ty h2, q⟩
/-- a built-in type as a value -/
theorem pe_ty {y : Str} {ty : String} (hm : X.mg y = none) (hb : bootBuiltins y = some (.type ty)) (hg : Gl X y := by rfl) (hn : y ≠ "__name__" := by decide) (hd : (y == ("__debug__" : Str)) = false := by decide) : PE X (.Name y p) (tC (.ty ty)) := pe_bltn hg hm hb rfl hn hd
theorem pe_isi {ty : String} {y : Str} {p2 : Pos} (he : PE X e te) (hi : X.mg ("isinstance" : Str) = none) (hy : X.mg y = none) (hb : bootBuiltins y = some (.type ty)) (hn : y ≠ "__name__" := by decide) (hd : (y == ("__debug__" : Str)) = false := by decide) (hgi : Gl X "isinstance" := by rfl) (hgy : Gl X y := by rfl)
    (h1 : starEach (e :: [.Name y p2]) X.env = (false, eval e X.env) :: starEach [.Name y p2] X.env := by rfl) (hpl : (backTo pos (starEach [.Name y p2] X.env)).any (·.1) = false := by rfl) :
    PE X (.Call (.Name "isinstance" p) [e, .Name y p2] [] pos) (tCB (rIsiB X.K) (tCons te (tCons (tC (.ty ty)) tNil))) := pe_callB call_isiB hgi hi boot_isinstance (pa_cons he (pa_cons (pe_ty hy hb hgy hn hd) pa_nil) h1) (by decide) (by decide) h1 hpl
theorem pk_prop {fl : Str} {g pa : Addr} (he : PE X e te) (c : Cls X.K C) (hp : PropOf X.K C fl pa g) (G : Kp X.prog X.w X.K X.mg X.base k g sp) (hr : Room (k + 1) X.A) (hab : attributeBase e fl X.env (eval e X.env) = eval e X.env := by rfl) : PE X (.Attribute e fl pos) (tProp C sp [] E0 te) := by
  obtain ⟨fd, ps, F, b, kp⟩ := G
  exact pe_prop he c hp F hr b .nil pass0 hab
/-- constants of the module -/
theorem pe_gI {i : Int} {tk : Tok} (hm : X.mg x = some (.int i tk)) (hg : Gl X x := by rfl) (hd : (x == ("__debug__" : Str)) = false := by decide) : PE X (.Name x p) (tC (.int i)) := pe_glob hg hm ⟨tk, rfl⟩ hd
theorem pe_gS {z : Str} {tk : Tok} (hm : X.mg x = some (.str z tk)) (hg : Gl X x := by rfl) (hd : (x == ("__debug__" : Str)) = false := by decide) : PE X (.Name x p) (tC (.str z)) := pe_glob hg hm ⟨tk, rfl⟩ hd
theorem pe_gR {a : Addr} (hm : X.mg x = some (.ref a)) (hg : Gl X x := by rfl) (hd : (x == ("__debug__" : Str)) = false := by decide) : PE X (.Name x p) (tC (.ref a)) := pe_glob hg hm rfl hd
/-- built-ins by short words: of one argument -/
theorem pk_b1 {y : Str} {id : String} {r : List V → Hp → VK → Prop} (hc : CallR X (.builtin id) r) (hm : X.mg y = none) (hv : bootBuiltins y = some (.builtin id)) (he : PE X e te) (hg : Gl X y := by rfl) (hn : y ≠ "__name__" := by decide) (hd : (y == ("__debug__" : Str)) = false := by decide)
    (h1 : starEach [e] X.env = [(false, eval e X.env)] := by rfl) : PE X (.Call (.Name y p) [e] [] pos) (tCB r (tCons te tNil)) := pe_callB hc hg hm hv (pa_cons he pa_nil h1) hn hd h1 rfl
theorem pk_t1 {y : Str} {ty : String} {r : List V → Hp → VK → Prop} (hc : CallR X (.type ty) r) (hm : X.mg y = none) (hv : bootBuiltins y = some (.type ty)) (he : PE X e te) (hg : Gl X y := by rfl) (hn : y ≠ "__name__" := by decide) (hd : (y == ("__debug__" : Str)) = false := by decide)
    (h1 : starEach [e] X.env = [(false, eval e X.env)] := by rfl) : PE X (.Call (.Name y p) [e] [] pos) (tCB r (tCons te tNil)) := pe_callTy hc hg hm hv (pa_cons he pa_nil h1) hn hd h1 rfl
end
end Pk
/-! ## for i, (x, y) in enumerate(zip(l1, l2)) -/
namespace Pk
open PySem PySem.Spec PyProof.Rows L2
/-- a zip of two lists at turn i; held: the pair that it gave last, which still lives -/
structure ZAt (h : Heap) (z TI TO i1 i2 a b : Addr) (i : Nat) (held : Option Addr) : Prop where
  pair : IsPair h TI (.ref i1) (.ref i2)
  it1 : h.IsListIter i1 a i
  it2 : h.IsListIter i2 b i
  out : ∃ x y, IsPair h TO x y
  at_ : match held with
    | none => IsZip h z TI TO .none
    | some T => ∃ f, IsZipHeld h z TI TO T f
section
variable {prog : Program} {w : World} {A : Around} {E : Value → Shared → Prop} {s : Shared} {z TI TO i1 i2 a b : Addr} {i : Nat} {held : Option Addr}
theorem ZAt.ty {h : Heap} (Z : ZAt h z TI TO i1 i2 a b i held) : ∃ o, h.get? z = some o ∧ o.cls = .type "zip" := by
  have h0 := Z.at_
  cases held with
  | none => exact ⟨_, h0, rfl⟩
  | some T =>
    obtain ⟨f, h1⟩ := h0
    exact ⟨_, h1, rfl⟩
theorem zip_turn {xs ys : Array Value} {x y : Value} {Q : Value → Shared → Prop} (D : ZipApart z TI TO i1 i2 a b) (Z : ZAt s.heap z TI TO i1 i2 a b i held) (alive : ∀ T, held = some T → ∃ o, s.heap.get? T = some o)
    (l1 : s.heap.IsList a xs) (l2 : s.heap.IsList b ys) (ex : xs[i]? = some x) (ey : ys[i]? = some y)
    (q : ∀ h2, ZAt h2 z TI TO i1 i2 a b (i + 1) (some (held.getD s.heap.objs.size)) → IsPair h2 s.heap.objs.size x y → h2.objs.size = s.heap.objs.size + 1 → (∀ c o, c ∉ [z, TO, i1, i2] → s.heap.get? c = some o → h2.get? c = some o) → Q (.ref s.heap.objs.size) { s with heap := h2 }) :
    wpAny (model prog w) A (Builtin.SmallTypes.nextOf (.ref z)) Q E s := by
  have ty : s.TypeIs (.ref z) "zip" := Z.ty
  have hp := Z.pair
  have h1 := Z.it1
  have h2 := Z.it2
  unfold Builtin.SmallTypes.nextOf
  refine wpAny_bind (wpAny_callSpecial?_slot (name := Str.ofString "__next__") ty F.slot_zip_next (wpAny_call_entry F.slot_zip_next ty F.entry_zip_next ?_ (F.args_zip_next_1 _)))
  have nTI : TI ∉ [z, TO, i1, i2] := by simp [D.TIz, D.TITO, D.TIi1, D.TIi2]
  have h0 := Z.at_
  cases held with
  | none =>
    have hz : IsZip _ z TI TO .none := h0
    obtain ⟨x0, y0, hTO⟩ := Z.out
    refine zip_next_item D hz hp hTO h1 h2 l1 l2 ex ey fun hq a1 a2 a3 a4 a5 a6 a7 => wpAny_pure ?_
    have kp : ∀ c o, c ∉ [z, TO, i1, i2] → s.heap.get? c = some o → hq.get? c = some o := fun c o hc e => by
      simp only [List.mem_cons, List.not_mem_nil, or_false, not_or] at hc
      exact a7 c o hc.1 hc.2.1 hc.2.2.1 hc.2.2.2 e
    exact q hq ⟨kp _ _ nTI hp, a3, a4, ⟨_, _, a2⟩, false, a1⟩ a5 a6 kp
  | some T =>
    obtain ⟨f, hz⟩ := h0
    obtain ⟨oT, hT⟩ := alive T rfl
    refine zip_next_item_held D hz hT hp h1 h2 l1 l2 ex ey fun hq a1 a3 a4 a5 a6 a7 => wpAny_pure ?_
    have kp : ∀ c o, c ∉ [z, TO, i1, i2] → s.heap.get? c = some o → hq.get? c = some o := fun c o hc e => by
      simp only [List.mem_cons, List.not_mem_nil, or_false, not_or] at hc
      exact a7 c o hc.1 hc.2.2.1 hc.2.2.2 e
    exact q hq ⟨kp _ _ nTI hp, a3, a4, let ⟨x0, y0, hTO⟩ := Z.out; ⟨x0, y0, a7 _ _ D.TOz D.TOi1 D.TOi2 hTO⟩, true, a1⟩ a5 a6 kp
theorem zip_over {xs ys : Array Value} {Q : Value → Shared → Prop} (hh : A.handled = none) (D : ZipApart z TI TO i1 i2 a b) (Z : ZAt s.heap z TI TO i1 i2 a b i held) (alive : ∀ T, held = some T → ∃ o, s.heap.get? T = some o)
    (l1 : s.heap.IsList a xs) (l2 : s.heap.IsList b ys) (none_ : xs[i]? = none ∨ ys[i]? = none)
    (q : ∀ h2 e, (∀ c o, c ∉ [z, TO, i1, i2] → s.heap.get? c = some o → h2.get? c = some o) → (∃ o, h2.get? e = some o ∧ o.cls = .type "StopIteration") → E (.ref e) { s with heap := h2 }) :
    wpAny (model prog w) A (Builtin.SmallTypes.nextOf (.ref z)) Q E s := by
  have ty : s.TypeIs (.ref z) "zip" := Z.ty
  have hp := Z.pair
  have h1 := Z.it1
  have h2 := Z.it2
  unfold Builtin.SmallTypes.nextOf
  refine wpAny_bind (wpAny_callSpecial?_slot (name := Str.ofString "__next__") ty F.slot_zip_next (wpAny_call_entry F.slot_zip_next ty F.entry_zip_next ?_ (F.args_zip_next_1 _)))
  have h0 := Z.at_
  cases held with
  | none =>
    have hz : IsZip _ z TI TO .none := h0
    obtain ⟨x0, y0, hTO⟩ := Z.out
    refine zip_next_end hh D hz hp hTO h1 h2 l1 l2 none_ fun hq e a7 he => q hq e (fun c o hc k => ?_) he
    simp only [List.mem_cons, List.not_mem_nil, or_false, not_or] at hc
    exact a7 c o hc.1 hc.2.1 hc.2.2.1 hc.2.2.2 k
  | some T =>
    obtain ⟨f, hz⟩ := h0
    obtain ⟨oT, hT⟩ := alive T rfl
    refine zip_next_end_held hh D hz hT hp h1 h2 l1 l2 none_ fun hq e a7 he => q hq e (fun c o hc k => ?_) he
    simp only [List.mem_cons, List.not_mem_nil, or_false, not_or] at hc
    exact a7 c o hc.1 hc.2.2.1 hc.2.2.2 k
/-- one turn of an enumerate, whatever it goes through -/
theorem enum_turn {elts : List Expr} {kk : Nat} {tpos : Pos} {en it : Addr} {c : Int} {prev : Value} {G : Value → Heap → Nat → Prop} {Q : Option Value → Shared → Prop}
    (here : IsEnum s.heap en it c prev)
    (inner : wpAny (model prog w) A.in1 (Builtin.SmallTypes.nextOf (.ref it)) (fun x s1 => ∃ h1 tk, s1 = { s with heap := h1, toks := tk } ∧ IsEnum h1 en it c prev ∧ G x h1 tk) (fun _ _ => False) s)
    (fin : ∀ x h1 tk, G x h1 tk → ∀ h2, IsEnumOut h2 en it (c + 1) x h1.objs.size → h2.get? h1.objs.size = some { cls := .type "tuple", data := .seq #[.int c tk, x] } → (∀ b o, b ≠ en → h1.get? b = some o → h2.get? b = some o) → Q (some (.ref h1.objs.size)) { s with heap := h2, toks := tk + 1 }) :
    wpAny (model prog w) A (pyNext (.ref en)) Q E s := by
  have ty : s.TypeIs (.ref en) "enumerate" := ⟨_, here, rfl⟩
  unfold pyNext
  refine wpAny_bind (wpAny_attempt (wpAny_callSpecial?_slot (name := Str.ofString "__next__") ty F.slot_enumerate_next (wpAny_call_entry F.slot_enumerate_next ty F.entry_enumerate_next ?_ (F.args_enumerate_next_1 _))))
  change wpAny _ _ (field (Value.ref en) 2 >>= _) _ _ s
  refine wpAny_bind (wpAny_field (i := 2) here rfl (x := .ref it) rfl ?_)
  refine wpAny_bind (wpAny_mono inner (fun x s1 r1 => ?_) fun _ _ z => z.elim)
  obtain ⟨h1, tk, rfl, here1, g1⟩ := r1
  change wpAny _ _ (field (Value.ref en) 3 >>= _) _ _ _
  refine wpAny_bind (wpAny_field (i := 3) here1 rfl (x := rawInt c) rfl ?_)
  change wpAny _ _ (field (Value.ref en) 4 >>= _) _ _ _
  refine wpAny_bind (wpAny_field (i := 4) here1 rfl (x := .none) rfl ?_)
  change wpAny _ _ (mkInt c >>= _) _ _ _
  refine wpAny_bind (m := mkInt c) (wpAny_mkInt ?_)
  change wpAny _ _ (setField (Value.ref en) 3 (rawInt (c + 1)) >>= _) _ _ _
  refine wpAny_bind (m := setField (.ref en) 3 (rawInt (c + 1))) (wpAny_setField_rec here1 (by simp) fun h2 here2 same2 => ?_)
  replace here2 : IsEnum h2 en it (c + 1) prev := here2
  replace same2 : Heap.SameBut en h1 h2 := same2
  change wpAny _ _ (setField (Value.ref en) 4 Value.none >>= _) _ _ _
  refine wpAny_bind (m := setField (.ref en) 4 .none) (wpAny_setField_rec here2 (by simp) fun h3 here3 same3 => ?_)
  replace here3 : IsEnum h3 en it (c + 1) prev := here3
  replace same3 : Heap.SameBut en h2 h3 := same3
  have size3 : h3.objs.size = h1.objs.size := by rw [same3.1, same2.1]
  change wpAny _ _ (newTuple [Value.int c tk, x] >>= _) _ _ _
  refine wpAny_bind (m := newTuple [.int c tk, x]) (wpAny_newTuple ?_)
  have here4 : IsEnum (h3.push { cls := .type "tuple", data := .seq #[.int c tk, x] }) en it (c + 1) prev := Heap.get?_push_of_some _ here3
  have tup4 : (h3.push { cls := .type "tuple", data := .seq #[.int c tk, x] }).get? h1.objs.size = some { cls := .type "tuple", data := .seq #[.int c tk, x] } := by
    rw [← size3]
    exact Heap.get?_push_size _ rfl
  have keep4 : ∀ b o, b ≠ en → h1.get? b = some o → (h3.push { cls := .type "tuple", data := .seq #[.int c tk, x] }).get? b = some o := fun b o n e => Heap.get?_push_of_some _ (same3.extBut b o n (same2.extBut b o n e))
  have lt1 : en < h1.objs.size := Heap.lt_size here1
  show wpAny _ _ (Builtin.SmallTypes.ownedTupleIsFree (.ref en) >>= _) _ _ _
  rw [size3]
  generalize h3.push { cls := .type "tuple", data := .seq #[.int c tk, x] } = h4 at here4 tup4 keep4
  change wpAny _ _ _ _ _ { s with heap := h4, toks := tk + 1 }
  clear here3 same3 here2 same2 size3 h3 h2
  refine wpAny_bind ?_
  unfold Builtin.SmallTypes.ownedTupleIsFree
  refine wpAny_bind (wpAny_field (i := 0) here4 rfl (x := .none) rfl (wpAny_pure ?_))
  simp only [if_true]
  refine wpAny_bind (wpAny_rule ?_)
  refine wpAny_bind (wpAny_field here4 rfl (x := prev) rfl ?_)
  refine wpAny_bind (wpAny_setField_rec here4 (by simp) fun h5 here5 same5 => ?_)
  replace here5 : IsEnum h5 en it (c + 1) x := here5
  replace same5 : Heap.SameBut en h4 h5 := same5
  refine wpAny_bind ?_
  unfold Builtin.SmallTypes.ownedTupleHandOut
  refine wpAny_bind (wpAny_setField_rec here5 (by simp) fun h6 here6 same6 => ?_)
  replace here6 : IsEnumOut h6 en it (c + 1) x h1.objs.size := here6
  replace same6 : Heap.SameBut en h5 h6 := same6
  refine wpAny_setField_rec here6 (by simp) fun h7 here7 same7 => ?_
  replace here7 : IsEnumOut h7 en it (c + 1) x h1.objs.size := here7
  replace same7 : Heap.SameBut en h6 h7 := same7
  have keep7 : ∀ b o, b ≠ en → h4.get? b = some o → h7.get? b = some o := fun b o n e => same7.extBut b o n (same6.extBut b o n (same5.extBut b o n e))
  exact wpAny_bind (wpAny_letGo (wpAny_pure ⟨_, rfl, wpAny_pure (fin x h1 tk g1 h7 here7 (keep7 _ _ (Nat.ne_of_gt lt1) tup4) fun b o n e => keep7 b o n (keep4 b o n e))⟩))
theorem enum_over {en it : Addr} {c : Int} {prev : Value} {G : Heap → Prop} {Q : Option Value → Shared → Prop}
    (here : IsEnum s.heap en it c prev)
    (inner : ∀ Q2 : Value → Shared → Prop, wpAny (model prog w) A.in1 (Builtin.SmallTypes.nextOf (.ref it)) Q2 (fun ev s1 => ∃ e h1, ev = .ref e ∧ s1 = { s with heap := h1 } ∧ (∃ o, h1.get? e = some o ∧ o.cls = .type "StopIteration") ∧ G h1) s)
    (fin : ∀ h1, G h1 → Q none { s with heap := h1 }) : wpAny (model prog w) A (pyNext (.ref en)) Q E s := by
  have ty : s.TypeIs (.ref en) "enumerate" := ⟨_, here, rfl⟩
  unfold pyNext
  refine wpAny_bind (wpAny_attempt (wpAny_callSpecial?_slot (name := Str.ofString "__next__") ty F.slot_enumerate_next (wpAny_call_entry F.slot_enumerate_next ty F.entry_enumerate_next ?_ (F.args_enumerate_next_1 _))))
  change wpAny _ _ (field (Value.ref en) 2 >>= _) _ _ s
  refine wpAny_bind (wpAny_field (i := 2) here rfl (x := .ref it) rfl ?_)
  refine wpAny_bind (wpAny_mono (inner fun _ _ => False) (fun _ _ z => z.elim) fun ev s1 r1 => ?_)
  obtain ⟨e, h1, rfl, rfl, ⟨o, ho, hc⟩, g1⟩ := r1
  refine wpAny_bind (wpAny_isInstance (T := "StopIteration") (b := true) ⟨o, ho, hc⟩ isSubtype_stop ?_)
  exact wpAny_pure (fin h1 g1)
end
end Pk
namespace Pk
open PySem PySem.Spec PyProof.Rows L2
theorem enum_self_meets {z TI TO : Addr} : Meets (Builtin.«enumerate.__new__» ⟨[.type "enumerate", .ref z], []⟩) (fun _ R s => IsZip s.heap z TI TO .none ∧
      R (.ok (.ret (.ref s.heap.objs.size))) { s with heap := s.heap.push { cls := .type "enumerate", data := .fields #[.none, .bool false, .ref z, rawInt 0, .none, .none] } }) :=
  .of_wp fun prog w A R s hh => by
    obtain ⟨hp, g, d, tk, os⟩ := s
    obtain ⟨hP, hR⟩ := hh
    have subE := sub_enumerate
    have mk : ∀ {A' : Around} {E : Value → Shared → Prop} {Q : Value → Shared → Prop}, Q (.ref z) ⟨hp, g, d, tk, os⟩ → wpAny (model prog w) A' (pyIter (.ref z)) Q E ⟨hp, g, d, tk, os⟩ := fun q => wpAny_pyIter_zip hP q
    wp_walk using mk
    refine wpAny_stack_any fun stk => wpAny_pure ?_
    split
    · rename_i cc _ _ _ _ _
      cases (cc == Value.type "enumerate") <;> (wp_walk using mk; exact ⟨_, rfl, hR⟩)
    · wp_walk using mk
      exact ⟨_, rfl, hR⟩
theorem enum_zip_new {prog : Program} {w : World} {A : Around} {E : Value → Shared → Prop} {s : Shared} {z TI TO : Addr} {Q : Value → Shared → Prop} (hP : IsZip s.heap z TI TO .none)
    (hQ : ∀ h2, IsEnum h2 s.heap.objs.size z 0 .none → (∀ b o, s.heap.get? b = some o → h2.get? b = some o) → Q (.ref s.heap.objs.size) { s with heap := h2 }) :
    wpAny (model prog w) A (call (.type "enumerate") [.ref z]) Q E s := by
  refine callType_new F.called_enumerate (by decide) (F.typeCall_enumerate_1 _) (F.newCall_enumerate_1 _) (fun obj => F.args_object_init_2 obj _) F.entry_enumerate_new enum_self_meets ⟨hP, ?_⟩
  have at_ := Heap.get?_push_size s.heap (o := { cls := .type "enumerate", data := .fields #[.none, .bool false, .ref z, rawInt 0, .none, .none] }) rfl
  exact ⟨⟨_, at_, rfl⟩, hQ _ at_ fun b o y => Heap.get?_push_of_some _ y⟩
/-- for tg in enumerate(zip(e1, e2)), lists: each turn lays a pair and a pair of it; what a turn leaves keeps them -/
def tForEZ (K : PySem.W.Frag) (ta : TA) (g : TG) (tb : TS) : TS := fun D σ H => ta σ H fun vs H1 => ∃ (a b : Addr) (xs ys : List V), vs = [.ref a, .ref b] ∧ SqL K H1 a xs ∧ SqL K H1 b ys ∧
  ∃ W : Nat → Nat → L2.St → Hp → Prop, (∃ m, W 0 m σ H1) ∧ ∀ i m σ H, W i m σ H → SqL K H a xs ∧ SqL K H b ys ∧ (((xs.length ≤ i ∨ ys.length ≤ i) ∧ D.nx σ H) ∨
    ∃ x y, xs[i]? = some x ∧ ys[i]? = some y ∧ ∃ N : L2.St → Hp → Prop, (∀ σ2 H2, N σ2 H2 → ∃ m2, m2 < m ∧ W (i + 1) m2 σ2 H2) ∧
      ∀ T T2, H T = none → (upd H T (.tup [x, y])) T2 = none → g (.ref T2) σ (upd (upd H T (.tup [x, y])) T2 (.tup [.int (i : Nat), .ref T])) fun σ2 H2 =>
        tb { D with nx := fun σ3 H3 => Same (upd (upd H T (.tup [x, y])) T2 (.tup [.int (i : Nat), .ref T])) H3 ∧ N σ3 H3, ct := fun σ3 H3 => Same (upd (upd H T (.tup [x, y])) T2 (.tup [.int (i : Nat), .ref T])) H3 ∧ N σ3 H3, bk := D.nx } σ2 H2)
section
variable {X : Cx}
theorem ps_forEZ {p1 p2 pos1 pos2 pos tpos : Pos} {elts : List Expr} {kk : Nat} {e e2 : Expr} {ta : TA} {body : List Stmt} {g : TG} {tb : TS} (hp : PassesOwn (model X.prog X.w) X.A X.env X.xe) (hc : X.calm = true)
    (ge : Gl X "enumerate") (me : X.mg "enumerate" = none) (gz : Gl X "zip") (mz : X.mg "zip" = none) (ha : PA X [e, e2] ta) (hg : PG X (.Tuple elts kk tpos) g) (hb : PSs X body tb)
    (hs : starEach [e, e2] X.env = (false, eval e X.env) :: starEach [e2] X.env := by rfl) (hpl : (backTo pos2 (starEach [e2] X.env)).any (·.1) = false := by rfl)
    (na : starEach [.Call (.Name "zip" p2) [e, e2] [] pos2] X.env = (false, eval (.Call (.Name "zip" p2) [e, e2] [] pos2) X.env) :: starEach [] X.env := by rfl)
    (fs : ∀ x, foldedSetIterable (.Call (.Name "enumerate" p1) [.Call (.Name "zip" p2) [e, e2] [] pos2] [] pos1) X.env x = pure x := by intro _; rfl) :
    PS X (.For (.Tuple elts kk tpos) (.Call (.Name "enumerate" p1) [.Call (.Name "zip" p2) [e, e2] [] pos2] [] pos1) body [] pos) (tForEZ X.K ta g tb) := ⟨fun pins s σ H D I h => by
  refine wpAny_For (Call_ (ld_blt I ge me boot_enumerate (PyProof.Rows.callWith_type1 (PyProof.Rows.args_cons (Call_ (ld_blt I gz mz PyProof.Rows.boot_zip (PyProof.Rows.callWith_type1 (thn (ha.run pos2 pins s σ H _ I h) fun us s1 k1 => ?_) hs hpl))) na) na))) fs
  obtain ⟨vs, H1, I1, r1, a, b, xs, ys, ev, la, lb, W, ⟨m0, w0⟩, turn⟩ := k1
  subst ev
  cases r1 with
  | cons r rr =>
  cases rr with
  | cons r2 rr =>
  cases rr
  cases r
  cases r2
  obtain ⟨its, rv, q1, _⟩ := I1.list la
  obtain ⟨its2, rv2, q2, _⟩ := I1.list lb
  have lta : a < s1.heap.objs.size := q1.lt
  have ltb : b < s1.heap.objs.size := q2.lt
  have DD := PySem.W.ktu_apart s1.heap.objs.size a b lta ltb
  refine call_zip_2 q1.isList q2.isList fun h1 hz hTI hTO t1 t2 size1 kp1 => PyProof.Rows.args_nil (enum_zip_new hz fun h2 hen kp2 => ?_)
  have I2 : Inv X pins σ H1 { s1 with heap := h2 } := I1.kept (t' := s1.toks) fun b o e => kp2 b o (kp1 b o e)
  have kz := kp2 _ _ hz
  have kTI := kp2 _ _ hTI
  have kTO := kp2 _ _ hTO
  have k1 := t1.at fun o q => kp2 _ o q
  have k2 := t2.at fun o q => kp2 _ o q
  rw [size1] at hen ⊢
  have hen0 : IsEnum h2 (s1.heap.objs.size + 5) (s1.heap.objs.size + 4) 0 .none := hen
  have ft : ∀ c ∈ [s1.heap.objs.size + 5, s1.heap.objs.size + 4, s1.heap.objs.size + 2, s1.heap.objs.size + 3, s1.heap.objs.size, s1.heap.objs.size + 1], FpOk X pins H1 c := fun c hc => by
    have hle : s1.heap.objs.size ≤ c := by
      simp only [List.mem_cons, List.not_mem_nil, or_false] at hc
      omega
    exact I1.fpOk hle (I1.hok.fresh hle)
  have apart : ∀ c ∈ [s1.heap.objs.size + 4, s1.heap.objs.size + 2, s1.heap.objs.size + 3, s1.heap.objs.size, s1.heap.objs.size + 1], c ≠ s1.heap.objs.size + 5 := fun c hc => by
    simp only [List.mem_cons, List.not_mem_nil, or_false] at hc
    omega
  have nab : a ≠ s1.heap.objs.size + 5 ∧ b ≠ s1.heap.objs.size + 5 := ⟨Nat.ne_of_lt (Nat.lt_of_lt_of_le lta (Nat.le_add_right _ _)), Nat.ne_of_lt (Nat.lt_of_lt_of_le ltb (Nat.le_add_right _ _))⟩
  change wpAny _ _ (pyIter (.ref (s1.heap.objs.size + 5))) _ _ _
  generalize s1.heap.objs.size + 5 = en at *
  generalize s1.heap.objs.size + 4 = z at *
  generalize s1.heap.objs.size + 2 = TI at *
  generalize s1.heap.objs.size + 3 = TO at *
  generalize s1.heap.objs.size + 1 = i2 at *
  generalize s1.heap.objs.size = i1 at *
  refine wpAny_pyIter_enum hen0 ?_
  have stat : ∀ {H4 : Hp}, (∀ c ∈ [en, z, TI, TO, i1, i2], H4 c = none) → ∀ c ∈ [en, z, TI, TO, i1, i2], FpOk X pins H4 c := fun hn c hc => ⟨hn c hc, (ft c hc).2⟩
  refine codeAny_forLoop_any (fun n s4 => ∃ i σ4 H4 held, Inv X pins σ4 H4 s4 ∧ (∃ prev, IsEnum s4.heap en z ((i : Nat) : Int) prev) ∧ ZAt s4.heap z TI TO i1 i2 a b i held ∧ (∀ T, held = some T → ∃ us, H4 T = some (.tup us)) ∧ (∀ c ∈ [en, z, TI, TO, i1, i2], H4 c = none) ∧ W i n σ4 H4) ?_ m0
    ⟨0, σ, H1, none, I2, ⟨_, hen0⟩, ⟨kTI, k1, k2, ⟨_, _, kTO⟩, kz⟩, fun _ q => (by cases q), fun c hc => (ft c hc).1, w0⟩
  rintro n s4 ⟨i, σ4, H4, held, I4, ⟨prev, en4⟩, Z4, alive4, fr4, w4⟩
  obtain ⟨la4, lb4, turn4⟩ := turn i n σ4 H4 w4
  obtain ⟨jts, rw1, u1, _⟩ := I4.list la4
  obtain ⟨jts2, rw2, u2, _⟩ := I4.list lb4
  have alive : ∀ T, held = some T → ∃ o, s4.heap.get? T = some o := fun T hT => by
    obtain ⟨us, hu⟩ := alive4 T hT
    obtain ⟨its, _, ⟨o, ho, _⟩, _⟩ := I4.tuple (xs := us) (.inl (.inl hu))
    exact ⟨o, ho⟩
  have hh : X.A.in1.handled = none := I4.ok.hd hc
  have ez : en ≠ z := fun q => apart z (by simp) q.symm
  have sub : ∀ c, c ∉ [en, z, TI, TO, i1, i2] → c ∉ [z, TO, i1, i2] := fun c hc q => hc (by
    simp only [List.mem_cons, List.not_mem_nil, or_false] at q ⊢
    rcases q with q | q | q | q <;> simp [q])
  have en_out : en ∉ [z, TO, i1, i2] := fun q => by
    simp only [List.mem_cons, List.not_mem_nil, or_false] at q
    rcases q with q | q | q | q
    · exact apart z (by simp) q.symm
    · exact apart TO (by simp) q.symm
    · exact apart i1 (by simp) q.symm
    · exact apart i2 (by simp) q.symm
  rcases turn4 with ⟨over, qn⟩ | ⟨x, y, hx, hy, N, hN, step⟩
  · have none_ : jts.toArray[i]? = none ∨ jts2.toArray[i]? = none := by
      have l1 := rw1.length
      have l2 := rw2.length
      rcases over with q | q
      · exact .inl (by simp; omega)
      · exact .inr (by simp; omega)
    refine wpAny_passesOwn hp (enum_over (G := fun h5 => ∀ c o, c ∉ [z, TO, i1, i2] → s4.heap.get? c = some o → h5.get? c = some o) en4 (fun Q2 => zip_over hh DD Z4 alive u1.isList u2.isList none_ fun h5 e k5 st5 => ⟨e, h5, rfl, rfl, st5, k5⟩) fun h5 k5 => ?_)
    exact wpAny_execs_nil ⟨σ4, H4, I4.turnedL (t' := s4.toks) (ch := [en, z, TI, TO, i1, i2]) (fun c o hc e => k5 c o (sub c hc) e) (stat fr4), qn⟩
  · obtain ⟨v1, hv1, rv1⟩ := rw1.get hx
    obtain ⟨v2, hv2, rv2⟩ := rw2.get hy
    refine wpAny_passesOwn hp (enum_turn (elts := elts) (kk := kk) (tpos := tpos) (G := fun u h5 tk => u = .ref s4.heap.objs.size ∧ tk = s4.toks ∧ ZAt h5 z TI TO i1 i2 a b (i + 1) (some (held.getD s4.heap.objs.size)) ∧ IsPair h5 s4.heap.objs.size v1 v2 ∧ h5.objs.size = s4.heap.objs.size + 1 ∧ (∀ c o, c ∉ [z, TO, i1, i2] → s4.heap.get? c = some o → h5.get? c = some o)) en4
      (zip_turn DD Z4 alive u1.isList u2.isList (x := v1) (y := v2) (by simpa using hv1) (by simpa using hv2) fun h5 Z5 p5 size5 k5 => ⟨h5, s4.toks, rfl, k5 _ _ en_out en4, rfl, rfl, Z5, p5, size5, k5⟩) fun u h5 tk g5 h6 out6 tup6 k6 => ?_)
    obtain ⟨rfl, rfl, Z5, p5, size5, k5⟩ := g5
    rw [size5] at out6 tup6 ⊢
    refine wpAny_passesOwn hp (wpAny_letOwnedTupleGo_enum (s := { s4 with heap := h6, toks := s4.toks + 1 }) out6 fun h7 en7 sb => ?_)
    have fresh4 : H4 s4.heap.objs.size = none := I4.hok.fresh (Nat.le_refl _)
    have lts : ∀ c ∈ [en, z, TI, TO, i1, i2], c < s4.heap.objs.size := fun c hc => by
      simp only [List.mem_cons, List.not_mem_nil, or_false] at hc
      obtain ⟨oz, hoz, _⟩ := Z4.ty
      obtain ⟨o1, ho1, _⟩ := Z4.it1
      obtain ⟨o2, ho2, _⟩ := Z4.it2
      rcases hc with q | q | q | q | q | q
      · rw [q]; exact Heap.lt_size en4
      · rw [q]; exact Heap.lt_size hoz
      · rw [q]; exact Heap.lt_size Z4.pair
      · rw [q]
        obtain ⟨_, _, hto⟩ := Z4.out
        exact Heap.lt_size hto
      · rw [q]; exact Heap.lt_size ho1
      · rw [q]; exact Heap.lt_size ho2
    have nf : ∀ c ∈ [en, z, TI, TO, i1, i2], c ≠ s4.heap.objs.size := fun c hc => Nat.ne_of_lt (lts c hc)
    have k57 : ∀ c o, c ≠ en → h5.get? c = some o → h7.get? c = some o := fun c o n e => (sb.2 c n).trans (k6 c o n e)
    have new5 : ObjOk X.prog X.w (upd H4 s4.heap.objs.size (.tup [x, y])) h5 s4.heap.objs.size (.tup [x, y]) := ⟨(by decide : 2 ≤ sizeLine), [v1, v2], .cons rv1 (.cons rv2 .nil), ⟨_, p5, rfl, _, rfl⟩⟩
    have I5 : Inv X pins σ4 (upd H4 s4.heap.objs.size (.tup [x, y])) { s4 with heap := h5, toks := s4.toks } :=
      I4.turnedNew (t' := s4.toks) (ch := [en, z, TI, TO, i1, i2]) (fun c o hc e => k5 c o (sub c hc) e) (stat fr4) (Nat.le_refl _) new5
    have fr5 : ∀ c ∈ [en, z, TI, TO, i1, i2], (upd H4 s4.heap.objs.size (.tup [x, y])) c = none := fun c hc => by
      rw [upd_ne (nf c hc)]
      exact fr4 c hc
    have tup7 : h7.get? (s4.heap.objs.size + 1) = some { cls := .type "tuple", data := .seq #[.int (i : Nat) s4.toks, .ref s4.heap.objs.size] } := (sb.2 _ (Nat.ne_of_gt (Nat.lt_succ_of_lt (lts en (by simp))))).trans tup6
    have new7 : ObjOk X.prog X.w (upd (upd H4 s4.heap.objs.size (.tup [x, y])) (s4.heap.objs.size + 1) (.tup [.int (i : Nat), .ref s4.heap.objs.size])) h7 (s4.heap.objs.size + 1) (.tup [.int (i : Nat), .ref s4.heap.objs.size]) :=
      ⟨(by decide : 2 ≤ sizeLine), [.int (i : Nat) s4.toks, .ref s4.heap.objs.size], .cons ⟨_, rfl⟩ (.cons rfl .nil), ⟨_, tup7, rfl, _, rfl⟩⟩
    have I7 : Inv X pins σ4 (upd (upd H4 s4.heap.objs.size (.tup [x, y])) (s4.heap.objs.size + 1) (.tup [.int (i : Nat), .ref s4.heap.objs.size])) { s4 with heap := h7, toks := s4.toks + 1 } :=
      I5.turnedNew (t' := s4.toks + 1) (ch := [en]) (fun c o hc e => k57 c o (fun q => hc (by simp [q])) e) (fun c hc => stat fr5 c (by simp only [List.mem_cons, List.not_mem_nil, or_false] at hc; simp [hc])) (Nat.le_of_eq size5) new7
    have fr7 : ∀ c ∈ [en, z, TI, TO, i1, i2], (upd (upd H4 s4.heap.objs.size (.tup [x, y])) (s4.heap.objs.size + 1) (.tup [.int (i : Nat), .ref s4.heap.objs.size])) c = none := fun c hc => by
      rw [upd_ne (Nat.ne_of_lt (Nat.lt_succ_of_lt (lts c hc)))]
      exact fr5 c hc
    have fresh5 : (upd H4 s4.heap.objs.size (.tup [x, y])) (s4.heap.objs.size + 1) = none := I5.hok.fresh (Nat.le_of_eq size5)
    have nTI : TI ≠ en := apart TI (by simp)
    have n1 : i1 ≠ en := apart i1 (by simp)
    have n2 : i2 ≠ en := apart i2 (by simp)
    have nz : z ≠ en := apart z (by simp)
    have nO : TO ≠ en := apart TO (by simp)
    have Z7 : ZAt h7 z TI TO i1 i2 a b (i + 1) (some (held.getD s4.heap.objs.size)) := ⟨k57 _ _ nTI Z5.pair, Z5.it1.at fun o q => k57 _ o n1 q, Z5.it2.at fun o q => k57 _ o n2 q, let ⟨_, _, q⟩ := Z5.out; ⟨_, _, k57 _ _ nO q⟩, let ⟨f, q⟩ := Z5.at_; ⟨f, k57 _ _ nz q⟩⟩
    have en7' : IsEnum h7 en z ((i + 1 : Nat) : Int) (.ref s4.heap.objs.size) := by
      rw [Int.natCast_succ]
      exact en7
    have alive7 : ∀ T, some (held.getD s4.heap.objs.size) = some T → ∃ us, (upd (upd H4 s4.heap.objs.size (.tup [x, y])) (s4.heap.objs.size + 1) (.tup [.int (i : Nat), .ref s4.heap.objs.size])) T = some (.tup us) := fun T hT => by
      have s57 : Same (upd H4 s4.heap.objs.size (.tup [x, y])) (upd (upd H4 s4.heap.objs.size (.tup [x, y])) (s4.heap.objs.size + 1) (.tup [.int (i : Nat), .ref s4.heap.objs.size])) := fun c o e => by
        rw [upd_ne (ne_of_none e fresh5)]
        exact e
      have s45 : Same H4 (upd H4 s4.heap.objs.size (.tup [x, y])) := fun c o e => by
        rw [upd_ne (ne_of_none e fresh4)]
        exact e
      cases held with
      | none =>
        cases hT
        exact ⟨_, s57 _ _ upd_same⟩
      | some T0 =>
        cases hT
        obtain ⟨us, hu⟩ := alive4 T0 rfl
        exact ⟨us, s57 _ _ (s45 _ _ hu)⟩
    have obj7 : ∀ c ∈ [en, z, TI, TO, i1, i2], ∃ o, h7.get? c = some o ∧ ∀ v, o.data ≠ .cell v := fun c hc => by
      obtain ⟨f, hz7⟩ := Z7.at_
      obtain ⟨_, _, hO7⟩ := Z7.out
      obtain ⟨o1, e1, _, d1⟩ := Z7.it1
      obtain ⟨o2, e2, _, d2⟩ := Z7.it2
      simp only [List.mem_cons, List.not_mem_nil, or_false] at hc
      rcases hc with q | q | q | q | q | q <;> rw [q]
      · exact ⟨_, en7', fun v q => nomatch q⟩
      · exact ⟨_, hz7, fun v q => nomatch q⟩
      · exact ⟨_, Z7.pair, fun v q => nomatch q⟩
      · exact ⟨_, hO7, fun v q => nomatch q⟩
      · exact ⟨o1, e1, fun v q => by rw [d1] at q; cases q⟩
      · exact ⟨o2, e2, fun v q => by rw [d2] at q; cases q⟩
    have I7p := I7.pinned (stat fr7) obj7
    refine wpAny_passesOwn hp (thn (hg.run _ _ σ4 _ (.ref (s4.heap.objs.size + 1)) _ _ I7p rfl (step s4.heap.objs.size (s4.heap.objs.size + 1) fresh4 fresh5)) fun _ s8 ⟨σ8, H8, I8, q8⟩ => ?_)
    refine wpAny_passesOwn hp (thn (hb.run _ s8 σ8 H8 _ I8 q8) fun f s9 q9 => ?_)
    have again : ∀ {σ9 : L2.St} {H9 : Hp}, Inv X (pins ++ pinsAt [en, z, TI, TO, i1, i2] h7) σ9 H9 s9 → Same (upd (upd H4 s4.heap.objs.size (.tup [x, y])) (s4.heap.objs.size + 1) (.tup [.int (i : Nat), .ref s4.heap.objs.size])) H9 ∧ N σ9 H9 →
        ∃ m, m < n ∧ ∃ i σ4 H4 held, Inv X pins σ4 H4 s9 ∧ (∃ prev, IsEnum s9.heap en z ((i : Nat) : Int) prev) ∧ ZAt s9.heap z TI TO i1 i2 a b i held ∧ (∀ T, held = some T → ∃ us, H4 T = some (.tup us)) ∧ (∀ c ∈ [en, z, TI, TO, i1, i2], H4 c = none) ∧ W i m σ4 H4 := fun {σ9 H9} I9 n9 => by
      obtain ⟨m9, hm, w9⟩ := hN σ9 H9 n9.2
      have pn : ∀ c ∈ [en, z, TI, TO, i1, i2], ∀ o, h7.get? c = some o → s9.heap.get? c = some o := fun c hc o e => (I9.pin (c, o) (List.mem_append_right _ (List.mem_append_right _ (mem_pinsAt hc e)))).1
      refine ⟨m9, hm, i + 1, σ9, H9, some (held.getD s4.heap.objs.size), I9.unpinned, ⟨_, pn en (by simp) _ en7'⟩, ⟨pn TI (by simp) _ Z7.pair, Z7.it1.at fun o q => pn i1 (by simp) o q, Z7.it2.at fun o q => pn i2 (by simp) o q, let ⟨_, _, q⟩ := Z7.out; ⟨_, _, pn TO (by simp) _ q⟩, let ⟨f, q⟩ := Z7.at_; ⟨f, pn z (by simp) _ q⟩⟩, fun T hT => ?_, fun c hc => ?_, w9⟩
      · obtain ⟨us, hu⟩ := alive7 T hT
        exact ⟨us, n9.1 _ _ hu⟩
      · obtain ⟨o, e, d⟩ := obj7 c hc
        exact (I9.pin (c, o) (List.mem_append_right _ (List.mem_append_right _ (mem_pinsAt hc e)))).2.1
    cases f with
    | next => obtain ⟨σ9, H9, I9, n9⟩ := q9; exact again I9 n9
    | cont => obtain ⟨σ9, H9, I9, n9⟩ := q9; exact again I9 n9
    | brk => obtain ⟨σ9, H9, I9, q9⟩ := q9; exact ⟨σ9, H9, I9.unpinned, q9⟩
    | ret v => obtain ⟨x9, σ9, H9, I9, r9, q9⟩ := q9; exact ⟨x9, σ9, H9, I9.unpinned, r9, q9⟩⟩
end
end Pk
/-! ## Texts in plain Lean: steps, sizes, the keys of all places -/
namespace Pk
open PySem L2
def sL (l : List Nat) : Str := ⟨l.toArray⟩
theorem sL_len (l : List Nat) : (sL l).length = l.length := by simp [sL, Str.length]
theorem sL_app (a b : List Nat) : sL a ++ sL b = sL (a ++ b) := by
  show Str.append (sL a) (sL b) = _
  simp [sL, Str.append]
theorem sL_inj {a b : List Nat} : sL a = sL b ↔ a = b := by
  constructor
  · intro h
    have h1 := congrArg (fun z : Str => z.cps.toList) h
    simpa [sL] using h1
  · intro h
    rw [h]
theorem sL_of (z : Str) : z = sL z.cps.toList := by cases z; simp [sL]
def isLet (c : Nat) : Bool := decide (97 ≤ c) && decide (c ≤ 122)
inductive Stp where
  | wr (w : List Nat)
  | pa (f l t : Nat)
  deriving DecidableEq
namespace Stp
/-- keys that are typed -/
def ks : Stp → Nat
  | wr w => w.length
  | pa _ _ _ => 0
/-- places that are added -/
def gr : Stp → Nat
  | wr w => w.length
  | pa f l t => (l + 1 - f) * t
/-- letters that are typed -/
def ty : Stp → List Nat
  | wr w => w
  | pa _ _ _ => []
def ok (s : Nat) : Stp → Bool
  | wr w => decide (1 ≤ w.length) && decide (w.length ≤ 20) && w.all isLet
  | pa f l t => decide (f ≤ l) && decide (l < s) && decide (1 ≤ t) && decide (t ≤ 1000000000)
end Stp
def sz (st : List Stp) : Nat := (st.map Stp.gr).sum
def nk (st : List Stp) : Nat := (st.map Stp.ks).sum
def typed (st : List Stp) : List Nat := st.flatMap Stp.ty
theorem sz_cons (x : Stp) (r : List Stp) : sz (x :: r) = x.gr + sz r := by simp [sz]
theorem sz_app (a b : List Stp) : sz (a ++ b) = sz a + sz b := by simp [sz]
theorem nk_app (a b : List Stp) : nk (a ++ b) = nk a + nk b := by simp [nk]
theorem typed_app (a b : List Stp) : typed (a ++ b) = typed a ++ typed b := by simp [typed]
theorem typed_len (st : List Stp) : (typed st).length = nk st := by
  induction st with
  | nil => rfl
  | cons x r ih =>
    have h : (x.ty).length = x.ks := by cases x <;> rfl
    simp only [typed, List.flatMap_cons, List.length_append, h, nk, List.map_cons, List.sum_cons] at ih ⊢
    rw [ih]
/-- every step is one where it stands, and the text is not too long behind it -/
def Goes (most : Nat) : Nat → List Stp → Prop
  | _, [] => True
  | s, x :: r => x.ok s = true ∧ s + x.gr ≤ most ∧ Goes most (s + x.gr) r
theorem goes_app {most : Nat} : ∀ {s : Nat} {a b : List Stp}, Goes most s (a ++ b) ↔ Goes most s a ∧ Goes most (s + sz a) b
  | s, [], b => by simp [Goes, sz]
  | s, x :: a, b => by
    show (x.ok s = true ∧ s + x.gr ≤ most ∧ Goes most (s + x.gr) (a ++ b)) ↔ (x.ok s = true ∧ s + x.gr ≤ most ∧ Goes most (s + x.gr) a) ∧ _
    rw [goes_app (a := a) (b := b), sz_cons, Nat.add_assoc]
    constructor
    · rintro ⟨h1, h2, h3, h4⟩; exact ⟨⟨h1, h2, h3⟩, h4⟩
    · rintro ⟨⟨h1, h2, h3⟩, h4⟩; exact ⟨h1, h2, h3, h4⟩
theorem goes_at {most : Nat} {st : List Stp} {i : Nat} {x : Stp} (h : Goes most 0 st) (e : st[i]? = some x) : x.ok (sz (st.take i)) = true ∧ sz (st.take i) + x.gr ≤ most := by
  have hlt : i < st.length := (List.getElem?_eq_some_iff.mp e).1
  have hd : st = st.take i ++ st.drop i := (List.take_append_drop i st).symm
  have hx : st.drop i = x :: st.drop (i + 1) := by
    rw [List.drop_eq_getElem_cons hlt]
    have := (List.getElem?_eq_some_iff.mp e).2
    rw [this]
  rw [hx] at hd
  rw [hd] at h
  have h2 := (goes_app.mp h).2
  rw [Nat.zero_add] at h2
  exact ⟨h2.1, h2.2.1⟩
theorem goes_mono {m n : Nat} (hmn : m ≤ n) : ∀ {s : Nat} {a : List Stp}, Goes m s a → Goes n s a
  | _, [], _ => trivial
  | _, _ :: _, h => ⟨h.1, Nat.le_trans h.2.1 hmn, goes_mono hmn h.2.2⟩
theorem goes_sz {most : Nat} : ∀ {s : Nat} {a : List Stp}, Goes most s a → a ≠ [] → s + sz a ≤ most
  | s, [], _, h => absurd rfl h
  | s, [x], h, _ => by rw [sz_cons]; simpa [sz] using h.2.1
  | s, x :: y :: r, h, _ => by
    have := goes_sz h.2.2 (by simp)
    rw [sz_cons]
    omega
theorem ks_le {s : Nat} {x : Stp} (h : x.ok s = true) : x.ks ≤ 20 := by
  cases x with
  | wr w => simp [Stp.ok] at h; exact h.1.2
  | pa f l t => exact Nat.zero_le _
theorem nk_le {most : Nat} : ∀ {s : Nat} {a : List Stp}, Goes most s a → nk a ≤ 20 * a.length
  | _, [], _ => by simp [nk]
  | s, x :: r, h => by
    have h1 := ks_le h.1
    have h2 := nk_le h.2.2
    simp only [nk, List.map_cons, List.sum_cons, List.length_cons] at h2 ⊢
    omega
theorem take_succ {α : Type} {l : List α} {i : Nat} {x : α} (e : l[i]? = some x) : l.take (i + 1) = l.take i ++ [x] := by
  rw [List.take_add_one, e]
  rfl
/-! ### the keys of all places -/
def exF (E : List Nat) (n : Nat) : List Stp → List Nat
  | [] => E
  | .wr w :: r => exF (E ++ List.range' n w.length) (n + w.length) r
  | .pa f l t :: r => exF (E ++ (List.replicate t ((E.drop f).take (l + 1 - f))).flatten) n r
def ex (st : List Stp) : List Nat := exF [] 0 st
/-- one more step -/
def ex1 (E : List Nat) (n : Nat) : Stp → List Nat
  | .wr w => E ++ List.range' n w.length
  | .pa f l t => E ++ (List.replicate t ((E.drop f).take (l + 1 - f))).flatten
theorem exF_app : ∀ (E : List Nat) (n : Nat) (a b : List Stp), exF E n (a ++ b) = exF (exF E n a) (n + nk a) b
  | E, n, [], b => by simp [exF, nk]
  | E, n, .wr w :: a, b => by
    show exF _ _ (a ++ b) = _
    rw [exF_app _ _ a b]
    simp [exF, nk, Stp.ks, Nat.add_assoc]
  | E, n, .pa f l t :: a, b => by
    show exF _ _ (a ++ b) = _
    rw [exF_app _ _ a b]
    simp [exF, nk, Stp.ks]
theorem ex_snoc (st : List Stp) (x : Stp) : ex (st ++ [x]) = ex1 (ex st) (nk st) x := by
  unfold ex
  rw [exF_app, Nat.zero_add]
  cases x <;> rfl
theorem ex1_pre (E : List Nat) (n : Nat) (x : Stp) : ∃ F, ex1 E n x = E ++ F := by
  cases x <;> exact ⟨_, rfl⟩
theorem ex1_len {E : List Nat} {n : Nat} {x : Stp} (h : x.ok E.length = true) : (ex1 E n x).length = E.length + x.gr := by
  cases x with
  | wr w => simp [ex1, Stp.gr]
  | pa f l t =>
    simp [Stp.ok] at h
    have e : min (l + 1 - f) (E.length - f) = l + 1 - f := by omega
    simp [ex1, Stp.gr, e, Nat.mul_comm]
theorem ex_len {most : Nat} (st : List Stp) (h : Goes most 0 st) : (ex st).length = sz st := by
  have key : ∀ k, k ≤ st.length → (ex (st.take k)).length = sz (st.take k) := by
    intro k
    induction k with
    | zero => intro _; rfl
    | succ k ih =>
      intro hk
      have e : st[k]? = some (st[k]'(by omega)) := List.getElem?_eq_getElem (by omega)
      have ih := ih (by omega)
      obtain ⟨o, _⟩ := goes_at h e
      rw [take_succ e, ex_snoc, sz_app, ex1_len (by rw [ih]; exact o), ih, sz_cons]
      simp [sz]
  have := key st.length (Nat.le_refl _)
  rwa [List.take_length] at this
theorem goes_take {most : Nat} {st : List Stp} (h : Goes most 0 st) (k : Nat) : Goes most 0 (st.take k) := by
  rw [← List.take_append_drop k st] at h
  exact (goes_app.mp h).1
theorem exF_pre : ∀ (E : List Nat) (n : Nat) (b : List Stp), ∃ F, exF E n b = E ++ F
  | E, n, [] => ⟨[], by simp [exF]⟩
  | E, n, .wr w :: r => by
    obtain ⟨F, h⟩ := exF_pre (E ++ List.range' n w.length) (n + w.length) r
    exact ⟨_, by show exF _ _ r = _; rw [h, List.append_assoc]⟩
  | E, n, .pa f l t :: r => by
    obtain ⟨F, h⟩ := exF_pre (E ++ (List.replicate t ((E.drop f).take (l + 1 - f))).flatten) n r
    exact ⟨_, by show exF _ _ r = _; rw [h, List.append_assoc]⟩
/-- the keys ahead of a step stay -/
theorem ex_pre (a b : List Stp) : ∃ F, ex (a ++ b) = ex a ++ F := by
  unfold ex
  rw [exF_app]
  exact exF_pre _ _ b
theorem ex_at_pre {most : Nat} {st : List Stp} {k p : Nat} (h : Goes most 0 st) (hp : p < sz (st.take k)) : (ex st)[p]? = (ex (st.take k))[p]? := by
  obtain ⟨F, e⟩ := ex_pre (st.take k) (st.drop k)
  rw [List.take_append_drop] at e
  rw [e, List.getElem?_append_left (by rw [ex_len _ (goes_take h k)]; exact hp)]
/-- a place that was written -/
theorem ex_wr {most : Nat} {st : List Stp} {k p : Nat} {w : List Nat} (h : Goes most 0 st) (e : st[k]? = some (.wr w)) (h1 : sz (st.take k) ≤ p) (h2 : p < sz (st.take (k + 1))) : (ex st)[p]? = some (nk (st.take k) + (p - sz (st.take k))) := by
  rw [ex_at_pre h h2, take_succ e, ex_snoc]
  have hl := ex_len _ (goes_take h k)
  rw [take_succ e, sz_app, sz_cons] at h2
  simp [sz, Stp.gr] at h2
  have h3 : p - sz (st.take k) < w.length := by simp [sz]; simp [sz] at h1; omega
  show (ex (st.take k) ++ List.range' (nk (st.take k)) w.length)[p]? = _
  rw [List.getElem?_append_right (by rw [hl]; exact h1), hl, List.getElem?_range' h3]
  simp
theorem rep_at (seg : List Nat) : ∀ (t j : Nat), j < seg.length * t → (List.replicate t seg).flatten[j]? = seg[j % seg.length]?
  | 0, j, h => by simp at h
  | t + 1, j, h => by
    rw [List.replicate_succ, List.flatten_cons]
    by_cases hj : j < seg.length
    · rw [List.getElem?_append_left hj, Nat.mod_eq_of_lt hj]
    · have hj' : seg.length ≤ j := by omega
      have hm : j % seg.length = (j - seg.length) % seg.length := Nat.mod_eq_sub_mod hj'
      rw [List.getElem?_append_right hj', hm]
      exact rep_at seg t (j - seg.length) (by rw [Nat.mul_succ] at h; omega)
/-- a place that was pasted -/
theorem ex_pa {most : Nat} {st : List Stp} {k p f l t : Nat} (h : Goes most 0 st) (e : st[k]? = some (.pa f l t)) (h1 : sz (st.take k) ≤ p) (h2 : p < sz (st.take (k + 1))) :
    (ex st)[p]? = (ex st)[f + (p - sz (st.take k)) % (l + 1 - f)]? ∧ f + (p - sz (st.take k)) % (l + 1 - f) < sz (st.take k) := by
  obtain ⟨o, _⟩ := goes_at h e
  simp [Stp.ok] at o
  have hl := ex_len _ (goes_take h k)
  have hm : (p - sz (st.take k)) % (l + 1 - f) < l + 1 - f := Nat.mod_lt _ (by omega)
  have hlt : f + (p - sz (st.take k)) % (l + 1 - f) < sz (st.take k) := by omega
  refine ⟨?_, hlt⟩
  rw [ex_at_pre h h2, ex_at_pre (k := k) h hlt, take_succ e, ex_snoc]
  rw [take_succ e, sz_app, sz_cons] at h2
  have hz : sz ([] : List Stp) = 0 := rfl
  rw [hz, Nat.add_zero] at h2
  have hgr : (Stp.pa f l t).gr = (l + 1 - f) * t := rfl
  rw [hgr] at h2
  have hseg : (((ex (st.take k)).drop f).take (l + 1 - f)).length = l + 1 - f := by
    rw [List.length_take, List.length_drop, hl]
    omega
  show (ex (st.take k) ++ (List.replicate t (((ex (st.take k)).drop f).take (l + 1 - f))).flatten)[p]? = _
  rw [List.getElem?_append_right (by rw [hl]; exact h1), hl, rep_at _ _ _ (by rw [hseg]; omega), hseg, List.getElem?_take_of_lt hm, List.getElem?_drop]
end Pk
/-! ## Texts in the heap -/
namespace Pk
open PySem PySem.Spec PyProof.Rows L2
abbrev Fr := PySem.W.Frag
theorem same_sqT {K : Fr} {H H2 : Hp} {a : Addr} {xs : List V} (e : Same H H2) (h : SqT K H a xs) : SqT K H2 a xs := by
  rcases h with (h | ⟨o, h⟩) | h
  · exact .inl (.inl (e _ _ h))
  · exact .inl (.inr ⟨o, e _ _ h⟩)
  · exact .inr h
theorem same_upd {H : Hp} {p : Addr} {o : HO} (h : H p = none) : Same H (upd H p o) := fun b u e => by
  rw [upd_ne (ne_of_none e h)]
  exact e
/-- all but the object at r stands -/
def But (r : Addr) (H H2 : Hp) : Prop := ∀ b o, b ≠ r → H b = some o → H2 b = some o
theorem But.refl (r : Addr) (H : Hp) : But r H H := fun _ _ _ h => h
theorem But.trans {r : Addr} {H H1 H2 : Hp} (a : But r H H1) (b : But r H1 H2) : But r H H2 := fun c o n h => b c o n (a c o n h)
theorem Same.but {r : Addr} {H H1 : Hp} (a : Same H H1) : But r H H1 := fun c o _ h => a c o h
/-- the values of a step -/
def stV : Stp → List V
  | .wr w => [.str "write", .str (sL w)]
  | .pa f l t => [.str "paste", .int f, .int l, .int t]
structure StepsAt (K : Fr) (H : Hp) (as : List Addr) (st : List Stp) : Prop where
  len : as.length = st.length
  at_ : ∀ (i : Nat) (x : Stp), st[i]? = some x → ∃ a, as[i]? = some a ∧ SqT K H a (stV x)
theorem StepsAt.same {K : Fr} {H H2 : Hp} {as : List Addr} {st : List Stp} (h : StepsAt K H as st) (e : Same H H2) : StepsAt K H2 as st :=
  ⟨h.len, fun i x hx => let ⟨a, h1, h2⟩ := h.at_ i x hx; ⟨a, h1, same_sqT e h2⟩⟩
theorem StepsAt.nil {K : Fr} {H : Hp} : StepsAt K H [] [] := ⟨rfl, fun i x h => by simp at h⟩
theorem StepsAt.snoc {K : Fr} {H : Hp} {as : List Addr} {st : List Stp} {a : Addr} {x : Stp} (h : StepsAt K H as st) (ha : SqT K H a (stV x)) : StepsAt K H (as ++ [a]) (st ++ [x]) := by
  refine ⟨by simp [h.len], fun i y hy => ?_⟩
  by_cases hi : i < st.length
  · rw [List.getElem?_append_left hi] at hy
    obtain ⟨b, h1, h2⟩ := h.at_ i y hy
    exact ⟨b, by rw [List.getElem?_append_left (by rw [h.len]; exact hi)]; exact h1, h2⟩
  · rw [List.getElem?_append_right (by omega)] at hy
    have hi0 : i - st.length = 0 := by
      have := (List.getElem?_eq_some_iff.mp hy).1
      simp at this
      omega
    rw [hi0] at hy
    have e : x = y := by simpa using hy
    subst e
    exact ⟨a, by rw [List.getElem?_append_right (by rw [h.len]; omega), h.len, hi0]; rfl, ha⟩
/-- the fields of a span: where it begins, the keys ahead of it -/
def spF (x : Stp) (s n : Nat) : List (Str × V) := match x with
  | .wr w => [("begin", .int s), ("end", .int (s + w.length : Nat)), ("key", .int n), ("source", .int 0), ("width", .int 0)]
  | .pa f l t => [("begin", .int s), ("end", .int (s + (l + 1 - f) * t : Nat)), ("key", .non), ("source", .int f), ("width", .int (l + 1 - f : Nat))]
structure SpansAt (CS : Addr) (H : Hp) (ss : List Addr) (st : List Stp) : Prop where
  len : ss.length = st.length
  at_ : ∀ (i : Nat) (x : Stp), st[i]? = some x → ∃ a dx, ss[i]? = some a ∧ H a = some (.ins CS dx (spF x (sz (st.take i)) (nk (st.take i))))
theorem SpansAt.same {CS : Addr} {H H2 : Hp} {ss : List Addr} {st : List Stp} (h : SpansAt CS H ss st) (e : Same H H2) : SpansAt CS H2 ss st :=
  ⟨h.len, fun i x hx => let ⟨a, dx, h1, h2⟩ := h.at_ i x hx; ⟨a, dx, h1, e _ _ h2⟩⟩
theorem SpansAt.nil {CS : Addr} {H : Hp} : SpansAt CS H [] [] := ⟨rfl, fun i x h => by simp at h⟩
theorem SpansAt.snoc {CS : Addr} {H : Hp} {ss : List Addr} {st : List Stp} {a dx : Addr} {x : Stp} (h : SpansAt CS H ss st) (ha : H a = some (.ins CS dx (spF x (sz st) (nk st)))) : SpansAt CS H (ss ++ [a]) (st ++ [x]) := by
  refine ⟨by simp [h.len], fun i y hy => ?_⟩
  by_cases hi : i < st.length
  · rw [List.getElem?_append_left hi] at hy
    obtain ⟨b, d, h1, h2⟩ := h.at_ i y hy
    refine ⟨b, d, by rw [List.getElem?_append_left (by rw [h.len]; exact hi)]; exact h1, ?_⟩
    rw [List.take_append_of_le_length (by omega)]
    exact h2
  · rw [List.getElem?_append_right (by omega)] at hy
    have hi0 : i - st.length = 0 := by
      have := (List.getElem?_eq_some_iff.mp hy).1
      simp at this
      omega
    rw [hi0] at hy
    have e : x = y := by simpa using hy
    subst e
    have hi1 : i = st.length := by omega
    refine ⟨a, dx, by rw [List.getElem?_append_right (by rw [h.len]; omega), h.len, hi0]; rfl, ?_⟩
    rw [hi1, List.take_left]
    exact ha
/-- the fields of a text -/
def txF (ts sp : Addr) (st : List Stp) : List (Str × V) := [("_steps", .ref ts), ("spans", .ref sp), ("_size", .int (sz st)), ("_typed", .str (sL (typed st)))]
def most : Nat := 1000000000000000000
/-- the text of the steps st stands at x -/
structure TextAt (K : Fr) (CT CS : Addr) (H : Hp) (x : Addr) (st : List Stp) : Prop where
  good : Goes most 0 st
  few : st.length ≤ 30
  obj : ∃ dx ts sp as ss, H x = some (.ins CT dx (txF ts sp st)) ∧ SqT K H ts (as.map V.ref) ∧ StepsAt K H as st ∧ SqT K H sp (ss.map V.ref) ∧ SpansAt CS H ss st
theorem TextAt.same {K : Fr} {CT CS : Addr} {H H2 : Hp} {x : Addr} {st : List Stp} (h : TextAt K CT CS H x st) (e : Same H H2) : TextAt K CT CS H2 x st := by
  obtain ⟨dx, ts, sp, as, ss, h1, h2, h3, h4, h5⟩ := h.obj
  exact ⟨h.good, h.few, dx, ts, sp, as, ss, e _ _ h1, same_sqT e h2, h3.same e, same_sqT e h4, h5.same e⟩
theorem sz_most {st : List Stp} (h : Goes most 0 st) : sz st ≤ most := by
  cases st with
  | nil => exact Nat.zero_le _
  | cons x r =>
    have := goes_sz h (by simp)
    rwa [Nat.zero_add] at this
end Pk
/-! ## Comprehensions that change nothing; walks -/
namespace Pk
open PySem PySem.Spec PyProof.Rows L2
theorem walk_enumT {K : Fr} {a : Addr} {xs : List V} : Walk (IteT K a) xs.length (fun H => SqT K H a xs) (YPair (fun i => some (.int (i : Nat))) (fun i => xs[i]?)) := by
  refine ⟨fun i _ hi q => ⟨xs, xs[i], q, by simp [hi]⟩, fun _ q => ⟨xs, q, Nat.le_refl _⟩, fun i H v H2 _ q y => ?_⟩
  obtain ⟨T, x, h1, h2, h3, h4⟩ := y
  exact ⟨T, .int (i : Nat), x, h1, h2, h3, rfl, h4 xs q⟩
/-! ### rules told of K by name: for a comprehension's block -/
section
variable {X : Cx}
theorem ixT (K : Fr) (h : X.K = K := by rfl) : IxR X (rIxT K) := h ▸ ix_tup
theorem ixL (K : Fr) (h : X.K = K := by rfl) : IxR X (rIxL K) := h ▸ ix_list
theorem slL (K : Fr) (h : X.K = K := by rfl) : SlR X (rSlL K) := h ▸ sl_list
theorem slT (K : Fr) (h : X.K = K := by rfl) : SlR X (rSlT K) := h ▸ sl_tup
theorem lenQ (K : Fr) (h : X.K = K := by rfl) : CallR X (.builtin "len") (fun xs H Q => ∃ p ys, xs = [.ref p] ∧ (SqL K H p ys ∨ SqT K H p ys) ∧ Q (.int ys.length) H) := h ▸ call_len_seq
theorem fldK (K : Fr) {e : Expr} {f : Str} {ta : TE} {pos : Pos} (ha : PE X e ta) (hb : attributeBase e f X.env (eval e X.env) = eval e X.env := by rfl) (h : X.K = K := by rfl) : PE X (.Attribute e f pos) (tFld K ta f) := by
  subst h
  exact pe_fld ha hb
end
section
variable {J : It} {n : Nat} {G : Hp → Prop} {Y : Nat → Hp → V → Hp → Prop} {g : TG} {te : TE} {tt : TT} {vs : List Nat} {σ : L2.St} {H1 : Hp} {D : Addr} {Qd : Hp → Prop}
/-- the values that a comprehension keeps -/
def keeps (n : Nat) (f : Nat → Bool) (v : Nat → V) : List V := ((List.range n).filter f).map v
theorem keeps_succ (n : Nat) (f : Nat → Bool) (v : Nat → V) : keeps (n + 1) f v = if f n = true then keeps n f v ++ [v n] else keeps n f v := by
  unfold keeps
  rw [List.range_succ, List.filter_append]
  by_cases h : f n = true
  · simp [h]
  · simp [h]
theorem keeps_le (n : Nat) (f : Nat → Bool) (v : Nat → V) : (keeps n f v).length ≤ n := by
  unfold keeps
  rw [List.length_map]
  exact Nat.le_trans (List.length_filter_le _ _) (by simp)
/-- with a test -/
theorem lc_keep (wk : Walk J n G Y) (hD : H1 D = none) (f : Nat → Bool) (v : Nat → V) (hn : n ≤ sizeLine) (hG : ∀ H, Same H1 H → G H)
    (hs : ∀ i x H H2 (N : VK) (N0 : Hp → Prop), i < n → Same H1 H → Y i H x H2 → (f i = true → ∀ H5, Same H H5 → N (v i) H5) → (f i = false → ∀ H5, Same H H5 → N0 H5) →
      g x (wipe σ vs) H2 fun σ2 H3 => wipe σ2 vs = wipe σ vs ∧ tt σ2 H3 fun b H4 => if b = true then te σ2 H4 N else N0 H4)
    (hd : ∀ H, Same H1 H → H D = some (.lst (keeps n f v)) → Qd H) :
    ∃ W : Nat → Nat → Hp → Prop, (∃ m, W 0 m (upd H1 D (.lst []))) ∧ ∀ i m H, W i m H →
      (J.stop i H ∧ Qd H) ∨ (J.go i H ∧ ∃ Nx : Hp → Prop, (∀ H', Nx H' → ∃ m', m' < m ∧ W (i + 1) m' H') ∧ ∀ x H', J.yld i H x H' → g x (wipe σ vs) H' fun σ2 H2 => wipe σ2 vs = wipe σ vs ∧ tt σ2 H2 fun b H3 =>
        if b = true then te σ2 H3 fun y H4 => ∃ acc, H4 D = some (.lst acc) ∧ acc.length < sizeLine ∧ Nx (upd H4 D (.lst (acc ++ [y]))) else Nx H3) := by
  refine lc_it wk (fun i H => Same H1 H ∧ H D = some (.lst (keeps i f v))) ⟨same_upd hD, upd_same⟩ (fun i H _ p => hG H p.1) ?_ fun H p => hd H p.1 p.2
  intro i x H H2 hi p y
  obtain ⟨p1, p2⟩ := p
  refine hs i x H H2 _ _ hi p1 y (fun hb H5 s5 => ?_) fun hb H5 s5 => ?_
  · refine ⟨_, s5 _ _ p2, Nat.lt_of_le_of_lt (keeps_le i f v) (by omega), fun b o e => ?_, ?_⟩
    · by_cases hbD : b = D
      · rw [hbD, hD] at e
        cases e
      · rw [upd_ne hbD]
        exact s5 _ _ (p1 _ _ e)
    · rw [upd_same, keeps_succ, if_pos hb]
  · refine ⟨p1.trans s5, ?_⟩
    rw [s5 _ _ p2, keeps_succ, hb]
    rfl
/-- without a test -/
theorem lc_map (wk : Walk J n G Y) (hD : H1 D = none) (v : Nat → V) (hn : n ≤ sizeLine) (hG : ∀ H, Same H1 H → G H)
    (hs : ∀ i x H H2 (N : VK), i < n → Same H1 H → Y i H x H2 → (∀ H5, Same H H5 → N (v i) H5) → g x (wipe σ vs) H2 fun σ2 H3 => wipe σ2 vs = wipe σ vs ∧ te σ2 H3 N)
    (hd : ∀ H, Same H1 H → H D = some (.lst ((List.range n).map v)) → Qd H) :
    ∃ W : Nat → Nat → Hp → Prop, (∃ m, W 0 m (upd H1 D (.lst []))) ∧ ∀ i m H, W i m H →
      (J.stop i H ∧ Qd H) ∨ (J.go i H ∧ ∃ Nx : Hp → Prop, (∀ H', Nx H' → ∃ m', m' < m ∧ W (i + 1) m' H') ∧ ∀ x H', J.yld i H x H' → g x (wipe σ vs) H' fun σ2 H2 => wipe σ2 vs = wipe σ vs ∧ tYes σ2 H2 fun b H3 =>
        if b = true then te σ2 H3 fun y H4 => ∃ acc, H4 D = some (.lst acc) ∧ acc.length < sizeLine ∧ Nx (upd H4 D (.lst (acc ++ [y]))) else Nx H3) := by
  refine lc_it wk (fun i H => Same H1 H ∧ H D = some (.lst ((List.range i).map v))) ⟨same_upd hD, upd_same⟩ (fun i H _ p => hG H p.1) ?_ fun H p => hd H p.1 p.2
  intro i x H H2 hi p y
  obtain ⟨p1, p2⟩ := p
  refine hs i x H H2 (fun y H4 => ∃ acc, H4 D = some (.lst acc) ∧ acc.length < sizeLine ∧ _) hi p1 y fun H5 s5 => ?_
  refine ⟨_, s5 _ _ p2, by rw [List.length_map, List.length_range]; omega, fun b o e => ?_, ?_⟩
  · by_cases hbD : b = D
    · rw [hbD, hD] at e
      cases e
    · rw [upd_ne hbD]
      exact s5 _ _ (p1 _ _ e)
  · rw [upd_same, List.range_succ, List.map_append]
    rfl
end
end Pk
namespace Pk
open PySem PySem.Spec PyProof.Rows L2
def tCO (C : Addr) (sp : Sp) (tf : TE) (t : TA) : TE := fun σ H Q => tf σ H fun y H1 => ∃ a, y = V.ref a ∧ t σ H1 fun vs H2 => (∃ dx fs, H2 a = some (.ins C dx fs)) ∧ sp (V.ref a :: vs) H2 Q E0
theorem pk_callO {X : Cx} {k : Nat} {C g : Addr} {sp : Sp} {fe e : Expr} {es : List Expr} {tf : TE} {t : TA} {pos : Pos} (hf : PE X fe tf) (c : StX.CallO X.K C g) (G : Kp X.prog X.w X.K X.mg X.base k g sp) (hr : Room k X.A) (ha : PA X (e :: es) t)
    (ht : eval (.Call fe (e :: es) [] pos) X.env = (do callWith pos (← eval fe X.env) [] (backTo pos (starEach (e :: es) X.env)) (backToKw pos (keywordEach [] X.env))) := by rfl)
    (he : starEach (e :: es) X.env = (false, eval e X.env) :: starEach es X.env := by rfl) (hpl : (backTo pos (starEach es X.env)).any (·.1) = false := by rfl) : PE X (.Call fe (e :: es) [] pos) (tCO C sp tf t) := ⟨fun pins s σ H Q I h => by
  refine Call_ (thn (hf.run pins s σ H _ I h) fun u s1 k1 => ?_) ht
  obtain ⟨y, H1, I1, ry, a, ey, q⟩ := k1
  subst ey
  obtain rfl : u = Value.ref a := ry
  refine StX.callO_with (thn (ha.run pos pins s1 σ H1 _ I1 q) fun us s2 k2 => ?_) he hpl
  obtain ⟨vs, H2, I2, r, hi, q2⟩ := k2
  obtain ⟨ox, od, J, hd⟩ := StX.insC_at I2 (.inr hi)
  exact ⟨⟨C, ox, od, J, hd⟩, StX.run_callO c G.fnR hr pass0 I2 (.inr hi) r q2⟩⟩
theorem vals_idx : ∀ (xs : List V) (us : List Value), xs.length = us.length → (∀ (j : Nat) x u, xs[j]? = some x → us[j]? = some u → RelV x u) → Vals xs us
  | [], [], _, _ => .nil
  | [], _ :: _, h, _ => by cases h
  | _ :: _, [], h, _ => by cases h
  | x :: xs, u :: us, h, k => .cons (k 0 x u rfl rfl) (vals_idx xs us (by simpa using h) fun j y v hy hv => k (j + 1) y v hy hv)
/-- list(s), s a text -/
def rListS : List V → Hp → VK → Prop := fun xs H Q => ∃ z : Str, xs = [.str z] ∧ z.length ≤ sizeLine ∧ ∀ l, H l = none → Q (.ref l) (upd H l (.lst (z.cps.toList.map fun c => V.str ⟨#[c]⟩)))
theorem call_listS {X : Cx} (hc : X.calm = true) : CallR X (.type "list") rListS := by
  intro pins s σ H xs us Q I r h
  obtain ⟨z, rfl, hz, q⟩ := h
  obtain ⟨u, rfl, t, rfl⟩ := vals1 r
  refine call_list_str (I.ok.hd hc) z t (fun h1 tk acc c1 hk e hi => ?_) (by rw [sizeLine_eq] at *; exact hz)
  refine ⟨.ref s.heap.objs.size, upd H s.heap.objs.size (.lst (z.cps.toList.map fun c => V.str ⟨#[c]⟩)), I.laid hk (Nat.le_refl _) (show ObjOk X.prog X.w _ _ _ (.lst _) from ⟨?_, acc.toList, c1, ?_, ?_⟩), rfl, q _ (I.hok.fresh (Nat.le_refl _))⟩
  · rw [List.length_map]
    exact hz
  · obtain ⟨h1, h2⟩ := hi
    refine vals_idx _ _ (by simp [h1]) fun j x u hx hu => ?_
    obtain ⟨c, t2, hc2, rfl⟩ := h2 j u (by rw [← hu, Array.getElem?_toList])
    rw [List.getElem?_map, Array.getElem?_toList, hc2] at hx
    cases hx
    exact ⟨t2, rfl⟩
  · rw [Array.toArray_toList]
    exact e
end Pk
namespace Pk
open PySem PySem.W PySem.Calls PyProof.Rows He He5
/-- what isinstance of the class itself asks, beyond its class facts -/
def insB (K : Frag) (C : Addr) : Bool := eqO (findIn K (.ref C) "__class__") (some (some (.builtin "object.__class__"))) && (eqO (specialIn K (.builtin "object.__class__") "__get__") (some (some (.builtin "getset_descriptor.__get__"))) &&
  (decide (takesIn K (.builtin "object.__class__") = some true) && (decide (mroIn K C (.type "object") = some true) && decide (kitOne K (.ref C) (.ref C) = some true))))
theorem ins_ok {K : Frag} {C : Addr} (c : L2.Cls K C) (h : insB K C = true) : C8.InsC K C := by
  obtain ⟨h1, h⟩ := ba h
  obtain ⟨h2, h⟩ := ba h
  obtain ⟨h3, h⟩ := ba h
  obtain ⟨h4, h5⟩ := ba h
  exact ⟨c, eqO_ok h1, eqO_ok h2, of_decide_eq_true h3, of_decide_eq_true h4, of_decide_eq_true h5⟩
end Pk
namespace Pk
open PySem PySem.W PySem.Calls PyProof.Rows He He5
/-- isinstance of the class: of a tuple it says no -/
def insTB (K : Frag) (C : Addr) : Bool := decide (kitOne K (.type "tuple") (.ref C) = some false)
end Pk
/-! ## a[i], x in a, a == b, a != b of an own class -/
namespace Pk
open PySem PySem.Spec PyProof.Rows L2
section
variable {X : Cx} {CX : CXT} {k : Nat} {C f : Addr} {sp : Sp} {E : XK}
theorem pe_getO {a b : Expr} {ta tb : TE} {pos : Pos} (hs : OpF X.K C "__getitem__" f) (F : FnR X.prog X.w X.K X.mg X.base CX k f sp) (hr : Room (k + 1) X.A) (hx : Passes CX X E) (ha : PE X a ta) (hb : PE X b tb)
    (hsl : ∀ o i, subscripted b true o i = runValue (.builtin "lifetime.subscript" ⟨[o, i], []⟩) := by intro _ _; rfl) : PE X (.Subscript a b pos) (tOp (rGetO C sp E) ta tb) := ⟨fun pins s σ H Q I h => by
  refine Subscript_ (binT ha hb I h fun v u s2 x y H2 I2 rx ry q => ?_)
  obtain ⟨a0, da, fa, ex, hA, q⟩ := q
  subst ex
  cases rx
  obtain ⟨mA, O, _⟩ := ins_get I2.hok hA
  obtain ⟨oa, JA, _⟩ := O.look
  obtain ⟨m, hF⟩ := I2.fr
  exact PySem.W.sub_K hF I2.ok.mod.kin JA hs.at_ hs.fi hs.fn (wpAny_call (codeAny_mono (SlX.run_at (us := [.ref a0, u]) (ws := [V.ref a0, y]) F hr.in1 I2.env0.in1 hx I2 (.cons rfl (.cons ry .nil)) q) fun r s3 hq => by
    cases r with
    | error e => exact hq
    | ok fl => cases fl with
      | ret w => exact hq
      | _ => exact hq.elim)) (hsl _ _)⟩
theorem op_inO (hs : OpF X.K C "__contains__" f) (F : FnR X.prog X.w X.K X.mg X.base CX k f sp) (hr : Room k X.A) (hx : Passes CX X E) : OpR X (compareOp .In) (rInO C sp E) := by
  intro pins s σ H x y v u Q I rx ry ⟨a, da, fa, ey, hA, q⟩
  subst ey
  cases ry
  obtain ⟨mA, O, _⟩ := ins_get I.hok hA
  obtain ⟨oa, JA, _⟩ := O.look
  obtain ⟨m, hF⟩ := I.fr
  refine PySem.W.in_K hF I.ok.mod.kin JA hs.at_ hs.fn (wpAny_call (codeAny_mono (run_fnR (us := [.ref a, v]) (vs := [V.ref a, x]) F hr hx I (.cons rfl (.cons rx .nil)) q) fun r s3 hq => ?_))
  cases r with
  | error e => exact hq
  | ok fl => cases fl with
    | ret w =>
      obtain ⟨z, H3, I3, rz, b, eb, q3⟩ := hq
      subst eb
      cases rz
      exact wpAny_truthy_bool ⟨.bl b, H3, I3, rfl, q3⟩
    | _ => exact hq.elim
/-- a == y: y of the class too, or a tuple -/
def rEqO (K : PySem.W.Frag) (C : Addr) (sp : Sp) (E : XK) : R2 := fun x y H Q => ∃ a da fa, x = .ref a ∧ H a = some (.ins C da fa) ∧ ((∃ b db fb, y = .ref b ∧ H b = some (.ins C db fb)) ∨ ∃ t xs, y = .ref t ∧ SqT K H t xs ∧ PySem.W.subIn K (.type "tuple") (.ref C) = some false) ∧ sp [x, y] H Q E
theorem looks_ty {h : Heap} {M : Model} {b : Addr} {o : Obj} {t : Value} (e : h.get? b = some o) (c : o.cls = t) : PySem.W.Looks M h (typeOf (.ref b)) t := fun A Q E s k q => wpAny_typeOf_ref (k _ _ e) (by rw [c]; exact q)
theorem op_eqO (hs : OpF X.K C "__eq__" f) (F : FnR X.prog X.w X.K X.mg X.base CX k f sp) (hr : Room k X.A) (hx : Passes CX X E) : OpR X (compareOp .Eq) (rEqO X.K C sp E) := by
  intro pins s σ H x y v u Q I rx ry ⟨a, da, fa, ex, hA, hy, q⟩
  subst ex
  cases rx
  obtain ⟨mA, O, _⟩ := ins_get I.hok hA
  obtain ⟨oa, JA, _⟩ := O.look
  obtain ⟨m, hF⟩ := I.fr
  have hu : X.A.units < cLine := by have := hr.units; omega
  have run : wpAny (model X.prog X.w) X.A (call (.ref f) [.ref a, u]) (PySem.W.CmpBack (EP X pins σ Q)) X.xe s := wpAny_call (codeAny_mono (run_fnR (us := [.ref a, u]) (vs := [V.ref a, y]) F hr hx I (.cons rfl (.cons ry .nil)) q) fun r s3 hq => by
    cases r with
    | error e => exact hq
    | ok fl => cases fl with
      | ret w => exact cmp_back hq
      | _ => exact hq.elim)
  show wpAny _ _ (richCompare .Eq (.ref a) u) _ _ _
  rcases hy with ⟨b, db, fb, ey, hB⟩ | ⟨t, xs, ey, hT, hsub⟩
  · subst ey
    cases ry
    obtain ⟨mB, O2, _⟩ := ins_get I.hok hB
    obtain ⟨ob, JB, _⟩ := O2.look
    exact PySem.W.cmp_K (op := .Eq) hu hF I.ok.mod.kin JA JB.type (by unfold PySem.W.notFirst; simp) hs.at_ hs.fn run
  · subst ey
    cases ry
    obtain ⟨its, rv, ⟨o, ho, hc, _⟩, _⟩ := I.tuple hT
    exact PySem.W.cmp_K (op := .Eq) hu hF I.ok.mod.kin JA (looks_ty ho hc) (by unfold PySem.W.notFirst; rw [hsub]; simp) hs.at_ hs.fn run
end
end Pk
/-! ## a != b: the class has __eq__ alone -/
namespace Pk
open PySem PySem.Spec PyProof.Rows L2
/-- a built-in slot, asked for if it is bound -/
theorem bound_b {M : Model} {A : Around} {E : Value → Shared → Prop} {s : Shared} {me : Value} {nm : PySem.Str} {id : String} {rest : List Value} {Q : Option Value → Shared → Prop} (sp : PySem.W.Looks M s.heap (specialOf me nm) (some (.builtin id)))
    (hb : bindSpecial (.builtin id) me = pure (.builtin id, [me])) (hc : wpAny M A (call (.builtin id) (me :: rest)) (fun v => Q (some v)) E s) : wpAny M A (callSpecialIfBound? me nm rest) Q E s := by
  simp only [callSpecialIfBound?, bindSpecialIfBound?]
  refine wpAny_holding (wpAny_bind (wpAny_bind (sp.here ?_)))
  simp only [hb]
  refine wpAny_bind (wpAny_askSetting (wpAny_ite ?_))
  have fin : wpAny M A (call (.builtin id) ([me] ++ rest) >>= fun v => pure (some v)) Q E s := wpAny_bind (wpAny_mono hc (fun v s2 z => wpAny_pure z) fun _ _ z => z)
  split
  · exact wpAny_bind (wpAny_pure (wpAny_pure fin))
  · exact wpAny_tryCatch (wpAny_bind (wpAny_pure (wpAny_pure fin)))
section
variable {prog : Program} {w : World} {A : Around} {E : Value → Shared → Prop} {s : Shared} {K : PySem.W.Frag} {x y C f : Addr} {ox oy : Obj} {od od2 : Option Obj} {h0 : Heap} {L : Addr}
theorem ne_entry {Q : PySem.Fin → Shared → Prop} (X : K.In s.heap) (J : PySem.W.InstAt s.heap x ox C od) (hs : OpF K C "__eq__" f) (hu : A.units < cLine)
    (hc : wpAny (model prog w) A (call (.ref f) [.ref x, .ref y]) (fun v s2 => ∃ b, v = .bool b ∧ Q (.done (.ret (.bool (!b)))) s2) E s) : wpAny (model prog w) A (Builtin.«object.__ne__» ⟨[.ref x, .ref y], []⟩) Q E s := by
  obtain ⟨hp, g, d, tk, os⟩ := s
  unfold Builtin.«object.__ne__»
  repeat (first
    | with_reducible refine wpAny_cRoomFor hu ?_
    | (refine wpAny_bind (m := callSpecialIfBound? (.ref x) (Str.ofString "__eq__") [.ref y])
        (PySem.W.ifBound_K X J hs.at_ hs.fn (wpAny_mono hc (fun r s2 z => by
          obtain ⟨b, rfl, q⟩ := z
          repeat (first | exact q | exact wpAny_pure q | exact wpAny_truthy_bool q | (refine wpAny_bind (m := truthy (.bool _)) (wpAny_truthy_bool ?_)) | wp_step)) fun _ _ z => z)))
    | wp_step)
end
/-- a != b, both of the class -/
def rNeO (C : Addr) (sp : Sp) (E : XK) : R2 := fun x y H Q => ∃ a b da fa db fb, x = .ref a ∧ y = .ref b ∧ H a = some (.ins C da fa) ∧ H b = some (.ins C db fb) ∧ sp [x, y] H (fun v H2 => ∃ r, v = .bl r ∧ Q (.bl (!r)) H2) E
section
variable {X : Cx} {CX : CXT} {k : Nat} {C f : Addr} {sp : Sp} {E : XK}
theorem op_neO (hs : OpF X.K C "__eq__" f) (hne : PySem.W.findIn X.K (.ref C) "__ne__" = some (some (.builtin "object.__ne__"))) (hm : PySem.W.mroIn X.K C (.type "object") = some true) (F : FnR X.prog X.w X.K X.mg X.base CX k f sp) (hr : Room (k + 1) X.A) (hx : Passes CX X E) : OpR X (compareOp .NotEq) (rNeO C sp E) := by
  intro pins s σ H x y v u Q I rx ry ⟨a, b, da, fa, db, fb, ex, ey, hA, hB, q⟩
  subst ex ey
  cases rx
  cases ry
  obtain ⟨mA, O, _⟩ := ins_get I.hok hA
  obtain ⟨oa, JA, _⟩ := O.look
  obtain ⟨mB, O2, _⟩ := ins_get I.hok hB
  obtain ⟨ob, JB, _⟩ := O2.look
  have XK := I.kIn
  have hu : X.A.units + 1 < cLine := by have := hr.units; omega
  have run : wpAny (model X.prog X.w) X.A.in1 (call (.ref f) [.ref a, .ref b]) (fun v s2 => ∃ r, v = .bool r ∧ EP X pins σ Q (.bool (!r)) s2) X.xe s := wpAny_call (codeAny_mono (SlX.run_at (us := [.ref a, .ref b]) (ws := [V.ref a, V.ref b]) F hr.in1 I.env0.in1 hx I (.cons rfl (.cons rfl .nil)) q) fun r s3 hq => by
    cases r with
    | error e => exact hq
    | ok fl => cases fl with
      | ret w =>
        obtain ⟨z, H3, I3, rz, r, er, q3⟩ := hq
        subst er
        cases rz
        exact ⟨r, rfl, .bl (!r), H3, I3, rfl, q3⟩
      | _ => exact hq.elim)
  have sub : PySem.W.Looks (model X.prog X.w) s.heap (isInstance (.ref a) (.type "object")) true := JA.type.andThen (PySem.W.looks_mroIn XK hm)
  have spl : PySem.W.Looks (model X.prog X.w) s.heap (specialOf (.ref a) "__ne__") (some (.builtin "object.__ne__")) := JA.type.andThen (PySem.W.looks_findIn XK hne)
  have one : wpAny (model X.prog X.w) X.A (tryCompare (.ref a) "__ne__" (.ref b)) (fun r s2 => ∃ v, r = some v ∧ EP X pins σ Q v s2) X.xe s := by
    unfold tryCompare
    refine wpAny_bind (bound_b spl (PySem.F.slot_object_ne.bind _) (wpAny_call (codeAny_call_builtin PySem.F.slot_object_ne.plain PySem.F.cmpEntry_ne (PySem.W.check_slot PySem.F.cmpKind_ne PySem.F.cmpSplit_ne sub (PySem.F.cmpArgs_ne _ _)
      (ne_entry XK JA hs (show X.A.in1.units < cLine from hu) (wpAny_mono run (fun v s2 z => ?_) fun _ _ z => z))))))
    obtain ⟨r, rfl, q2⟩ := z
    refine ⟨r, rfl, ?_⟩
    exact wpAny_pure ⟨_, rfl, q2⟩
  show wpAny _ _ (richCompare .NotEq (.ref a) (.ref b)) _ _ _
  unfold richCompare
  simp only [oneThing_ref]
  refine wpAny_holding (wpAny_bind (wpAny_cRoomFor (Nat.lt_of_succ_lt hu) ?_))
  rw [cmpInfo_NotEq]
  dsimp only
  refine wpAny_bind (JA.type.here (wpAny_bind (JB.type.here ?_)))
  rw [show (Value.ref C != Value.ref C) = false from by simp]
  simp only [Bool.false_eq_true, if_false]
  refine wpAny_bind (wpAny_pure ?_)
  simp only [Bool.false_eq_true, if_false]
  refine wpAny_bind (wpAny_mono one (fun r s2 z => ?_) fun _ _ z => z)
  obtain ⟨v, rfl, q2⟩ := z
  exact wpAny_pure q2
end
end Pk
/-! ## t[::-1], t a tuple -/
namespace Pk
open PySem PySem.Spec PyProof.Rows L2
theorem adjust_back (n : Nat) : Builtin.Slice.sliceAdjust none none (-1) (n : Int) = ((n : Int) - 1, -1) := by
  unfold Builtin.Slice.sliceAdjust
  simp
theorem places_back (n : Nat) : Builtin.Slice.slicePlaces ((n : Int) - 1) (-1) (-1) = n := by
  unfold Builtin.Slice.slicePlaces
  simp
  omega
theorem fm_congr {α β : Type} {f g : α → Option β} : ∀ {l : List α}, (∀ x ∈ l, f x = g x) → l.filterMap f = l.filterMap g
  | [], _ => rfl
  | a :: r, h => by
    rw [List.filterMap_cons, List.filterMap_cons, h a List.mem_cons_self, fm_congr fun x hx => h x (List.mem_cons_of_mem _ hx)]
theorem pick_back (xs : List Value) : ((List.range xs.length).filterMap fun (m : Nat) => xs.toArray[(((xs.length : Int) - 1) + (m : Int) * (-1)).toNat]?) = xs.reverse := by
  have e : ∀ m ∈ List.range xs.length, xs.toArray[(((xs.length : Int) - 1) + (m : Int) * (-1)).toNat]? = xs.reverse[m]? := fun m hm => by
    rw [List.mem_range] at hm
    have h : (((xs.length : Int) - 1) + (m : Int) * (-1)).toNat = xs.length - 1 - m := by omega
    rw [h, List.getElem?_reverse hm]
    simp
  rw [fm_congr e]
  have hl : xs.length = xs.reverse.length := List.length_reverse.symm
  rw [hl]
  generalize xs.reverse = ys
  refine List.ext_getElem? fun i => ?_
  induction ys generalizing i with
  | nil => rfl
  | cons y r ih =>
    rw [List.length_cons, List.range_succ_eq_map, List.filterMap_cons]
    simp only [List.getElem?_cons_zero, List.filterMap_map]
    cases i with
    | zero => rfl
    | succ i =>
      rw [List.getElem?_cons_succ, List.getElem?_cons_succ]
      exact ih i
section
variable {prog : Program} {w : World} {A : Around} {E : Value → Shared → Prop} {s : Shared}
theorem tuple_back {t sl : Addr} {items : List Value} {vl vu vs : Value} {Q : Value → Shared → Prop} (ht : IsTup s.heap t items.toArray) (hs : s.heap.IsSliceOf sl vl vu vs) (pl : IsPart vl none) (pu : IsPart vu none) (ps : IsPart vs (some (-1)))
    (h : Q (.ref s.heap.objs.size) { s with heap := s.heap.push { cls := .type "tuple", data := .seq items.reverse.toArray } }) (hsz : items.length ≤ sizeLine) : wpAny (model prog w) A (getItem (.ref t) (.ref sl)) Q E s := by
  have hok : sizeOk (.seq items.reverse.toArray) := by
    show items.reverse.toArray.size ≤ sizeLine
    rw [List.size_toArray, List.length_reverse]
    exact hsz
  obtain ⟨os, hos, hcs, hds⟩ := id hs
  have isl : s.TypeIs (.ref sl) "slice" := ⟨os, hos, hcs⟩
  unfold getItem
  try with_reducible refine wpAny_holding ?_
  first | refine wpAny_bind (wpAny_pure ?_) | skip
  refine wpAny_bind (wpAny_sequenceKey ht.typeIs (by decide) ?_)
  refine wpAny_bind (wpAny_callSpecial?_slot (name := Str.ofString "__getitem__") ht.typeIs PyProof.Rows.slot_tuple_getitem (wpAny_call_entry PyProof.Rows.slot_tuple_getitem ht.typeIs entry_tuple_getitem ?_ (args_tuple_getitem _ _)))
  change wpAny _ _ (Builtin.Tuple.tupleItemsOf (Value.ref t) >>= _) _ _ s
  refine wpAny_bind (tupleItemsOf_ ht ?_)
  refine wpAny_bind (wpAny_typeOf isl ?_)
  rw [if_pos (by decide)]
  have app : ∀ {R : Int × Int × Nat → Shared → Prop}, R ((items.length : Int) - 1, -1, items.length) s → wpAny (model prog w) A.in1 (Builtin.Slice.sliceApplied (.ref sl) (pure (items.toArray.size : Int))) R E s := fun {R} q => by
    unfold Builtin.Slice.sliceApplied Builtin.Slice.sliceFields
    refine wpAny_bind (wpAny_bind (wpAny_field hos hds (x := vl) rfl (wpAny_bind (wpAny_field hos hds (x := vu) rfl (wpAny_bind (wpAny_field hos hds (x := vs) rfl (wpAny_pure ?_)))))))
    refine wpAny_bind (HT.slicePart_ ps ?_)
    change wpAny _ _ (if ((-1 : Int) == 0) = true then _ else _) _ _ s
    rw [if_neg (by decide)]
    refine wpAny_bind (HT.slicePart_ pl (wpAny_bind (HT.slicePart_ pu (wpAny_bind (wpAny_pure ?_)))))
    change wpAny _ _ (match Builtin.Slice.sliceAdjust none none (-1) (items.toArray.size : Int) with | (lo, hi) => pure (lo, (-1 : Int), Builtin.Slice.slicePlaces lo hi (-1))) _ _ s
    rw [List.size_toArray, adjust_back]
    change wpAny _ _ (pure ((items.length : Int) - 1, (-1 : Int), Builtin.Slice.slicePlaces ((items.length : Int) - 1) (-1) (-1))) _ _ s
    rw [places_back]
    exact wpAny_pure q
  refine wpAny_bind (app ?_)
  have no : ¬ ((((items.length : Int) - 1) == 0 && (-1 : Int) == 1 && items.length == items.toArray.size) = true) := by
    intro q
    rw [Bool.and_eq_true, Bool.and_eq_true] at q
    exact absurd q.1.2 (by decide)
  change wpAny _ _ (if (((items.length : Int) - 1) == 0 && (-1 : Int) == 1 && items.length == items.toArray.size) = true then _ else _) _ _ s
  rw [if_neg no, pick_back]
  first
    | exact wpAny_bind (m := Builtin.Tuple.tupleExact _) (wpAny_newObj_type (wpAny_pure ⟨_, rfl, wpAny_pure h⟩) hok)
    | exact wpAny_bind (m := Builtin.Tuple.tupleExact _) (wpAny_newObj_type (wpAny_bind (wpAny_pure (wpAny_pure ⟨_, rfl, wpAny_pure h⟩))) hok)
    | exact wpAny_bind (wpAny_bind (m := Builtin.Tuple.tupleExact _) (wpAny_newObj_type (wpAny_pure (wpAny_pure ⟨_, rfl, wpAny_pure h⟩)) hok))
    | exact wpAny_bind (wpAny_bind (m := Builtin.Tuple.tupleExact _) (wpAny_newObj_type (wpAny_pure ⟨_, rfl, wpAny_pure h⟩) hok))
end
def tRevT (K : PySem.W.Frag) (te : TE) : TE := fun σ H Q => te σ H fun x H1 => ∃ a xs, x = .ref a ∧ SqT K H1 a xs ∧ ∀ p, H1 p = none → Q (.ref p) (upd H1 p (.tup xs.reverse))
theorem pe_revT {X : Cx} {e : Expr} {te : TE} {k : Nat} {p1 p2 p3 pos : Pos} (he : PE X e te) : PE X (.Subscript e (.Slice none none (some (.UnaryOp .USub (.Constant (.int 1) k p1) p2)) p3) pos) (tRevT X.K te) := ⟨fun pins s σ H Q I h => by
  refine Subscript_ (thn (he.run pins s σ H _ I h) fun v s1 k1 => ?_)
  obtain ⟨x, H1, I1, r1, a, xs, ex, hx, q⟩ := k1
  subst ex
  cases r1
  have hst : PO X (some (.UnaryOp .USub (.Constant (.int 1) k p1) p2)) (tPart (tUn (rU fun i => .int (-i)) (tC (.int 1)))) := po_some (pe_un un_neg pe_int)
  refine wpAny_Slice (thn (po_none.run pins s1 σ H1 (fun o H2 => o = none ∧ H2 = H1) I1 ⟨rfl, rfl⟩) fun vl s2 k2 => ?_)
  obtain ⟨l, H2, I2, pl, el, e2⟩ := k2
  subst el e2
  refine thn (po_none.run pins s2 σ H2 (fun o H3 => o = none ∧ H3 = H2) I2 ⟨rfl, rfl⟩) fun vu s3 k3 => ?_
  obtain ⟨u, H3, I3, pu, eu, e3⟩ := k3
  subst eu e3
  refine thn (hst.run pins s3 σ H3 (fun o H4 => o = some (-1) ∧ H4 = H3) I3 ⟨1, rfl, -1, rfl, rfl, rfl⟩) fun vs s4 k4 => ?_
  obtain ⟨o, H4, I4, ps, eo, e4⟩ := k4
  subst eo e4
  have I5 : Inv X pins σ H4 { s4 with heap := s4.heap.push { cls := .type "slice", data := .fields #[vl, vu, vs] } } := I4.kept (t' := s4.toks) fun b ob q => Heap.get?_push_of_some _ q
  obtain ⟨its, r, ht, hz⟩ := I5.tuple hx
  have hlen := r.length
  change wpAny (model X.prog X.w) X.A (subscriptTail e (.Slice none none (some (.UnaryOp .USub (.Constant (.int 1) k p1) p2)) p3) (.ref a) (.ref s4.heap.objs.size)) (EP X pins σ Q) X.xe { s4 with heap := s4.heap.push { cls := .type "slice", data := .fields #[vl, vu, vs] } }
  refine tail_any (ops := [.ref a, .ref s4.heap.objs.size]) ht.typeIs (PyProof.Rows.slot_tuple_getitem.lookup) ?_ (by with_unfolding_all rfl)
  refine tuple_back ht (Heap.IsSliceOf.new _ vl vu vs) pl pu ps ?_ (by omega)
  refine ⟨.ref _, _, I5.laid (t' := s4.toks) (o := .tup xs.reverse) (fun b ob q => Heap.get?_push_of_some _ q) (Nat.le_refl _) ?_, rfl, q _ (I5.hok.fresh (Nat.le_refl _))⟩
  exact ⟨by rw [List.length_reverse]; exact hz, _, r.reverse, IsTup.new _ _⟩⟩
end Pk
/-! ## xs[i] += e, a list, i from 0 -/
namespace Pk
open PySem PySem.Spec PyProof.Rows L2
def rGetL (K : PySem.W.Frag) : V → V → Hp → VK → Prop := fun o i H Q => ∃ (p : Addr) (xs : List V) (n : Nat) (z : V), o = .ref p ∧ i = .int (n : Nat) ∧ SqL K H p xs ∧ xs[n]? = some z ∧ Q z H
theorem get_listP {X : Cx} : PGet X (rGetL X.K) := by
  intro pins s σ H o i ov iv Q I ro ri h
  obtain ⟨p, xs, n, z, rfl, rfl, hq, he, q⟩ := h
  cases ro
  obtain ⟨t, rfl⟩ := ri
  obtain ⟨its, r, pl, hz⟩ := I.list hq
  obtain ⟨u, hu, ru⟩ := r.get he
  have hl := r.length
  have hn := line63
  have fin : EP X pins σ Q u s := ⟨z, H, I, ru, q⟩
  have hlt : n < its.length := (List.getElem?_eq_some_iff.mp hu).1
  exact wpAny_getItem_list pl.isList (by omega) (by omega) (by simpa using hu) fin
end Pk
/-! ## Numbers that stand in the order in which they come first -/
namespace Pk
open PySem L2
def InOrd : Nat → List Nat → Prop
  | _, [] => True
  | n, k :: r => k ≤ n ∧ InOrd (if k = n then n + 1 else n) r
def fin : Nat → List Nat → Nat
  | n, [] => n
  | n, k :: r => fin (if k = n then n + 1 else n) r
theorem fin_app : ∀ (n : Nat) (a b : List Nat), fin n (a ++ b) = fin (fin n a) b
  | _, [], _ => rfl
  | n, k :: r, b => fin_app _ r b
theorem inOrd_app : ∀ {n : Nat} {a b : List Nat}, InOrd n a → InOrd (fin n a) b → InOrd n (a ++ b)
  | _, [], _, _, h => h
  | n, k :: r, b, h, h2 => ⟨h.1, inOrd_app h.2 h2⟩
theorem inOrd_left : ∀ {n : Nat} {a b : List Nat}, InOrd n (a ++ b) → InOrd n a ∧ InOrd (fin n a) b
  | _, [], _, h => ⟨trivial, h⟩
  | n, k :: r, b, h => let ⟨h1, h2⟩ := inOrd_left (a := r) h.2; ⟨⟨h.1, h1⟩, h2⟩
theorem ord_range : ∀ (m n : Nat), InOrd n (List.range' n m) ∧ fin n (List.range' n m) = n + m
  | 0, n => ⟨trivial, rfl⟩
  | m + 1, n => by
    obtain ⟨h1, h2⟩ := ord_range m (n + 1)
    rw [List.range'_succ]
    refine ⟨⟨Nat.le_refl _, ?_⟩, ?_⟩
    · rw [if_pos rfl]
      exact h1
    · show fin (if n = n then n + 1 else n) _ = _
      rw [if_pos rfl, h2]
      omega
theorem ord_lt : ∀ {n : Nat} {l : List Nat}, (∀ k ∈ l, k < n) → InOrd n l ∧ fin n l = n
  | _, [], _ => ⟨trivial, rfl⟩
  | n, k :: r, h => by
    have h0 := h k (List.mem_cons_self)
    obtain ⟨h1, h2⟩ := ord_lt (l := r) fun j hj => h j (List.mem_cons_of_mem _ hj)
    have e : (if k = n then n + 1 else n) = n := if_neg (by omega)
    refine ⟨⟨by omega, ?_⟩, ?_⟩
    · rw [e]
      exact h1
    · show fin (if k = n then n + 1 else n) r = n
      rw [e]
      exact h2
theorem exF_ord : ∀ (st : List Stp) (E : List Nat) (n : Nat), InOrd 0 E → fin 0 E = n → (∀ k ∈ E, k < n) → InOrd 0 (exF E n st) ∧ fin 0 (exF E n st) = n + nk st ∧ ∀ k ∈ exF E n st, k < n + nk st
  | [], E, n, h1, h2, h3 => ⟨h1, h2, h3⟩
  | .wr w :: r, E, n, h1, h2, h3 => by
    obtain ⟨g1, g2⟩ := ord_range w.length n
    have e : n + nk (.wr w :: r) = (n + w.length) + nk r := by simp [nk, Stp.ks]; omega
    rw [e]
    refine exF_ord r _ _ (inOrd_app h1 (by rw [h2]; exact g1)) (by rw [fin_app, h2, g2]) fun k hk => ?_
    rcases List.mem_append.mp hk with h | h
    · have := h3 k h
      omega
    · rw [List.mem_range'_1] at h
      omega
  | .pa f l t :: r, E, n, h1, h2, h3 => by
    have e : n + nk (.pa f l t :: r) = n + nk r := by simp [nk, Stp.ks]
    rw [e]
    have hl : ∀ k ∈ (List.replicate t ((E.drop f).take (l + 1 - f))).flatten, k < n := fun k hk => by
      obtain ⟨s, hs, hk⟩ := List.mem_flatten.mp hk
      rw [List.eq_of_mem_replicate hs] at hk
      exact h3 k (List.mem_of_mem_drop (List.mem_of_mem_take hk))
    obtain ⟨g1, g2⟩ := ord_lt hl
    refine exF_ord r _ _ (inOrd_app h1 (by rw [h2]; exact g1)) (by rw [fin_app, h2, g2]) fun k hk => ?_
    rcases List.mem_append.mp hk with h | h
    · exact h3 k h
    · exact hl k h
theorem ex_ord (st : List Stp) : InOrd 0 (ex st) := (exF_ord st [] 0 trivial rfl (fun k h => by simp at h)).1
theorem ex_fin (st : List Stp) : fin 0 (ex st) = nk st := by
  have := (exF_ord st [] 0 trivial rfl (fun k h => by simp at h)).2.1
  rwa [Nat.zero_add] at this
theorem ex_lt (st : List Stp) : ∀ k ∈ ex st, k < nk st := by
  have := (exF_ord st [] 0 trivial rfl (fun k h => by simp at h)).2.2
  intro k hk
  have := this k hk
  omega
theorem fin_le : ∀ (n : Nat) (l : List Nat), n ≤ fin n l
  | n, [] => Nat.le_refl _
  | n, k :: r => by
    show n ≤ fin (if k = n then n + 1 else n) r
    refine Nat.le_trans ?_ (fin_le _ r)
    split <;> omega
theorem fin_mem : ∀ {n : Nat} {l : List Nat}, n < fin n l → fin n l - 1 ∈ l
  | n, [], h => absurd h (Nat.lt_irrefl _)
  | n, k :: r, h => by
    by_cases e : k = n
    · have e2 : fin n (k :: r) = fin (n + 1) r := by
        show fin (if k = n then n + 1 else n) r = _
        rw [if_pos e]
      rw [e2] at h ⊢
      by_cases h2 : n + 1 < fin (n + 1) r
      · exact List.mem_cons_of_mem _ (fin_mem h2)
      · have : fin (n + 1) r = n + 1 := by have := fin_le (n + 1) r; omega
        rw [this, ← e]
        exact List.mem_cons_self
    · have e2 : fin n (k :: r) = fin n r := by
        show fin (if k = n then n + 1 else n) r = _
        rw [if_neg e]
      rw [e2] at h ⊢
      exact List.mem_cons_of_mem _ (fin_mem h)
/-- after the first i numbers: what comes next is at most what was seen -/
theorem ord_at {n : Nat} {l : List Nat} {i k : Nat} (h : InOrd n l) (e : l[i]? = some k) : k ≤ fin n (l.take i) ∧ fin n (l.take (i + 1)) = if k = fin n (l.take i) then fin n (l.take i) + 1 else fin n (l.take i) := by
  have hlt : i < l.length := (List.getElem?_eq_some_iff.mp e).1
  have hx : l.drop i = k :: l.drop (i + 1) := by
    rw [List.drop_eq_getElem_cons hlt]
    have := (List.getElem?_eq_some_iff.mp e).2
    rw [this]
  have h2 := (inOrd_left (a := l.take i) (b := l.drop i) (by rw [List.take_append_drop]; exact h)).2
  rw [hx] at h2
  refine ⟨h2.1, ?_⟩
  rw [take_succ e, fin_app]
  rfl
theorem fin_take_le {n : Nat} (l : List Nat) (i : Nat) : fin n (l.take i) ≤ fin n l := by
  have := fin_app n (l.take i) (l.drop i)
  rw [List.take_append_drop] at this
  rw [this]
  exact fin_le _ _
theorem fin_len : ∀ (n : Nat) (l : List Nat), fin n l ≤ n + l.length
  | n, [] => Nat.le_refl _
  | n, k :: r => by
    have := fin_len (if k = n then n + 1 else n) r
    show fin (if k = n then n + 1 else n) r ≤ _
    rw [List.length_cons]
    split at this <;> split <;> omega
/-- numbers that come in order are below what was seen -/
theorem ord_all_lt {l : List Nat} {k : Nat} (h : InOrd 0 l) (hk : k ∈ l) : k < fin 0 l := by
  obtain ⟨i, hi, rfl⟩ := List.mem_iff_getElem.mp hk
  obtain ⟨h1, h2⟩ := ord_at h (List.getElem?_eq_getElem hi)
  have h3 := fin_take_le (n := 0) l (i + 1)
  rw [h2] at h3
  split at h3 <;> omega
end Pk
/-! ## How often a key stands before a place -/
namespace Pk
open PySem L2
def cnt (st : List Stp) (k p : Nat) : Nat := ((ex st).take p).count k
theorem cnt_zero (st : List Stp) (k : Nat) : cnt st k 0 = 0 := rfl
theorem cnt_mono (st : List Stp) (k : Nat) {p q : Nat} (h : p ≤ q) : cnt st k p ≤ cnt st k q := by
  unfold cnt
  exact List.Sublist.count_le _ (List.take_sublist_take_left h)
/-- repeated parts -/
theorem rep_take (seg : List Nat) : ∀ (t m : Nat), m ≤ seg.length * t → (List.replicate t seg).flatten.take m = (List.replicate (m / seg.length) seg).flatten ++ seg.take (m % seg.length)
  | 0, m, h => by
    have hm : m = 0 := by simpa using h
    subst hm
    simp
  | t + 1, m, h => by
    rcases Nat.eq_zero_or_pos seg.length with h0 | h0
    · have : seg = [] := List.length_eq_zero_iff.mp h0
      subst this
      simp
    by_cases hm : m < seg.length
    · rw [List.replicate_succ, List.flatten_cons, List.take_append_of_le_length (by omega), Nat.div_eq_of_lt hm, Nat.mod_eq_of_lt hm]
      simp
    · have hm2 : seg.length ≤ m := by omega
      have e1 : m / seg.length = (m - seg.length) / seg.length + 1 := by
        rw [Nat.div_eq_sub_div h0 hm2]
      have e2 : m % seg.length = (m - seg.length) % seg.length := Nat.mod_eq_sub_mod hm2
      have ih := rep_take seg t (m - seg.length) (by rw [Nat.mul_succ] at h; omega)
      rw [e1, e2, List.replicate_succ, List.flatten_cons, List.take_append, List.take_of_length_le hm2, ih, List.replicate_succ, List.flatten_cons, List.append_assoc]
theorem rep_count (k : Nat) (seg : List Nat) (n : Nat) : ((List.replicate n seg).flatten).count k = n * seg.count k := by
  induction n with
  | zero => simp
  | succ n ih =>
    rw [List.replicate_succ, List.flatten_cons, List.count_append, ih, Nat.succ_mul]
    omega
theorem part_count (E : List Nat) (k f m : Nat) : ((E.drop f).take m).count k = (E.take (f + m)).count k - (E.take f).count k := by
  have e : E.take (f + m) = E.take f ++ (E.drop f).take m := List.take_add
  rw [e, List.count_append]
  omega
/-- the whole is the part ahead of a step, then what the step adds -/
theorem ex_split {most : Nat} {st : List Stp} {i : Nat} {x : Stp} (h : Goes most 0 st) (e : st[i]? = some x) : ∃ A F, ex st = ex (st.take i) ++ (A ++ F) ∧ ex1 (ex (st.take i)) (nk (st.take i)) x = ex (st.take i) ++ A ∧ A.length = x.gr ∧ (ex (st.take i)).length = sz (st.take i) := by
  have hl := ex_len _ (goes_take h i)
  obtain ⟨ok, _⟩ := goes_at h e
  obtain ⟨A, hA⟩ := ex1_pre (ex (st.take i)) (nk (st.take i)) x
  obtain ⟨F, hF⟩ := ex_pre (st.take (i + 1)) (st.drop (i + 1))
  rw [List.take_append_drop, take_succ e, ex_snoc, hA] at hF
  have hlen := ex1_len (E := ex (st.take i)) (n := nk (st.take i)) (x := x) (by rw [hl]; exact ok)
  rw [hA, List.length_append] at hlen
  exact ⟨A, F, by rw [hF, List.append_assoc], hA, by omega, hl⟩
theorem range_count (k : Nat) : ∀ (m n : Nat), (List.range' n m).count k = if n ≤ k ∧ k < n + m then 1 else 0
  | 0, n => by
    rw [if_neg (by omega)]
    rfl
  | m + 1, n => by
    rw [List.range'_succ, List.count_cons, range_count k m (n + 1)]
    have e : (if (n == k) = true then 1 else 0) = if n = k then 1 else 0 := by simp
    rw [e]
    split <;> split <;> split <;> omega
theorem cnt_wr {most : Nat} {st : List Stp} {i : Nat} {w : List Nat} (h : Goes most 0 st) (e : st[i]? = some (.wr w)) (k m : Nat) (hm : m ≤ w.length) :
    cnt st k (sz (st.take i) + m) = cnt st k (sz (st.take i)) + if nk (st.take i) ≤ k ∧ k < nk (st.take i) + m then 1 else 0 := by
  obtain ⟨A, F, h1, h2, h3, h4⟩ := ex_split h e
  have hA : A = List.range' (nk (st.take i)) w.length := (List.append_cancel_left h2).symm
  unfold cnt
  rw [h1, ← h4, List.take_length_add_append, List.take_left, List.count_append, List.take_append_of_le_length (by rw [h3]; exact hm), hA]
  congr 1
  have e3 : (List.range' (nk (st.take i)) w.length).take m = List.range' (nk (st.take i)) m := by
    refine List.ext_getElem (by simp; omega) fun j h1 h2 => ?_
    simp
  rw [e3]
  exact range_count k m _
theorem cnt_pa {most : Nat} {st : List Stp} {i f l t : Nat} (h : Goes most 0 st) (e : st[i]? = some (.pa f l t)) (k m : Nat) (hm : m ≤ (l + 1 - f) * t) :
    cnt st k (sz (st.take i) + m) = cnt st k (sz (st.take i)) + (m / (l + 1 - f)) * (cnt st k (l + 1) - cnt st k f) + (cnt st k (f + m % (l + 1 - f)) - cnt st k f) := by
  obtain ⟨A, F, h1, h2, h3, h4⟩ := ex_split h e
  obtain ⟨ok, _⟩ := goes_at h e
  simp [Stp.ok] at ok
  have hA : A = (List.replicate t (((ex (st.take i)).drop f).take (l + 1 - f))).flatten := (List.append_cancel_left h2).symm
  have hseg : (((ex (st.take i)).drop f).take (l + 1 - f)).length = l + 1 - f := by
    rw [List.length_take, List.length_drop, h4]
    omega
  have low : ∀ q, q ≤ sz (st.take i) → (ex st).take q = (ex (st.take i)).take q := fun q hq => by
    rw [h1, List.take_append_of_le_length (by omega)]
  have hmod : m % (l + 1 - f) < l + 1 - f := Nat.mod_lt _ (by omega)
  unfold cnt
  rw [low (l + 1) (by omega), low f (by omega), low (f + m % (l + 1 - f)) (by omega)]
  rw [h1, ← h4, List.take_length_add_append, List.take_left, List.count_append, List.take_append_of_le_length (by rw [h3]; exact hm), hA, rep_take _ _ _ (by rw [hseg]; exact hm), hseg, List.count_append, rep_count, part_count, List.take_take, Nat.min_eq_left (by omega), part_count]
  rw [show f + (l + 1 - f) = l + 1 by omega]
  omega
/-- behind the end of a text nothing more stands -/
theorem cnt_all {most : Nat} {st : List Stp} (h : Goes most 0 st) (k : Nat) {p : Nat} (hp : sz st ≤ p) : cnt st k p = (ex st).count k := by
  unfold cnt
  rw [List.take_of_length_le (by rw [ex_len _ h]; exact hp)]
end Pk
/-! ## Weights at places -/
namespace Pk
open PySem L2
abbrev WL := List (Nat × Int)
def kvW (W : WL) : List (Key × V) := W.map fun p => ((.inl (p.1 : Int) : Key), V.int p.2)
def val (st : List Stp) (k : Nat) (W : WL) : Int := (W.map fun p => p.2 * (cnt st k p.1 : Int)).sum
def addW : WL → Nat → Int → WL
  | [], p, w => [(p, w)]
  | q :: r, p, w => if q.1 = p then (q.1, q.2 + w) :: r else q :: addW r p w
def dropW (W : WL) (p : Nat) : WL := W.filter fun q => decide (q.1 ≠ p)
def getW : WL → Nat → Int
  | [], _ => 0
  | q :: r, p => if q.1 = p then q.2 else getW r p
theorem val_cons (st : List Stp) (k : Nat) (q : Nat × Int) (W : WL) : val st k (q :: W) = q.2 * (cnt st k q.1 : Int) + val st k W := by simp [val]
theorem val_add (st : List Stp) (k p : Nat) (w : Int) : ∀ W : WL, val st k (addW W p w) = val st k W + w * (cnt st k p : Int)
  | [] => by simp [addW, val]
  | q :: r => by
    unfold addW
    by_cases h : q.1 = p
    · rw [if_pos h, val_cons, val_cons]
      simp only [h]
      rw [Int.add_mul]
      omega
    · rw [if_neg h, val_cons, val_cons, val_add st k p w r]
      omega
theorem keys_add (p : Nat) (w : Int) : ∀ {W : WL} {q : Nat}, q ∈ (addW W p w).map (·.1) ↔ q ∈ W.map (·.1) ∨ q = p
  | [], q => by simp [addW]
  | a :: r, q => by
    unfold addW
    by_cases h : a.1 = p
    · rw [if_pos h]
      simp only [List.map_cons, List.mem_cons]
      constructor
      · intro z
        exact .inl z
      · rintro (z | z)
        · exact z
        · exact .inl (by rw [z, h])
    · rw [if_neg h]
      simp only [List.map_cons, List.mem_cons, keys_add p w (W := r)]
      constructor
      · rintro (z | z | z)
        · exact .inl (.inl z)
        · exact .inl (.inr z)
        · exact .inr z
      · rintro ((z | z) | z)
        · exact .inl z
        · exact .inr (.inl z)
        · exact .inr (.inr z)
theorem nodup_add (p : Nat) (w : Int) : ∀ {W : WL}, (W.map (·.1)).Nodup → ((addW W p w).map (·.1)).Nodup
  | [], _ => by simp [addW]
  | a :: r, h => by
    unfold addW
    rw [List.map_cons, List.nodup_cons] at h
    by_cases e : a.1 = p
    · rw [if_pos e, List.map_cons, List.nodup_cons]
      exact h
    · rw [if_neg e, List.map_cons, List.nodup_cons]
      refine ⟨fun z => ?_, nodup_add p w h.2⟩
      rcases (keys_add p w).mp z with z | z
      · exact h.1 z
      · exact e z
theorem len_add (p : Nat) (w : Int) : ∀ W : WL, (addW W p w).length ≤ W.length + 1
  | [] => by simp [addW]
  | a :: r => by
    unfold addW
    have := len_add p w r
    split <;> simp <;> omega
theorem drop_out {p : Nat} : ∀ {W : WL}, p ∉ W.map (·.1) → dropW W p = W
  | [], _ => rfl
  | a :: r, h => by
    simp only [List.map_cons, List.mem_cons, not_or] at h
    show (a :: r).filter _ = _
    rw [List.filter_cons, if_pos (decide_eq_true (Ne.symm h.1))]
    exact congrArg (a :: ·) (drop_out h.2)
theorem val_drop (st : List Stp) (k p : Nat) : ∀ {W : WL}, (W.map (·.1)).Nodup → val st k (dropW W p) = val st k W - getW W p * (cnt st k p : Int)
  | [], _ => by simp [dropW, val, getW]
  | a :: r, h => by
    rw [List.map_cons, List.nodup_cons] at h
    unfold getW
    by_cases e : a.1 = p
    · rw [if_pos e]
      have hd : dropW (a :: r) p = r := by
        show (a :: r).filter _ = _
        rw [List.filter_cons, if_neg (by simp [e])]
        exact drop_out (W := r) (by rw [← e]; exact h.1)
      rw [hd, val_cons, e]
      omega
    · rw [if_neg e]
      have hd : dropW (a :: r) p = a :: dropW r p := by
        show (a :: r).filter _ = _
        rw [List.filter_cons, if_pos (by simp [e])]
        rfl
      rw [hd, val_cons, val_cons, val_drop st k p h.2]
      omega
theorem keys_drop {W : WL} {p q : Nat} : q ∈ (dropW W p).map (·.1) ↔ q ∈ W.map (·.1) ∧ q ≠ p := by
  unfold dropW
  constructor
  · intro h
    obtain ⟨a, ha, rfl⟩ := List.mem_map.mp h
    rw [List.mem_filter] at ha
    exact ⟨List.mem_map.mpr ⟨a, ha.1, rfl⟩, of_decide_eq_true ha.2⟩
  · rintro ⟨h, hne⟩
    obtain ⟨a, ha, rfl⟩ := List.mem_map.mp h
    exact List.mem_map.mpr ⟨a, List.mem_filter.mpr ⟨ha, decide_eq_true hne⟩, rfl⟩
theorem nodup_drop {W : WL} (p : Nat) (h : (W.map (·.1)).Nodup) : ((dropW W p).map (·.1)).Nodup := by
  unfold dropW
  exact List.Sublist.nodup (List.filter_sublist.map _) h
/-! ### as dicts -/
theorem valV_kv (p : Nat) : ∀ W : WL, (valV (kvW W) (.inl (p : Int))).getD (.int 0) = .int (getW W p)
  | [] => rfl
  | a :: r => by
    unfold getW
    by_cases e : a.1 = p
    · rw [if_pos e]
      show (valV (((.inl (a.1 : Int) : Key), V.int a.2) :: kvW r) _).getD _ = _
      rw [valV_pos (by simp [e])]
      rfl
    · rw [if_neg e]
      show (valV (((.inl (a.1 : Int) : Key), V.int a.2) :: kvW r) _).getD _ = _
      rw [valV_neg (by simp; omega)]
      exact valV_kv p r
theorem valV_in {p : Nat} : ∀ {W : WL}, p ∈ W.map (·.1) → valV (kvW W) (.inl (p : Int)) = some (.int (getW W p))
  | [], h => by simp at h
  | a :: r, h => by
    unfold getW
    by_cases e : a.1 = p
    · rw [if_pos e]
      show valV (((.inl (a.1 : Int) : Key), V.int a.2) :: kvW r) _ = _
      rw [valV_pos (by simp [e])]
    · rw [if_neg e]
      show valV (((.inl (a.1 : Int) : Key), V.int a.2) :: kvW r) _ = _
      rw [valV_neg (by simp; omega)]
      refine valV_in ?_
      simp only [List.map_cons, List.mem_cons] at h
      exact h.resolve_left (Ne.symm e)
theorem dropK_kv (W : WL) (p : Nat) : dropK (kvW W) (.inl (p : Int)) = kvW (dropW W p) := by
  unfold dropK kvW dropW
  rw [List.filter_map]
  congr 1
  refine List.filter_congr fun a _ => ?_
  simp
  omega
theorem any_kv (W : WL) (p : Nat) : ((kvW W).any fun kv => decide (kv.1 = .inl (p : Int))) = decide (p ∈ W.map (·.1)) := by
  rw [Bool.eq_iff_iff, List.any_eq_true, decide_eq_true_iff]
  constructor
  · rintro ⟨x, hx, e⟩
    obtain ⟨a, ha, rfl⟩ := List.mem_map.mp hx
    have e := of_decide_eq_true e
    simp at e
    exact List.mem_map.mpr ⟨a, ha, by omega⟩
  · intro h
    obtain ⟨a, ha, e⟩ := List.mem_map.mp h
    exact ⟨_, List.mem_map.mpr ⟨a, ha, rfl⟩, by simp [e]⟩
theorem addW_in {p : Nat} {w : Int} : ∀ {W : WL}, (W.map (·.1)).Nodup → p ∈ W.map (·.1) → addW W p w = W.map fun q => if q.1 = p then (q.1, getW W p + w) else q
  | [], _, h => by simp at h
  | a :: r, hn, h => by
    rw [List.map_cons, List.nodup_cons] at hn
    unfold addW getW
    by_cases e : a.1 = p
    · rw [if_pos e, List.map_cons, if_pos e, if_pos e]
      congr 1
      refine (List.map_id r).symm.trans (List.map_congr_left fun q hq => ?_)
      have : q.1 ≠ p := fun z => hn.1 (List.mem_map.mpr ⟨q, hq, by rw [z, e]⟩)
      rw [if_neg this]
      rfl
    · simp only [List.map_cons, List.mem_cons] at h
      rw [if_neg e, List.map_cons, if_neg e, if_neg e, addW_in hn.2 (h.resolve_left (Ne.symm e))]
theorem addW_out {p : Nat} {w : Int} : ∀ {W : WL}, p ∉ W.map (·.1) → addW W p w = W ++ [(p, w)]
  | [], _ => rfl
  | a :: r, h => by
    simp only [List.map_cons, List.mem_cons, not_or] at h
    unfold addW
    rw [if_neg (Ne.symm h.1), addW_out h.2]
    rfl
theorem getW_out {p : Nat} : ∀ {W : WL}, p ∉ W.map (·.1) → getW W p = 0
  | [], _ => rfl
  | a :: r, h => by
    simp only [List.map_cons, List.mem_cons, not_or] at h
    unfold getW
    rw [if_neg (Ne.symm h.1), getW_out h.2]
theorem putK_kv {W : WL} (p : Nat) (w : Int) (hn : (W.map (·.1)).Nodup) : putK (kvW W) (.inl (p : Int)) (.int (getW W p + w)) = kvW (addW W p w) := by
  unfold putK
  rw [any_kv]
  by_cases h : p ∈ W.map (·.1)
  · rw [decide_eq_true h, if_pos rfl, addW_in hn h]
    unfold kvW
    rw [List.map_map, List.map_map]
    refine List.map_congr_left fun q _ => ?_
    simp only [Function.comp]
    by_cases e : q.1 = p
    · rw [if_pos (by simp [e]), if_pos e]
    · rw [if_neg (by simp; omega), if_neg e]
  · rw [decide_eq_false h, if_neg (by decide), addW_out h, getW_out h, Int.zero_add]
    simp [kvW]
end Pk
namespace Pk
open PySem L2
theorem val_zero (st : List Stp) (k : Nat) : ∀ {W : WL}, (∀ q ∈ W.map (·.1), q = 0) → val st k W = 0
  | [], _ => rfl
  | a :: r, h => by
    rw [val_cons, val_zero st k fun q hq => h q (List.mem_cons_of_mem _ hq), h a.1 List.mem_cons_self, cnt_zero]
    simp
theorem nodup_len : ∀ (M : Nat) {l : List Nat}, l.Nodup → (∀ q ∈ l, q < M) → l.length ≤ M
  | 0, l, _, h => by
    cases l with
    | nil => exact Nat.le_refl _
    | cons a r => exact absurd (h a List.mem_cons_self) (by omega)
  | M + 1, l, hn, h => by
    have h1 := nodup_len M (l := l.filter fun q => decide (q ≠ M)) (List.Sublist.nodup List.filter_sublist hn) fun q hq => by
      rw [List.mem_filter] at hq
      have h2 := h q hq.1
      have h3 : q ≠ M := of_decide_eq_true hq.2
      omega
    have h4 : l.length ≤ (l.filter fun q => decide (q ≠ M)).length + 1 := by
      clear h1 h
      induction l with
      | nil => simp
      | cons a r ih =>
        rw [List.nodup_cons] at hn
        by_cases e : a = M
        · have : r.filter (fun q => decide (q ≠ M)) = r := List.filter_eq_self.mpr fun q hq => decide_eq_true fun z => hn.1 (by rw [e, ← z]; exact hq)
          rw [List.filter_cons, if_neg (by simp [e]), this]
          exact Nat.le_refl _
        · rw [List.filter_cons, if_pos (by simp [e]), List.length_cons, List.length_cons]
          have := ih hn.2
          omega
    omega
theorem nodup_sub : ∀ {l m : List Nat}, l.Nodup → (∀ q ∈ l, q ∈ m) → l.length ≤ m.length
  | [], _, _, _ => Nat.zero_le _
  | a :: r, m, hn, h => by
    rw [List.nodup_cons] at hn
    have ha : a ∈ m := h a List.mem_cons_self
    have ih := nodup_sub (l := r) (m := m.erase a) hn.2 fun q hq => by
      have hqa : q ≠ a := fun z => hn.1 (by rw [← z]; exact hq)
      exact (List.mem_erase_of_ne hqa).mpr (h q (List.mem_cons_of_mem _ hq))
    have hl := List.length_erase_of_mem ha
    have hp : 0 < m.length := List.length_pos_of_mem ha
    rw [List.length_cons]
    omega
theorem filter_two (l : List Nat) (p : Nat → Bool) : (l.filter p).length + (l.filter fun q => !p q).length = l.length := by
  induction l with
  | nil => rfl
  | cons a r ih =>
    rw [List.filter_cons, List.filter_cons]
    cases h : p a <;> simp <;> omega
theorem keeps_filter (l : List Nat) (p : Nat → Bool) (g : Nat → V) : keeps l.length (fun i => p (l.getD i 0)) (fun i => g (l.getD i 0)) = (l.filter p).map g := by
  unfold keeps
  have h : ∀ m, m ≤ l.length → ((List.range m).filter fun i => p (l.getD i 0)).map (fun i => g (l.getD i 0)) = ((l.take m).filter p).map g := by
    intro m
    induction m with
    | zero => intro _; simp
    | succ m ih =>
      intro hm
      have e : l[m]? = some (l[m]'(by omega)) := List.getElem?_eq_getElem (by omega)
      have e2 : l.getD m 0 = l[m]'(by omega) := by rw [List.getD_eq_getElem?_getD, e]; rfl
      rw [List.range_succ, List.filter_append, List.map_append, ih (by omega), take_succ e, List.filter_append, List.map_append]
      congr 1
      rw [List.filter_cons, List.filter_cons, e2]
      split
      · show [g (l.getD m 0)] = [g (l[m]'(by omega))]
        rw [e2]
      · rfl
  have := h l.length (Nat.le_refl _)
  rwa [List.take_length] at this
/-- what a step of the walk back does to the weights: a written span -/
theorem val_wr {st : List Stp} {i : Nat} {w : List Nat} (h : Goes most 0 st) (e : st[i]? = some (.wr w)) {W : WL} (hn : (W.map (·.1)).Nodup) {p m : Nat} (hp : p = sz (st.take i) + m) (hm : m ≤ w.length) (k : Nat) :
    val st k (addW (dropW W p) (sz (st.take i)) (getW W p)) + (if nk (st.take i) ≤ k ∧ k < nk (st.take i) + m then getW W p else 0) = val st k W := by
  rw [val_add, val_drop st k p hn, hp, cnt_wr h e k m hm]
  split <;> simp only [Int.natCast_add, Int.mul_add, Int.natCast_one, Int.mul_one, Int.natCast_zero, Int.mul_zero] <;> omega
theorem val_pa {st : List Stp} {i f l t : Nat} (h : Goes most 0 st) (e : st[i]? = some (.pa f l t)) {W : WL} (hn : (W.map (·.1)).Nodup) {p m : Nat} (hp : p = sz (st.take i) + m) (hm : m ≤ (l + 1 - f) * t) (k : Nat) :
    val st k (addW (addW (addW (addW (dropW W p) (sz (st.take i)) (getW W p)) (l + 1) (((m / (l + 1 - f) : Nat) : Int) * getW W p)) (f + m % (l + 1 - f)) (getW W p)) f (-(((m / (l + 1 - f) : Nat) : Int) + 1) * getW W p)) = val st k W := by
  obtain ⟨ok, _⟩ := goes_at h e
  simp [Stp.ok] at ok
  have h1 := cnt_mono st k (show f ≤ l + 1 by omega)
  have h2 := cnt_mono st k (show f ≤ f + m % (l + 1 - f) by omega)
  rw [val_add, val_add, val_add, val_add, val_drop st k p hn, hp, cnt_pa h e k m hm]
  generalize cnt st k (l + 1) = A at *
  generalize cnt st k f = F at *
  generalize cnt st k (f + m % (l + 1 - f)) = B at *
  generalize cnt st k (sz (st.take i)) = S at *
  generalize m / (l + 1 - f) = c at *
  generalize getW W (sz (st.take i) + m) = x at *
  obtain ⟨a, rfl⟩ : ∃ a, A = F + a := ⟨A - F, by omega⟩
  obtain ⟨b, rfl⟩ : ∃ b, B = F + b := ⟨B - F, by omega⟩
  rw [Nat.add_sub_cancel_left, Nat.add_sub_cancel_left]
  simp only [Int.natCast_add, Int.natCast_mul, Int.mul_add, Int.add_mul, Int.neg_mul, Int.one_mul, Int.mul_assoc, Int.neg_add]
  have e1 : x * ((c : Int) * (a : Int)) = (c : Int) * (x * (a : Int)) := by rw [← Int.mul_assoc, Int.mul_comm x, Int.mul_assoc]
  rw [e1]
  omega
end Pk
namespace Pk
open PySem L2
def cV (N : Nat) (g : Nat → Int) : List V := (List.range N).map fun k => V.int (g k)
theorem cV_len (N : Nat) (g : Nat → Int) : (cV N g).length = N := by simp [cV]
theorem cV_get {N n : Nat} (g : Nat → Int) (h : n < N) : (cV N g)[n]? = some (V.int (g n)) := by simp [cV, h]
theorem cV_set {N j : Nat} (g : Nat → Int) (z : Int) : (cV N g).set j (V.int z) = cV N fun k => if k = j then z else g k := by
  refine List.ext_getElem? fun i => ?_
  rw [List.getElem?_set, cV_len]
  by_cases e : j = i
  · subst e
    rw [if_pos rfl]
    by_cases h : j < N
    · rw [if_pos h, cV_get _ h, if_pos rfl]
    · rw [if_neg h, List.getElem?_eq_none (by rw [cV_len]; omega)]
  · rw [if_neg e]
    by_cases h : i < N
    · rw [cV_get _ h, cV_get _ h, if_neg (Ne.symm e)]
    · rw [List.getElem?_eq_none (by rw [cV_len]; omega), List.getElem?_eq_none (by rw [cV_len]; omega)]
theorem cV_congr {N : Nat} {g h : Nat → Int} (e : ∀ k, k < N → g k = h k) : cV N g = cV N h := by
  unfold cV
  refine List.map_congr_left fun k hk => ?_
  rw [e k (List.mem_range.mp hk)]
theorem rev_at {α : Type} {l : List α} {j : Nat} {x : α} (h : l.reverse[j]? = some x) : j < l.length ∧ l[l.length - 1 - j]? = some x := by
  have hj : j < l.length := by
    have := (List.getElem?_eq_some_iff.mp h).1
    rwa [List.length_reverse] at this
  rw [List.getElem?_reverse hj] at h
  exact ⟨hj, h⟩
end Pk
/-! ## Often wanted: divmod of great numbers, tests, heaps -/
namespace Pk
open PySem PySem.Spec PyProof.Rows L2
theorem b_divmod : bootBuiltins "divmod" = some (.builtin "divmod") := by decide +kernel
theorem divp {i j : Int} (h : 0 < j) (hj : j < 18446744073709551616) : CDivP i j := by
  refine ⟨h, PyProof.noPylong_of_log2 ?_⟩
  exact Nat.lt_of_lt_of_le (PySem.Flt.log2_lt_of (k := 64) (by decide) (by omega)) (by decide)
/-! ### tests -/
theorem iT {b : Bool} {A B : Prop} (h : b = true) (a : A) : if b = true then A else B := by rw [if_pos h]; exact a
theorem iF {b : Bool} {A B : Prop} (h : b = false) (a : B) : if b = true then A else B := by rw [h]; exact iteF a
theorem iB {P A B : Prop} [Decidable P] (h1 : P → A) (h2 : ¬ P → B) : if decide P = true then A else B := by
  by_cases h : P
  · rw [decide_eq_true h]; exact iteT (h1 h)
  · rw [decide_eq_false h]; exact iteF (h2 h)
theorem iBn {P A B : Prop} [Decidable P] (h1 : ¬ P → A) (h2 : P → B) : if (!decide P) = true then A else B := by
  by_cases h : P
  · rw [decide_eq_true h]; exact iteF (h2 h)
  · rw [decide_eq_false h]; exact iteT (h1 h)
theorem dT {P : Prop} [Decidable P] (h : P) : decide P = true := decide_eq_true h
theorem dF {P : Prop} [Decidable P] (h : ¬ P) : decide P = false := decide_eq_false h
theorem nT {b : Bool} (h : b = false) : (!b) = true := by rw [h]; rfl
theorem nF {b : Bool} (h : b = true) : (!b) = false := by rw [h]; rfl
theorem vT {i j : Int} (h : i = j) : decide (V.int i = V.int j) = true := decide_eq_true (by rw [h])
theorem vF {i j : Int} (h : ¬ i = j) : decide (V.int i = V.int j) = false := decide_eq_false (fun z => h (by injection z))
theorem sT {i j : Str} (h : i = j) : decide (V.str i = V.str j) = true := decide_eq_true (by rw [h])
theorem sF {i j : Str} (h : ¬ i = j) : decide (V.str i = V.str j) = false := decide_eq_false (fun z => h (by injection z))
theorem iV {i j : Int} {A B : Prop} (h1 : i = j → A) (h2 : ¬ i = j → B) : if decide (V.int i = V.int j) = true then A else B := iB (fun e => h1 (by injection e)) fun e => h2 fun z => e (by rw [z])
theorem iVn {i j : Int} {A B : Prop} (h1 : ¬ i = j → A) (h2 : i = j → B) : if (!decide (V.int i = V.int j)) = true then A else B := iBn (fun e => h1 fun z => e (by rw [z])) fun e => h2 (by injection e)
theorem andT {a b : Bool} (h1 : a = true) (h2 : b = true) : (a && b) = true := by rw [h1, h2]; rfl
theorem andF1 {a b : Bool} (h1 : a = false) : (a && b) = false := by rw [h1]; rfl
theorem andF2 {a b : Bool} (h1 : b = false) : (a && b) = false := by rw [h1, Bool.and_false]
/-! ### heaps -/
theorem but_refl {r : Addr} {H : Hp} : But r H H := But.refl r H
/-- an object of one's own, new since H, is stored again -/
theorem same_own {H H1 : Hp} {p : Addr} {o : HO} (s : Same H H1) (h : H p = none) : Same H (upd H1 p o) := fun b u e => by
  rw [upd_ne (ne_of_none e h)]
  exact s _ _ e
theorem but_new {r : Addr} {H H1 H2 : Hp} (s : Same H H1) (b : But r H1 H2) (n : H r = none) : Same H H2 := fun q o e => b _ _ (ne_of_none e n) (s _ _ e)
theorem but_own {r : Addr} {H H1 : Hp} {p : Addr} {o : HO} (s : But r H H1) (h : H p = none) : But r H (upd H1 p o) := fun b u n e => by
  rw [upd_ne (ne_of_none e h)]
  exact s _ _ n e
theorem but_set {r : Addr} {H H1 : Hp} {o : HO} (s : But r H H1) : But r H (upd H1 r o) := fun b u n e => by
  rw [upd_ne n]
  exact s _ _ n e
theorem at_upd {H : Hp} {p q : Addr} {o u : HO} (n : p ≠ q) (h : H p = some o) : upd H q u p = some o := by rw [upd_ne n]; exact h
theorem qInt {Q : VK} {H : Hp} {i j : Int} (h : Q (.int i) H) (e : i = j) : Q (.int j) H := e ▸ h
theorem qBl {Q : VK} {H : Hp} {i j : Bool} (h : Q (.bl i) H) (e : i = j) : Q (.bl j) H := e ▸ h
theorem qStr {Q : VK} {H : Hp} {i j : Str} (h : Q (.str i) H) (e : i = j) : Q (.str j) H := e ▸ h
theorem lst_eq {H : Hp} {p : Addr} {a b : List V} (h : H p = some (.lst a)) (e : a = b) : H p = some (.lst b) := e ▸ h
theorem tup_eq {H : Hp} {p : Addr} {a b : List V} (h : H p = some (.tup a)) (e : a = b) : H p = some (.tup b) := e ▸ h
theorem small_ok {n : Nat} (h : n ≤ 16000000) : n ≤ sizeLine := Nat.le_trans h (by decide)
theorem small_lt {n : Nat} (h : n ≤ 16000000) : n < sizeLine := Nat.lt_of_le_of_lt h (by decide)
end Pk
/-! ## Rules for values of several kinds at once, told of K by name -/
namespace Pk
open PySem PySem.Spec PyProof.Rows L2
section
variable {X : Cx}
theorem SlR.or {r r' : V → Option Int → Option Int → Hp → VK → Prop} (h : SlR X r) (h' : SlR X r') : SlR X (fun x l u H Q => r x l u H Q ∨ r' x l u H Q) := by
  intro pins s σ H x v vl vu lo hi sl Q I rx hs pl pu q
  rcases q with q | q
  · exact h pins s σ H x v vl vu lo hi sl Q I rx hs pl pu q
  · exact h' pins s σ H x v vl vu lo hi sl Q I rx hs pl pu q
def rAddS : R2 := fun x y H Q => ∃ i j, x = .str i ∧ y = .str j ∧ i.length + j.length ≤ sizeLine ∧ Q (.str (i ++ j)) H
def rAddA (K : Fr) : R2 := fun x y H Q => rI0 (fun i j => .int (i + j)) x y H Q ∨ rAddS x y H Q ∨ rCat x y H Q ∨ rCatT K x y H Q
theorem addA (K : Fr) (h : X.K = K := by rfl) : OpR X (binaryOp .Add) (rAddA K) := by
  subst h
  exact op_add.or (OpR.or op_add_str (op_cat.or op_catT))
def rMulA : R2 := fun x y H Q => rI CMul (fun i j => .int (i * j)) x y H Q ∨ rRep x y H Q
theorem mulA : OpR X (binaryOp .Mult) rMulA := op_mul.or op_rep
def rEqA (K : Fr) : R2 := fun x y H Q => rEq x y H Q ∨ rEqD K x y H Q
theorem eqA (K : Fr) (hu : X.A.units + 64 < cLine) (h : X.K = K := by rfl) : OpR X (compareOp .Eq) (rEqA K) := by
  subst h
  exact op_eq.or (op_eqD hu)
def rNeA (K : Fr) : R2 := fun x y H Q => rNe x y H Q ∨ rNeD K x y H Q
theorem neA (K : Fr) (hu : X.A.units + 64 < cLine) (h : X.K = K := by rfl) : OpR X (compareOp .NotEq) (rNeA K) := by
  subst h
  exact op_ne.or (op_neD hu)
def rInS (neg : Bool) : R2 := fun x y H Q => ∃ (c : Nat) (z : Str), x = .str ⟨#[c]⟩ ∧ y = .str z ∧ Q (.bl (if neg then !decide (c ∈ z.cps.toList) else decide (c ∈ z.cps.toList))) H
def rInA (K : Fr) (neg : Bool) : R2 := fun x y H Q => rIn K neg x y H Q ∨ rInS neg x y H Q
theorem inA (K : Fr) (h : X.K = K := by rfl) : OpR X (compareOp .In) (rInA K false) := by
  subst h
  exact op_in_seq.or op_in_sign
theorem notInA (K : Fr) (h : X.K = K := by rfl) : OpR X (compareOp .NotIn) (rInA K true) := by
  subst h
  exact op_notIn_seq.or op_notIn_sign
theorem ixS (K : Fr) (h : X.K = K := by rfl) : IxR X (rIx K) := h ▸ ix_seq
def rSlA (K : Fr) : V → Option Int → Option Int → Hp → VK → Prop := fun x l u H Q => rSlL K x l u H Q ∨ rSlT K x l u H Q ∨ rSlS x l u H Q
theorem slA (K : Fr) (h : X.K = K := by rfl) : SlR X (rSlA K) := by
  subst h
  exact SlR.or sl_list (SlR.or sl_tup sl_str)
def rLenA (K : Fr) : List V → Hp → VK → Prop := fun xs H Q => (∃ z : Str, xs = [.str z] ∧ z.length ≤ sizeLine ∧ Q (.int z.length) H) ∨ (∃ p ys, xs = [.ref p] ∧ (SqL K H p ys ∨ SqT K H p ys) ∧ Q (.int ys.length) H) ∨ ∃ a kvs, xs = [.ref a] ∧ H a = some (.dK kvs) ∧ Q (.int kvs.length) H
theorem lenA (K : Fr) (h : X.K = K := by rfl) : CallR X (.builtin "len") (rLenA K) := by
  subst h
  exact call_len_str.or (call_len_seq.or call_lenD)
end
section
variable {X : Cx} {k : Nat} {f C : Addr} {sp : Sp} {x m : Str} {p pos apos : Pos} {e o : Expr} {es : List Expr} {t : TA} {te ta : TE}
/-- o.m() by a positional promise -/
theorem pe_methR0 {CX : CXT} {E : XK} {pl : Sem Bool} (he : PE X o ta) (c : Cls X.K C) (hm : Meth X.K C m f) (F : FnR X.prog X.w X.K X.mg X.base CX k f sp) (hr : Room k X.A) (hx : Passes CX X E)
    (ht : eval (.Call (.Attribute o m apos) [] [] pos) X.env = (do
      let ov ← eval o X.env
      standAt apos.atName
      let (f, first) ← holding [ov] (getMethod ov m pl)
      callWith pos f first (backTo pos (starEach [] X.env)) (backToKw pos (keywordEach [] X.env))) := by rfl) :
    PE X (.Call (.Attribute o m apos) [] [] pos) (tMethR C m sp E ta tNil) := by
  refine ⟨fun pins s σ H Q I h => ?_⟩
  refine PySem.W.methodCall_KW (pl := pl) (thn (he.run pins s σ H _ I h) fun u s1 ⟨x, H1, I1, rx, a, dx, fs, ex, ea, l, q⟩ => ?_) ht
  subst ex
  obtain rfl : u = Value.ref a := rx
  refine getmeth_ok I1 ea c hm l ?_
  exact PySem.W.callWith_K0 (first := [.ref a]) I1.kIn hm.kp (wpAny_call (run_fnR (us := [.ref a]) (vs := [.ref a]) F hr hx I1 (.cons rfl .nil) q))
/-- constants of the module, as the facts tell them -/
theorem pe_gIx {i : Int} (hm : ∃ tk, X.mg x = some (.int i tk)) (hg : Gl X x := by rfl) (hd : (x == ("__debug__" : Str)) = false := by decide) : PE X (.Name x p) (tC (.int i)) := by
  obtain ⟨tk, hm⟩ := hm
  exact pe_gI hm hg hd
theorem pe_gSx {z : Str} (hm : ∃ tk, X.mg x = some (.str z tk)) (hg : Gl X x := by rfl) (hd : (x == ("__debug__" : Str)) = false := by decide) : PE X (.Name x p) (tC (.str z)) := by
  obtain ⟨tk, hm⟩ := hm
  exact pe_gS hm hg hd
end
end Pk
/-! ## enumerate and zip over lists, tuples and texts, as they come -/
namespace Pk
open PySem PySem.Spec PyProof.Rows L2
theorem Kp.sub {P : Program} {w : World} {K : PySem.W.Frag} {mg : Str → Option Value} {base : Heap} {k : Nat} {f : Addr} {sp sp' : Sp} (G : Kp P w K mg base k f sp) (h : ∀ vs H Q E, sp' vs H Q E → sp vs H Q E) : Kp P w K mg base k f sp' := by
  obtain ⟨fd, ps, F, b, kp⟩ := G
  exact ⟨fd, ps, F.imp h, b, kp⟩
/-- what is gone through -/
inductive Src where
  | lst (a : Addr)
  | tup (a : Addr)
  | txt (z : Str)
/-- the sgn of a text, as texts -/
def sgn (z : Str) : List V := z.cps.toList.map fun c => V.str ⟨#[c]⟩
theorem get_back {xs : List V} {its : List Value} (rv : Vals xs its) {j : Nat} {u : Value} (h : its[j]? = some u) : ∃ x, xs[j]? = some x ∧ RelV x u := by
  have hl := rv.length
  have hj : j < xs.length := by
    have := (List.getElem?_eq_some_iff.mp h).1
    omega
  obtain ⟨u2, h2, r⟩ := rv.get (List.getElem?_eq_getElem hj)
  rw [h] at h2
  cases h2
  exact ⟨_, List.getElem?_eq_getElem hj, r⟩
namespace Src
def v : Src → V
  | .lst a => .ref a
  | .tup a => .ref a
  | .txt z => .str z
def At (K : Fr) : Src → Hp → List V → Prop
  | .lst a, H, xs => SqL K H a xs
  | .tup a, H, xs => SqT K H a xs
  | .txt z, _, xs => xs = sgn z
def adr : Src → List Addr
  | .lst a => [a]
  | .tup a => [a]
  | .txt _ => []
def it : Src → Heap → Addr → Nat → Prop
  | .lst a, h, b, i => h.IsListIter b a i
  | .tup a, h, b, i => h.IsTupleIter b a i
  | .txt z, h, b, i => ∃ t, h.IsStrIter b (strIterType z) z t i
theorem it_obj {S : Src} {h : Heap} {b : Addr} {i : Nat} (p : S.it h b i) : ∃ o vs, h.get? b = some o ∧ o.data = .fields vs := by
  cases S with
  | lst a => obtain ⟨o, e, _, d⟩ := p; exact ⟨o, _, e, d⟩
  | tup a => obtain ⟨o, e, _, d⟩ := p; exact ⟨o, _, e, d⟩
  | txt z => obtain ⟨t, o, e, _, d⟩ := p; exact ⟨o, _, e, d⟩
theorem it_keep {S : Src} {h h2 : Heap} {b : Addr} {i : Nat} (p : S.it h b i) (k : ∀ o, h.get? b = some o → h2.get? b = some o) : S.it h2 b i := by
  cases S with
  | lst a => exact Heap.IsListIter.at p k
  | tup a => exact Heap.IsTupleIter.at p k
  | txt z => obtain ⟨t, o, e, r⟩ := p; exact ⟨t, o, k o e, r⟩
theorem inj {K : Fr} {X : Cx} {pins : List (Addr × Obj)} {σ : L2.St} {H : Hp} {s : Shared} (I : Inv X pins σ H s) {S : Src} {xs ys : List V} (h : S.At X.K H xs) (h2 : S.At X.K H ys) : xs = ys := by
  cases S with
  | lst a => exact I.list_inj h h2
  | tup a => exact I.tuple_inj h h2
  | txt z => exact (show xs = sgn z from h).trans (show ys = sgn z from h2).symm
theorem draws {X : Cx} {pins : List (Addr × Obj)} {σ : L2.St} {H : Hp} {s : Shared} (I : Inv X pins σ H s) {S : Src} {xs : List V} (h : S.At X.K H xs) {b : Addr} {i : Nat} (p : S.it s.heap b i) (n : b ∉ S.adr) {A : Around} (hh : A.handled = none) :
    ∃ (P : Nat → Value → Prop) (St : Nat → Heap → Prop), Draws X.prog X.w A b (b :: S.adr) xs.length P St ∧ St i s.heap ∧ (∀ j u, P j u → ∃ x, xs[j]? = some x ∧ RelV x u) ∧ ∀ j h2, St j h2 → S.it h2 b j := by
  cases S with
  | lst a =>
    obtain ⟨its, rv, q, _⟩ := I.list h
    have ql : s.heap.IsList a its.toArray := q.isList
    have hn : a ≠ b := fun e => n (by rw [e]; exact List.mem_singleton.mpr rfl)
    have D := Draws.list (prog := X.prog) (w := X.w) hh b a hn its.toArray
    have hl : its.toArray.size = xs.length := by simpa using rv.length.symm
    rw [hl] at D
    refine ⟨_, _, D, ⟨p, ql⟩, fun j u hu => ?_, fun j h2 r => r.1⟩
    have hu2 : its[j]? = some u := by simpa using hu
    exact get_back rv hu2
  | tup a =>
    obtain ⟨its, rv, q, _⟩ := I.tuple h
    have ql : s.heap.IsTuple a its.toArray := q
    have hn : a ≠ b := fun e => n (by rw [e]; exact List.mem_singleton.mpr rfl)
    have D := Draws.tuple (prog := X.prog) (w := X.w) hh b a hn its.toArray
    have hl : its.toArray.size = xs.length := by simpa using rv.length.symm
    rw [hl] at D
    refine ⟨_, _, D, ⟨p, ql⟩, fun j u hu => ?_, fun j h2 r => r.1⟩
    have hu2 : its[j]? = some u := by simpa using hu
    exact get_back rv hu2
  | txt z =>
    obtain ⟨t, p⟩ := p
    have D := Draws.text (prog := X.prog) (w := X.w) hh b z t
    have e : xs = sgn z := h
    have hl : z.cps.size = xs.length := by rw [e]; simp [sgn]
    rw [hl] at D
    refine ⟨_, _, D, p, fun j u hu => ?_, fun j h2 r => ⟨t, r⟩⟩
    obtain ⟨c, t2, hc, eu⟩ := hu
    refine ⟨.str ⟨#[c]⟩, ?_, t2, eu⟩
    rw [e]
    simp [sgn, hc]
/-- iter(v) of it is one new object -/
theorem begins {X : Cx} {pins : List (Addr × Obj)} {σ : L2.St} {H : Hp} {s : Shared} (I : Inv X pins σ H s) {S : Src} {xs : List V} (h : S.At X.K H xs) {u : Value} (r : RelV S.v u) :
    ∃ (ob : Obj) (P : Heap → Prop), Begins u ob P ∧ P s.heap ∧ (∀ h2 b, h2.get? b = some ob → S.it h2 b 0) ∧ ∀ b, b ∈ S.adr → b < s.heap.objs.size := by
  cases S with
  | lst a =>
    cases r
    obtain ⟨its, rv, q, _⟩ := I.list h
    have ql : s.heap.IsList a its.toArray := q.isList
    exact ⟨_, _, begins_list a its.toArray, ql, fun h2 b e => ⟨_, e, rfl, rfl⟩, fun b hb => by rw [List.mem_singleton.mp hb]; exact q.lt⟩
  | tup a =>
    cases r
    obtain ⟨its, rv, q, _⟩ := I.tuple h
    have ql : s.heap.IsTuple a its.toArray := q
    obtain ⟨o, ho, _⟩ := id ql
    exact ⟨_, _, begins_tuple a its.toArray, ql, fun h2 b e => ⟨_, e, rfl, rfl⟩, fun b hb => by rw [List.mem_singleton.mp hb]; exact Heap.lt_size ho⟩
  | txt z =>
    obtain ⟨t, e⟩ := r
    subst e
    exact ⟨_, _, begins_text z t, trivial, fun h2 b e => ⟨t, _, e, rfl, rfl⟩, fun b hb => nomatch hb⟩
end Src
/-! ### for i, x in enumerate(xs) -/
def IteX (K : Fr) (S : Src) : It :=
  ⟨fun i H => ∃ (xs : List V) (x : V), S.At K H xs ∧ xs[i]? = some x, fun i H v H2 => ∃ T x, v = .ref T ∧ H T = none ∧ H2 = upd H T (.tup [.int (i : Nat), x]) ∧ ∀ xs, S.At K H xs → xs[i]? = some x, fun i H => ∃ xs : List V, S.At K H xs ∧ xs.length = i⟩
theorem turn_enumX {P : Program} {w : World} {K : PySem.W.Frag} {elts : List Expr} {kk : Nat} {tpos : Pos} (S : Src) (e it : Addr) :
    Turn P w K (.Tuple elts kk tpos) (IteX K S) [e, it] e (fun i h => (∃ old, IsEnum h e it ((i : Nat) : Int) old) ∧ S.it h it i ∧ e ≠ it ∧ e ∉ S.adr ∧ it ∉ S.adr) where
  mem := List.mem_cons_self
  obj := fun i h st b hb => by
    obtain ⟨⟨old, h1⟩, hit, _⟩ := st
    obtain ⟨o, vs, ho, hd⟩ := Src.it_obj hit
    have hb2 : b = e ∨ b = it := by simpa using hb
    rcases hb2 with z | z
    · exact ⟨_, by rw [z]; exact h1, fun v q => by cases q⟩
    · exact ⟨o, by rw [z]; exact ho, fun v q => by rw [hd] at q; cases q⟩
  keep := fun i h h2 st k => let ⟨⟨old, h1⟩, hi, n⟩ := st; ⟨⟨old, k e List.mem_cons_self _ h1⟩, Src.it_keep hi (fun o q => k it (by simp) o q), n⟩
  item := by
    intro X hP hw hK hc i pins s σ H E I hf st hg
    subst hP hw hK
    obtain ⟨⟨old, hen⟩, hit, n1, n2, n3⟩ := st
    obtain ⟨xs, x, hq, hx⟩ := hg
    have hcalm : X.A.in1.handled = none := I.ok.hd hc
    obtain ⟨Pd, St, D, st0, hP, hS⟩ := Src.draws I hq hit n3 hcalm
    have le_ : e < s.heap.objs.size := Heap.lt_size hen
    have li_ : it < s.heap.objs.size := by
      obtain ⟨_, _, q, _⟩ := Src.it_obj hit
      exact Heap.lt_size q
    have hsz : i < xs.length := (List.getElem?_eq_some_iff.mp hx).1
    refine wpAny_pyNext_enum_itemC D hen st0 hsz n1 (by simp [n1, n2]) fun y h1 tk hy ho1 st1 hT _ hk => ?_
    obtain ⟨x2, hx2, ry⟩ := hP i y hy
    rw [hx] at hx2
    cases hx2
    refine ⟨_, rfl, wpAny_letOwnedTupleGo_enum (s := { s with heap := h1, toks := tk + 1 }) ho1 fun h2 hen2 sb => ?_⟩
    have hT2 := (sb.2 _ (Nat.ne_of_gt le_)).trans hT
    have new : ObjOk X.prog X.w (upd H s.heap.objs.size (.tup [.int (i : Nat), x])) h2 s.heap.objs.size (.tup [.int (i : Nat), x]) :=
      ⟨(by decide : 2 ≤ sizeLine), [.int (i : Nat) tk, y], .cons ⟨_, rfl⟩ (.cons ry .nil), ⟨_, hT2, rfl, _, rfl⟩⟩
    have I2 : Inv X pins σ (upd H s.heap.objs.size (.tup [.int (i : Nat), x])) { s with heap := h2, toks := tk + 1 } :=
      I.turnedNew (ch := [e, it]) (fun b ob hb q => (sb.2 b (fun z => hb (by simp [z]))).trans (hk b ob (fun z => hb (by simp [z])) (fun z => hb (by simp [z])) q)) hf (Nat.le_refl _) new
    refine ⟨.ref s.heap.objs.size, _, I2, rfl, ⟨_, x, rfl, I.hok.fresh (Nat.le_refl _), rfl, fun ys hy2 => by rw [Src.inj (K := X.K) I hy2 hq]; exact hx⟩, ⟨⟨y, ?_⟩, Src.it_keep (hS _ _ st1) (fun o q => (sb.2 it n1.symm).trans q), n1, n2, n3⟩, fun b hb => ?_⟩
    · rw [Int.natCast_succ]
      exact hen2
    · have hb2 : b < s.heap.objs.size := by
        have q : b = e ∨ b = it := by simpa using hb
        rcases q with z | z <;> rw [z] <;> assumption
      rw [upd_ne (Nat.ne_of_lt hb2)]
      exact (hf b hb).1
  done := by
    intro X hP hw hK hc i pins s σ H E I hf st hg
    subst hP hw hK
    obtain ⟨⟨old, hen⟩, hit, n1, n2, n3⟩ := st
    obtain ⟨xs, hq, hx⟩ := hg
    obtain ⟨f0, f1, f2, f3, f4, f5⟩ := hf it (by simp)
    have hcalm : X.A.in1.handled = none := I.ok.hd hc
    obtain ⟨Pd, St, D, st0, hP, hS⟩ := Src.draws I hq hit n3 hcalm
    rw [hx] at D
    exact wpAny_pyNext_enum_endD D hen st0 fun h1 eb => ⟨rfl, I.turned (t' := s.toks) (fun b o hb q => eb b o hb q) f0 f1 f3 f4 f5⟩
  self := fun A i s Q E st h => let ⟨⟨_, hen⟩, _⟩ := st; wpAny_pyIter_enum hen h
def iEnumX (K : Fr) (ta : TA) : TI := fun σ H R => ta σ H fun vs H1 => ∃ (S : Src) (xs : List V), vs = [S.v] ∧ S.At K H1 xs ∧ R (IteX K S) H1
theorem pi_enumX {X : Cx} {e : Expr} {ta : TA} {p pos tpos : Pos} {elts : List Expr} {kk : Nat} (hg : Gl X "enumerate") (hm : X.mg "enumerate" = none) (ha : PA X [e] ta) (hs : starEach [e] X.env = [(false, eval e X.env)] := by rfl) :
    PI X (.Tuple elts kk tpos) (.Call (.Name "enumerate" p) [e] [] pos) (iEnumX X.K ta) := ⟨fun pins s σ H R I h => by
  refine Call_ (ld_blt I hg hm boot_enumerate (PyProof.Rows.callWith_type1 (thn (ha.run pos pins s σ H _ I h) fun us s1 ⟨vs, H1, I1, r1, S, xs, ev, hq, q⟩ => ?_) hs rfl))
  subst ev
  cases r1 with
  | cons r rr =>
    cases rr
    obtain ⟨ob, P, B, hP, hit, hlt⟩ := Src.begins I1 hq r
    refine enum_new B hP fun h2 hen ho hk => wpAny_pyIter_enum hen ?_
    have I2 : Inv X pins σ H1 { s1 with heap := h2 } := I1.kept (t' := s1.toks) hk
    refine ⟨s1.heap.objs.size + 1, [s1.heap.objs.size + 1, s1.heap.objs.size], _, _, H1, rfl, I2, turn_enumX S (s1.heap.objs.size + 1) s1.heap.objs.size, ⟨⟨.none, hen⟩, hit _ _ ho, Nat.succ_ne_self _, fun z => ?_, fun z => ?_⟩, fun b hb => ?_, q⟩
    · exact absurd (hlt _ z) (Nat.not_lt.mpr (Nat.le_succ _))
    · exact absurd (hlt _ z) (Nat.lt_irrefl _)
    have hb2 : b = s1.heap.objs.size + 1 ∨ b = s1.heap.objs.size := by simpa using hb
    have hle : s1.heap.objs.size ≤ b := by
      rcases hb2 with z | z
      · rw [z]; exact Nat.le_succ _
      · rw [z]; exact Nat.le_refl _
    exact I1.fpOk hle (I1.hok.fresh hle)⟩
theorem walk_enumX {K : Fr} {S : Src} {xs : List V} : Walk (IteX K S) xs.length (fun H => S.At K H xs) (YPair (fun i => some (.int (i : Nat))) (fun i => xs[i]?)) := by
  refine ⟨fun i _ hi q => ⟨xs, xs[i], q, by simp [hi]⟩, fun _ q => ⟨xs, q, rfl⟩, fun i H v H2 _ q y => ?_⟩
  obtain ⟨T, x, h1, h2, h3, h4⟩ := y
  exact ⟨T, .int (i : Nat), x, h1, h2, h3, rfl, h4 xs q⟩
/-! ### for x, y in zip(xs, ys) -/
def ItzX (K : Fr) (S S' : Src) : It :=
  ⟨fun i H => ∃ (xs ys : List V) (x y : V), S.At K H xs ∧ S'.At K H ys ∧ xs[i]? = some x ∧ ys[i]? = some y,
    fun i H v H2 => ∃ T x y, v = .ref T ∧ H T = none ∧ H2 = upd H T (.tup [x, y]) ∧ (∀ xs, S.At K H xs → xs[i]? = some x) ∧ ∀ ys, S'.At K H ys → ys[i]? = some y,
    fun i H => ∃ xs ys : List V, S.At K H xs ∧ S'.At K H ys ∧ i ≤ xs.length ∧ i ≤ ys.length ∧ (i = xs.length ∨ i = ys.length)⟩
theorem turn_zipX {P : Program} {w : World} {K : PySem.W.Frag} {elts : List Expr} {kk : Nat} {tpos : Pos} {S S' : Src} {z TI TO i1 i2 : Addr} (D : ZipSep2 z TI TO i1 i2 (i1 :: S.adr) (i2 :: S'.adr)) (n1 : i1 ∉ S.adr) (n2 : i2 ∉ S'.adr) :
    Turn P w K (.Tuple elts kk tpos) (ItzX K S S') [z, TI, TO, i1, i2] z (fun i h => IsZip h z TI TO .none ∧ IsTupOf2 h TI (.ref i1) (.ref i2) ∧ (∃ x y, IsTupOf2 h TO x y) ∧ S.it h i1 i ∧ S'.it h i2 i) where
  mem := by simp
  obj := fun i h st c hc => by
    obtain ⟨hz, hTI, ⟨x, y, hTO⟩, p1, p2⟩ := st
    obtain ⟨o1, _, e1, d1⟩ := Src.it_obj p1
    obtain ⟨o2, _, e2, d2⟩ := Src.it_obj p2
    have e' : c = z ∨ c = TI ∨ c = TO ∨ c = i1 ∨ c = i2 := by simpa using hc
    rcases e' with q | q | q | q | q
    · rw [q]; exact ⟨_, hz, fun v q => nomatch q⟩
    · rw [q]; exact ⟨_, hTI, fun v q => nomatch q⟩
    · rw [q]; exact ⟨_, hTO, fun v q => nomatch q⟩
    · rw [q]; exact ⟨o1, e1, fun v q => by rw [d1] at q; cases q⟩
    · rw [q]; exact ⟨o2, e2, fun v q => by rw [d2] at q; cases q⟩
  keep := fun i h h' st k => by
    obtain ⟨hz, hTI, ⟨x, y, hTO⟩, h1, h2⟩ := st
    exact ⟨k z (by simp) _ hz, k TI (by simp) _ hTI, ⟨x, y, k TO (by simp) _ hTO⟩, Src.it_keep h1 (fun o q => k i1 (by simp) o q), Src.it_keep h2 (fun o q => k i2 (by simp) o q)⟩
  item := by
    intro X hP hw hK hc i pins s σ H E I hf st hg
    subst hP hw hK
    obtain ⟨hz, hTI, ⟨x0, y0, hTO⟩, h1, h2⟩ := st
    obtain ⟨xs, ys, x, y, hqx, hqy, hx, hy⟩ := hg
    have hcalm : X.A.in1.handled = none := I.ok.hd hc
    obtain ⟨P1, St1, D1, st1, hP1, hS1⟩ := Src.draws I hqx h1 n1 hcalm
    obtain ⟨P2, St2, D2, st2, hP2, hS2⟩ := Src.draws I hqy h2 n2 hcalm
    have hzl : z < s.heap.objs.size := Heap.lt_size hz
    refine wpAny_pyNext_zipD2_item D D1 D2 hz hTI hTO st1 st2 (List.getElem?_eq_some_iff.mp hx).1 (List.getElem?_eq_some_iff.mp hy).1 fun u u2 h' tk pu pu2 z' TO' s1' s2' hT hsz hk => ?_
    obtain ⟨x2, hx2, ru⟩ := hP1 i u pu
    rw [hx] at hx2
    cases hx2
    obtain ⟨y2, hy2, ru2⟩ := hP2 i u2 pu2
    rw [hy] at hy2
    cases hy2
    refine ⟨_, rfl, wpAny_letOwnedTupleGo_zip (s := { s with heap := h', toks := tk }) z' fun h'' z'' sb => ?_⟩
    have hT2 : h''.get? s.heap.objs.size = some { cls := .type "tuple", data := .seq #[u, u2] } := (sb.2 _ (Nat.ne_of_gt hzl)).trans hT
    have new : ObjOk X.prog X.w (upd H s.heap.objs.size (.tup [x, y])) h'' s.heap.objs.size (.tup [x, y]) :=
      ⟨by show 2 ≤ sizeLine; decide, [u, u2], .cons ru (.cons ru2 .nil), ⟨_, hT2, rfl, _, rfl⟩⟩
    have I1 : Inv X pins σ (upd H s.heap.objs.size (.tup [x, y])) { s with heap := h'', toks := tk } :=
      I.turnedNew (t' := tk) (ch := [z, TI, TO, i1, i2]) (fun c o hb q => (sb.2 c (fun q' => hb (by simp [q']))).trans (hk c o (fun q' => hb (by simp [q'])) (fun q' => hb (by simp [q'])) (fun q' => hb (by simp [q'])) (fun q' => hb (by simp [q'])) q)) hf (Nat.le_refl _) new
    have i1z : i1 ≠ z := fun e => D.zf1 (by rw [e]; exact List.mem_cons_self)
    have i2z : i2 ≠ z := fun e => D.zf2 (by rw [e]; exact List.mem_cons_self)
    refine ⟨.ref s.heap.objs.size, _, I1, rfl, ⟨_, x, y, rfl, I.hok.fresh (Nat.le_refl _), rfl, fun l hl => by rw [Src.inj (K := X.K) I hl hqx]; exact hx, fun l hl => by rw [Src.inj (K := X.K) I hl hqy]; exact hy⟩, ⟨z'', ?_, ⟨u, u2, ?_⟩, ?_, ?_⟩, fun c hcm => ?_⟩
    · exact (sb.2 _ D.TIz).trans (hk _ _ D.TIz D.TITO D.TIi1 D.TIi2 hTI)
    · exact (sb.2 _ D.TOz).trans TO'
    · exact Src.it_keep (hS1 _ _ s1') fun o q => (sb.2 _ i1z).trans q
    · exact Src.it_keep (hS2 _ _ s2') fun o q => (sb.2 _ i2z).trans q
    · have hlt : c < s.heap.objs.size := by
        have e' : c = z ∨ c = TI ∨ c = TO ∨ c = i1 ∨ c = i2 := by simpa using hcm
        rcases e' with q | q | q | q | q
        · rw [q]; exact hzl
        · rw [q]; exact Heap.lt_size hTI
        · rw [q]; exact Heap.lt_size hTO
        · rw [q]; obtain ⟨_, _, e1, _⟩ := Src.it_obj h1; exact Heap.lt_size e1
        · rw [q]; obtain ⟨_, _, e2, _⟩ := Src.it_obj h2; exact Heap.lt_size e2
      rw [upd_ne (Nat.ne_of_lt hlt)]
      exact (hf c hcm).1
  done := by
    intro X hP hw hK hc i pins s σ H E I hf st hg
    subst hP hw hK
    obtain ⟨hz, hTI, ⟨x0, y0, hTO⟩, h1, h2⟩ := st
    obtain ⟨xs, ys, hqx, hqy, l1, l2, hend⟩ := hg
    have hcalm : X.A.in1.handled = none := I.ok.hd hc
    obtain ⟨P1, St1, D1, st1, hP1, hS1⟩ := Src.draws I hqx h1 n1 hcalm
    obtain ⟨P2, St2, D2, st2, hP2, hS2⟩ := Src.draws I hqy h2 n2 hcalm
    exact wpAny_pyNext_zipD2_end D D1 D2 hz hTI hTO st1 st2 l1 l2 hend fun h' tk hk => ⟨rfl, I.turnedL (t' := tk) (ch := [z, TI, TO, i1, i2]) (fun c o hb q =>
      hk c o (fun q' => hb (by simp [q'])) (fun q' => hb (by simp [q'])) (fun q' => hb (by simp [q'])) (fun q' => hb (by simp [q'])) q) hf⟩
  self := fun A i s Q E st h => wpAny_pyIter_zip st.1 h
def iZipX (K : Fr) (ta : TA) : TI := fun σ H R => ta σ H fun vs H1 => ∃ (S S' : Src) (xs ys : List V), vs = [S.v, S'.v] ∧ S.At K H1 xs ∧ S'.At K H1 ys ∧ R (ItzX K S S') H1
theorem pi_zipX {X : Cx} {e e2 : Expr} {ta : TA} {p pos tpos : Pos} {elts : List Expr} {kk : Nat} (hg : Gl X "zip") (hm : X.mg "zip" = none) (ha : PA X [e, e2] ta)
    (hs : starEach [e, e2] X.env = (false, eval e X.env) :: starEach [e2] X.env := by rfl) (hpl : (backTo pos (starEach [e2] X.env)).any (·.1) = false := by rfl) :
    PI X (.Tuple elts kk tpos) (.Call (.Name "zip" p) [e, e2] [] pos) (iZipX X.K ta) := by
  refine ⟨fun pins s σ H R I h => ?_⟩
  refine Call_ (ld_blt I hg hm PyProof.Rows.boot_zip (PyProof.Rows.callWith_type1 (thn (ha.run pos pins s σ H _ I h) fun us s1 ⟨vs, H1, I1, r1, q1⟩ => ?_) hs hpl))
  obtain ⟨S, S', xs, ys, ex, hqx, hqy, q⟩ := q1
  subst ex
  cases r1 with
  | cons r rr =>
    cases rr with
    | cons r' rr =>
      cases rr
      obtain ⟨o1, P1, B1, hP1, it1, l1⟩ := Src.begins I1 hqx r
      obtain ⟨o2, P2, B2, hP2, it2, l2⟩ := Src.begins I1 hqy r'
      have fresh5 : ∀ c, c ∈ [s1.heap.objs.size + 4, s1.heap.objs.size + 2, s1.heap.objs.size + 3, s1.heap.objs.size, s1.heap.objs.size + 1] → FpOk X pins H1 c := fun c hcm => by
        have e' : c = s1.heap.objs.size + 4 ∨ c = s1.heap.objs.size + 2 ∨ c = s1.heap.objs.size + 3 ∨ c = s1.heap.objs.size ∨ c = s1.heap.objs.size + 1 := by simpa using hcm
        have hle : s1.heap.objs.size ≤ c := by
          rcases e' with z | z | z | z | z <;> rw [z] <;> first | exact Nat.le_add_right _ _ | exact Nat.le_refl _
        exact I1.fpOk hle (I1.hok.fresh hle)
      refine zip_begins2 B1 B2 hP1 hP2 fun h' hz hTI hTO g1 g2 hsz hk => wpAny_pyIter_zip hz ?_
      have I2 : Inv X pins σ H1 { s1 with heap := h' } := I1.kept (t' := s1.toks) hk
      have nin1 : ∀ k : Nat, s1.heap.objs.size + k ∉ S.adr := fun k m => absurd (l1 _ m) (Nat.not_lt.mpr (Nat.le_add_right _ _))
      have nin2 : ∀ k : Nat, s1.heap.objs.size + k ∉ S'.adr := fun k m => absurd (l2 _ m) (Nat.not_lt.mpr (Nat.le_add_right _ _))
      have ne : ∀ a b : Nat, a ≠ b → s1.heap.objs.size + a ≠ s1.heap.objs.size + b := fun a b n e => n (Nat.add_left_cancel e)
      have D : ZipSep2 (s1.heap.objs.size + 4) (s1.heap.objs.size + 2) (s1.heap.objs.size + 3) s1.heap.objs.size (s1.heap.objs.size + 1) (s1.heap.objs.size :: S.adr) ((s1.heap.objs.size + 1) :: S'.adr) := by
        refine ⟨ne 2 4 (by decide), ne 3 4 (by decide), ne 2 3 (by decide), ne 2 0 (by decide), List.mem_cons_self, ?_, ?_, ne 2 1 (by decide), List.mem_cons_self, ?_, ?_, ?_, ?_⟩
        · exact fun m => (List.mem_cons.mp m).elim (ne 4 0 (by decide)) (nin1 4)
        · exact fun m => (List.mem_cons.mp m).elim (ne 3 0 (by decide)) (nin1 3)
        · exact fun m => (List.mem_cons.mp m).elim (ne 4 1 (by decide)) (nin2 4)
        · exact fun m => (List.mem_cons.mp m).elim (ne 3 1 (by decide)) (nin2 3)
        · exact fun m => (List.mem_cons.mp m).elim (ne 0 1 (by decide)) (nin2 0)
        · exact fun m => (List.mem_cons.mp m).elim (ne 1 0 (by decide)) (nin1 1)
      exact ⟨s1.heap.objs.size + 4, [s1.heap.objs.size + 4, s1.heap.objs.size + 2, s1.heap.objs.size + 3, s1.heap.objs.size, s1.heap.objs.size + 1], _, _, H1, rfl, I2, turn_zipX D (nin1 0) (nin2 1), ⟨hz, hTI, ⟨_, _, hTO⟩, it1 _ _ g1, it2 _ _ g2⟩, fresh5, q⟩
theorem walk_zipX {K : Fr} {S S' : Src} {xs ys : List V} {n : Nat} (hn : n = min xs.length ys.length) : Walk (ItzX K S S') n (fun H => S.At K H xs ∧ S'.At K H ys) (YPair (fun i => xs[i]?) (fun i => ys[i]?)) := by
  refine ⟨fun i _ hi q => ⟨xs, ys, xs[i]'(by omega), ys[i]'(by omega), q.1, q.2, List.getElem?_eq_getElem _, List.getElem?_eq_getElem _⟩, fun _ q => ⟨xs, ys, q.1, q.2, by omega, by omega, by omega⟩, fun i H v H2 _ q y => ?_⟩
  obtain ⟨T, x, y, h1, h2, h3, h4, h5⟩ := y
  exact ⟨T, x, y, h1, h2, h3, h4 xs q.1, h5 ys q.2⟩
end Pk
/-! ## Dict comprehensions that change nothing -/
namespace Pk
open PySem PySem.Spec PyProof.Rows L2
theorem b_sorted : bootBuiltins "sorted" = some (.builtin "sorted") := by decide +kernel
theorem b_sum : bootBuiltins "sum" = some (.builtin "sum") := by decide +kernel
theorem pe_joinK {X : Cx} (K : Fr) {o e : Expr} {to te : TE} {apos pos : Pos} (ho : PE X o to) (he : PE X e te) (hs : starEach [e] X.env = [(false, eval e X.env)] := by rfl) (hbase : attributeBase o "join" X.env (eval o X.env) = eval o X.env := by rfl) (hline : (apos.endLine == pos.line) = true := by rfl) (h : X.K = K := by rfl) :
    PE X (.Call (.Attribute o "join" apos) [e] [] pos) (tM1 (fun x xs H Q => ∃ a p, ∃ ys : List Str, x = .str a ∧ xs = [.ref p] ∧ (SqL K H p (ys.map V.str) ∨ SqT K H p (ys.map V.str)) ∧
      (ys.map (·.length)).sum + ys.length * a.length ≤ 16777216 ∧ Q (.str (Txt.join a ys)) H) to te) := by
  subst h
  exact pe_join ho he hs hbase hline
def keepsK (n : Nat) (f : Nat → Bool) (k : Nat → Key) (v : Nat → V) : List (Key × V) := ((List.range n).filter f).map fun i => (k i, v i)
theorem keepsK_succ (n : Nat) (f : Nat → Bool) (k : Nat → Key) (v : Nat → V) : keepsK (n + 1) f k v = if f n = true then keepsK n f k v ++ [(k n, v n)] else keepsK n f k v := by
  unfold keepsK
  rw [List.range_succ, List.filter_append]
  by_cases h : f n = true
  · simp [h]
  · simp [h]
theorem keepsK_le (n : Nat) (f : Nat → Bool) (k : Nat → Key) (v : Nat → V) : (keepsK n f k v).length ≤ n := by
  unfold keepsK
  rw [List.length_map]
  exact Nat.le_trans (List.length_filter_le _ _) (by simp)
theorem valV_none {kvs : List (Key × V)} {k : Key} (h : ∀ p ∈ kvs, p.1 ≠ k) : valV kvs k = none := by
  induction kvs with
  | nil => rfl
  | cons p r ih =>
    rw [valV_neg (h p List.mem_cons_self)]
    exact ih fun q hq => h q (List.mem_cons_of_mem _ hq)
section
variable {J : It} {n : Nat} {G : Hp → Prop} {Y : Nat → Hp → V → Hp → Prop} {g : TG} {tk tv : TE} {tt : TT} {vs : List Nat} {σ : L2.St} {H1 : Hp} {D : Addr} {Qd : Hp → Prop}
theorem dc_keep (w : Walk J n G Y) (hD : H1 D = none) (f : Nat → Bool) (k : Nat → Key) (v : Nat → V) (hn : n ≤ sizeLine) (inj : ∀ i j, i < j → j < n → f i = true → f j = true → k i ≠ k j) (hG : ∀ H, Same H1 H → G H)
    (hs : ∀ i x H H2 (N : V → VK) (N0 : Hp → Prop), i < n → Same H1 H → Y i H x H2 → (f i = true → ∀ H5, Same H H5 → N (kV (k i)) (v i) H5) → (f i = false → ∀ H5, Same H H5 → N0 H5) →
      g x (wipe σ vs) H2 fun σ2 H3 => wipe σ2 vs = wipe σ vs ∧ tt σ2 H3 fun b H4 => if b = true then tk σ2 H4 fun y H5 => tv σ2 H5 (N y) else N0 H4)
    (hd : ∀ H, Same H1 H → H D = some (.dK (keepsK n f k v)) → Qd H) :
    ∃ W : Nat → Nat → Hp → Prop, (∃ m, W 0 m (upd H1 D (.dK []))) ∧ ∀ i m H, W i m H →
      (J.stop i H ∧ Qd H) ∨ (J.go i H ∧ ∃ Nx : Hp → Prop, (∀ H', Nx H' → ∃ m', m' < m ∧ W (i + 1) m' H') ∧ ∀ x H', J.yld i H x H' → g x (wipe σ vs) H' fun σ2 H2 => wipe σ2 vs = wipe σ vs ∧ tt σ2 H2 fun b H3 =>
        if b = true then tk σ2 H3 fun y H4 => tv σ2 H4 fun z H5 => ∃ kvs k, y = kV k ∧ H5 D = some (.dK kvs) ∧ kvs.length < sizeLine ∧ Nx (upd H5 D (.dK (putK kvs k z))) else Nx H3) := by
  refine ⟨fun i m H => m = n - i ∧ i ≤ n ∧ Same H1 H ∧ H D = some (.dK (keepsK i f k v)), ⟨n, by simp, Nat.zero_le _, same_upd hD, upd_same⟩, ?_⟩
  rintro i m H ⟨rfl, hi, p1, p2⟩
  have q := hG H p1
  by_cases hlt : i < n
  · refine .inr ⟨w.goes i H hlt q, fun H' => Same H1 H' ∧ H' D = some (.dK (keepsK (i + 1) f k v)), fun H' p' => ⟨n - (i + 1), by omega, rfl, hlt, p'⟩, fun x H' y => ?_⟩
    refine hs i x H H' (fun y z H5 => ∃ kvs k, y = kV k ∧ H5 D = some (.dK kvs) ∧ kvs.length < sizeLine ∧ _) _ hlt p1 (w.yields i H x H' hlt q y) (fun hb H5 s5 => ?_) fun hb H5 s5 => ?_
    · refine ⟨_, k i, rfl, s5 _ _ p2, Nat.lt_of_le_of_lt (keepsK_le i f k v) (by omega), same_own (p1.trans s5) hD, ?_⟩
      rw [upd_same, keepsK_succ, if_pos hb, putK_new]
      refine valV_none fun p hp e => ?_
      obtain ⟨j, hj, rfl⟩ := List.mem_map.mp hp
      rw [List.mem_filter, List.mem_range] at hj
      exact inj j i hj.1 hlt hj.2 hb e
    · refine ⟨p1.trans s5, ?_⟩
      rw [s5 _ _ p2, keepsK_succ, hb]
      rfl
  · have e : i = n := by omega
    subst e
    exact .inl ⟨w.stops H q, hd H p1 p2⟩
end
end Pk
/-! ## for in a generator's body -/
namespace Pk
open PySem PySem.Spec PyProof.Rows L2 GenW
section
variable {M : Model} {A : Around} {R : GenEnd} {Y : Protocol} {n : Nat} {s₀ s : Shared} {c : Code} {fs : List Frame} {env : Env}
  {K : Flow → Sem PySem.Fin} {J : Value → Sem PySem.Fin} {gd : Bool → Bool} {lv : List Value → List Value}
theorem segw_bind {α β : Type} {m : Sem α} {f : α → Sem β} {K : β → Sem PySem.Fin}
    (h : wpAny M (A.over c fs) m (fun a s' => Seg M A R Y n s₀ c ((f a).wrap K J gd lv) fs s') (fun x s' => Seg M A R Y n s₀ c (J x) fs s') s) :
    Seg M A R Y n s₀ c ((m >>= f).wrap K J gd lv) fs s := by
  rw [Sem.bind_eq_wrap' m f, Sem.wrap_wrap]
  exact seg_wrap h
theorem seg_For {target iter : Expr} {body orelse : List Stmt} {pos : Pos} (hs : ∀ x, foldedSetIterable iter env x = pure x)
    (h : wpAny M (A.over c fs) (eval iter env) (fun x s1 => wpAny M (A.over c fs) (pyIter x) (fun it s2 => ∀ p, Seg M A R Y n s₀ (.forLoop target it body orelse env) (M.den (.forLoop target it body orelse env))
      (.ret (fun r => ((match r with | .ok f => (.pure f : Sem Flow) | .error e => .raise e).onRaise (cameBack env)).wrap K J gd lv) none (gd false) (lv []) c p [] :: fs) s2)
      (fun x s' => Seg M A R Y n s₀ c (J x) fs s') s1) (fun x s' => Seg M A R Y n s₀ c (J x) fs s') s) :
    Seg M A R Y n s₀ c ((exec (.For target iter body orelse pos) env).wrap K J gd lv) fs s := by
  rw [exec_For]
  refine segw_bind (wpAny_standAt ?_)
  refine segw_bind (wpAny_mono h (fun x s1 h1 => ?_) fun _ _ z => z)
  refine segw_bind (wpAny_of_eq (hs x) ?_)
  refine segw_bind (wpAny_standAt ?_)
  refine segw_bind (wpAny_holding (wpAny_mono h1 (fun it s2 h2 => ?_) fun _ _ z => z))
  exact seg_call h2
end
section
variable {prog : Program} {w : World} {A : Around} {R : GenEnd} {Y : Protocol} {n : Nat} {s₀ : Shared} {fs : List Frame} {s : Shared} {env : Env}
abbrev noted (env : Env) (e : Value) : Sem PySem.Fin := (do noteFrame e env; theTreesLotGoes e : Sem Unit).wrap (fun _ => .raise e) .raise id id
theorem seg_forLoop {target : Expr} {it : Value} {body : List Stmt}
    (h : wpAny (model prog w) (A.over (.forLoop target it body [] env) fs) (pyNext it) (fun r s1 => match r with
        | none => Seg (model prog w) A R Y n s₀ (.block [] env) (.pure (.done .next)) fs s1
        | some v => wpAny (model prog w) (A.over (.forLoop target it body [] env) fs) (letOwnedTupleGo target it v) (fun _ s2 =>
          wpAny (model prog w) (A.over (.forLoop target it body [] env) fs) (assign target env v) (fun _ s3 =>
            Seg (model prog w) A R Y n s₀ (.forLoop target it body [] env) ((execs body env).wrap (fun f => match f with
              | .next | .cont => .pure (.again (.forLoop target it body [] env))
              | .brk => .pure (.done .next)
              | .ret v => .pure (.done (.ret v))) (noted env) id id) fs s3)
            (fun x s' => Seg (model prog w) A R Y n s₀ (.forLoop target it body [] env) (noted env x) fs s') s2)
          (fun x s' => Seg (model prog w) A R Y n s₀ (.forLoop target it body [] env) (noted env x) fs s') s1)
      (fun x s' => Seg (model prog w) A R Y n s₀ (.forLoop target it body [] env) (noted env x) fs s') s) :
    Seg (model prog w) A R Y n s₀ (.forLoop target it body [] env) ((model prog w).den (.forLoop target it body [] env)) fs s := by
  show Seg _ A R Y n s₀ _ ((forTurn target it body [] env).onRaise (fun x => do noteFrame x env; theTreesLotGoes x)) fs s
  have eH : (fun e : Value => (do noteFrame e env; theTreesLotGoes e : Sem Unit).bind fun _ => (Sem.raise e : Sem PySem.Fin)) = noted env := by
    funext e
    exact Sem.bind_eq_wrap _ _
  rw [Sem.onRaise_eq_wrap, eH]
  unfold forTurn
  refine segw_bind (wpAny_standAt ?_)
  refine segw_bind (wpAny_onRaise (wpAny_mono h (fun r s1 h1 => ?_) fun _ _ z => wpAny_standAt z))
  cases r with
  | none => exact seg_again rfl h1
  | some v =>
    refine segw_bind (wpAny_mono h1 (fun _ s2 h2 => ?_) fun _ _ z => z)
    refine segw_bind (wpAny_mono h2 (fun _ s3 h3 => ?_) fun _ _ z => z)
    rw [Sem.bind_eq_wrap', Sem.wrap_wrap]
    refine Eq.mp (congrArg (fun t => Seg (model prog w) A R Y n s₀ (Code.forLoop target it body [] env) t fs s3) (Sem.wrap_congr (execs body env) _ _ ?_ ?_)) h3
    · intro f
      cases f <;> rfl
    · intro e
      rfl
end
def tGFor (wi : TI) (g : TG) (tb : TGn) : TGn := fun D ys σ H => wi σ H fun J H1 => ∃ W : Nat → Nat → List V → L2.St → Hp → Prop, (∃ m, W 0 m ys σ H1) ∧ ∀ i m ys σ H, W i m ys σ H →
  (J.stop i H ∧ D.nx ys σ H) ∨ (J.go i H ∧ ∃ N : List V → L2.St → Hp → Prop, (∀ ys' σ' H', N ys' σ' H' → ∃ m', m' < m ∧ W (i + 1) m' ys' σ' H') ∧ ∀ x H', J.yld i H x H' → g x σ H' fun σ2 H2 => tb { D with nx := N, ct := N, bk := D.nx } ys σ2 H2)
theorem gs_for {X : Cx} {tg iter : Expr} {body : List Stmt} {wi : TI} {g : TG} {tb : TGn} {pos : Pos} (hp : PassesOwn (model X.prog X.w) X.A X.env X.xe) (hc : X.calm = true) (hi : PI X tg iter wi) (hg : PG X tg g) (hb : GSs X body tb)
    (hs : ∀ x, foldedSetIterable iter X.env x = pure x := by intro _; rfl) : GS X (.For tg iter body [] pos) (tGFor wi g tb) := by
  refine ⟨fun A S ip R n ys s₀ c fs K J gd lv s σ H D gc hn k hI ht => ?_⟩
  obtain ⟨acc, cc, r, I⟩ := hI
  refine seg_For hs ?_
  rw [gc.over]
  refine wpAny_mono (hi.run _ s σ H _ I ht) (fun v s1 h1 => wpAny_mono h1 (fun itv s2 h2 => ?_) fun x s' hx => k.exc _ s₀ x s' hx) fun x s' hx => k.exc _ s₀ x s' hx
  intro p
  obtain ⟨it, fp, tn, JJ, H2, e, I2, T, st2, f2, W, ⟨m0, w0⟩, turn⟩ := h2
  subst e
  have f2S : ∀ b ∈ fp, S ≠ b := fun b hb' => (f2 b hb').2.2.2.2.2 (S, lstObj acc cc) (List.mem_append_right _ List.mem_cons_self)
  have stat : ∀ {H' : Hp} {acc' : Array Value} {cc' : Nat}, (∀ b ∈ fp, H' b = none) → ∀ b ∈ fp, FpOk X ((S, lstObj acc' cc') :: ip) H' b := fun {H' acc' cc'} hn' b hb' => by
    obtain ⟨_, q1, q2, q3, q4, q5⟩ := f2 b hb'
    refine ⟨hn' b hb', q1, q2, q3, q4, fun p hp' => ?_⟩
    rcases List.mem_append.mp hp' with z | z
    · exact q5 p (List.mem_append_left _ z)
    · rcases List.mem_cons.mp z with z | z
      · rw [z]; exact f2S b hb'
      · exact q5 p (List.mem_append_right _ (List.mem_cons_of_mem _ z))
  have gl := fun (kk : Result → Sem PySem.Fin) => gc_loop (k := kk) (c' := .forLoop tg (.ref it) body [] X.env) (l := lv []) (kp := []) (p := p) gc rfl rfl
  have gk := gl (fun r => ((match r with | .ok f => (.pure f : Sem Flow) | .error e => .raise e).onRaise (cameBack X.env)).wrap K J gd lv)
  have ee : ∀ (n : Nat) (s₀ : Shared) (x : Value) (s' : Shared), X.xe x s' → Seg (model X.prog X.w) A R (GY X S) n s₀ (.forLoop tg (.ref it) body [] X.env) (noted X.env x)
      (.ret (fun r => ((match r with | .ok f => (.pure f : Sem Flow) | .error e => .raise e).onRaise (cameBack X.env)).wrap K J gd lv) none (gd false) (lv []) c p [] :: fs) s' := fun n s₀ x s' hx => by
    refine seg_wrap ?_
    rw [(gl _).over]
    refine wpAny_bind (wpAny_mono (hp x s' hx) (fun _ s'' hcb => wpAny_theTreesLotGoes ?_) fun y s'' hcb => ?_)
    · exact seg_leaf (.error x) (seg_cameBack gc k hcb)
    · exact seg_leaf (.error y) (seg_cameBack gc k hcb)
  have loop : ∀ (m i n : Nat) (ys : List V) (s₀ s : Shared) (σ : L2.St) (H : Hp), n + ys.length = sizeLine → W i m ys σ H → GI X S ip ys σ H s → tn i s.heap → (∀ b ∈ fp, H b = none) →
      Seg (model X.prog X.w) A R (GY X S) n s₀ (.forLoop tg (.ref it) body [] X.env) ((model X.prog X.w).den (.forLoop tg (.ref it) body [] X.env))
        (.ret (fun r => ((match r with | .ok f => (.pure f : Sem Flow) | .error e => .raise e).onRaise (cameBack X.env)).wrap K J gd lv) none (gd false) (lv []) c p [] :: fs) s := by
    intro m
    induction m using Nat.strongRecOn with
    | ind m ih =>
      intro i n ys s₀ s σ H hn w hI st fr
      refine seg_forLoop ?_
      rw [(gl _).over]
      obtain ⟨acc, cc, r, I⟩ := hI
      rcases turn i m ys σ H w with ⟨stop, qn⟩ | ⟨go, N, hN, step⟩
      · refine wpAny_mono (T.done X rfl rfl rfl hc i _ s σ H X.xe I (stat fr) st stop) (fun rr s4 h4 => ?_) fun x s' hx => ee n s₀ x s' hx
        obtain ⟨hr, I4⟩ := h4
        subst hr
        exact seg_leaf (.ok .next) (k.ok n ys s₀ s4 .next hn ⟨σ, H, ⟨acc, cc, r, I4⟩, qn⟩)
      · refine wpAny_mono (T.item X rfl rfl rfl hc i _ s σ H X.xe I (stat fr) st go) (fun rr s4 h4 => ?_) fun x s' hx => ee n s₀ x s' hx
        obtain ⟨u, hr, h4⟩ := h4
        subst hr
        refine wpAny_mono h4 (fun _ s5 h5 => ?_) fun x s' hx => ee n s₀ x s' hx
        obtain ⟨x, H5, I5, r5, y5, st5, fr5⟩ := h5
        have I5' := I5.pinned (stat fr5) (T.obj _ _ st5)
        refine wpAny_mono (hg.run _ s5 σ H5 x u _ I5' r5 (step x H5 y5)) (fun _ s6 h6 => ?_) fun x s' hx => ee n s₀ x s' hx
        obtain ⟨σ6, H6, I6, q6⟩ := h6
        have G6 : GI X S (ip ++ pinsAt fp s5.heap) ys σ6 H6 s6 := ⟨acc, cc, r, I6⟩
        have gc2 : GC X S (ip ++ pinsAt fp s5.heap) A (.forLoop tg (.ref it) body [] X.env) (.ret (fun r => ((match r with | .ok f => (.pure f : Sem Flow) | .error e => .raise e).onRaise (cameBack X.env)).wrap K J gd lv) none (gd false) (lv []) c p [] :: fs) id :=
          ⟨gk.pn, fun q hq => by
            rcases List.mem_append.mp hq with z | z
            · exact gk.ip q z
            · exact (f2S _ (of_pinsAt z).1).symm, gk.apart, gk.over, gk.split, gk.guard, rfl⟩
        have drop : ∀ {ys7 : List V} {σ7 : L2.St} {H7 : Hp} {s7 : Shared}, GI X S (ip ++ pinsAt fp s5.heap) ys7 σ7 H7 s7 → GI X S ip ys7 σ7 H7 s7 := fun {ys7 σ7 H7 s7} h => by
          obtain ⟨acc7, cc7, r7, I7⟩ := h
          have I7' : Inv X (((S, lstObj acc7 cc7) :: ip) ++ pinsAt fp s5.heap) σ7 H7 s7 := I7
          exact ⟨acc7, cc7, r7, I7'.unpinned⟩
        have again : ∀ {n7 : Nat} {ys7 : List V} {σ7 : L2.St} {H7 : Hp} {s07 s7 : Shared}, n7 + ys7.length = sizeLine → GI X S (ip ++ pinsAt fp s5.heap) ys7 σ7 H7 s7 → N ys7 σ7 H7 → Seg (model X.prog X.w) A R (GY X S) n7 s07 (.forLoop tg (.ref it) body [] X.env) (.pure (.again (.forLoop tg (.ref it) body [] X.env)))
            (.ret (fun r => ((match r with | .ok f => (.pure f : Sem Flow) | .error e => .raise e).onRaise (cameBack X.env)).wrap K J gd lv) none (gd false) (lv []) c p [] :: fs) s7 := fun {n7 ys7 σ7 H7 s07 s7} hn7 h n7' => by
          obtain ⟨m', hm, w7⟩ := hN ys7 σ7 H7 n7'
          have h' := h
          obtain ⟨acc7, cc7, r7, I7⟩ := h
          refine seg_again rfl (ih m' hm (i + 1) n7 ys7 s07 s7 σ7 H7 hn7 w7 (drop h') (T.keep _ _ _ st5 fun b hb' o e => (I7.pin (b, o) (List.mem_append_right _ (List.mem_cons_of_mem _ (List.mem_append_right _ (mem_pinsAt hb' e))))).1) fun b hb' => ?_)
          obtain ⟨o, e, d⟩ := T.obj _ _ st5 b hb'
          exact (I7.pin (b, o) (List.mem_append_right _ (List.mem_cons_of_mem _ (List.mem_append_right _ (mem_pinsAt hb' e))))).2.1
        refine hb.run A S (ip ++ pinsAt fp s5.heap) R n ys s₀ _ _ _ _ id id s6 σ6 H6 { D with nx := N, ct := N, bk := D.nx } gc2 hn ⟨fun n' ys' s₀' s3 f hn' hs' => ?_, fun n' s₀' x s3 hx => ee n' s₀' x s3 hx⟩ G6 q6
        cases f with
        | next =>
          obtain ⟨σ3, H3, I3, n3⟩ := hs'
          exact again hn' I3 n3
        | cont =>
          obtain ⟨σ3, H3, I3, n3⟩ := hs'
          exact again hn' I3 n3
        | brk =>
          obtain ⟨σ3, H3, I3, n3⟩ := hs'
          exact seg_leaf (.ok .next) (k.ok n' ys' s₀' s3 .next hn' ⟨σ3, H3, drop I3, n3⟩)
        | ret v =>
          obtain ⟨v3, σ3, H3, I3, r3, n3⟩ := hs'
          exact seg_leaf (.ok (.ret v)) (k.ok n' ys' s₀' s3 (.ret v) hn' ⟨v3, σ3, H3, drop I3, r3, n3⟩)
  exact loop m0 0 n ys s₀ s2 σ H2 hn w0 ⟨acc, cc, r, I2⟩ st2 fun b hb' => (f2 b hb').1
/-- a loop over it: Pv by the turn, what is out, the slots and the heap -/
theorem gfor_it {J : It} {n : Nat} {G : Hp → Prop} {Y : Nat → Hp → V → Hp → Prop} (w : Walk J n G Y) {g : TG} {tb : TGn} {D : GEnds} {ys : List V} {σ : L2.St} {H : Hp} (Pv : Nat → List V → L2.St → Hp → Prop) (h0 : Pv 0 ys σ H) (hG : ∀ i ys σ H, i ≤ n → Pv i ys σ H → G H)
    (hs : ∀ i x ys σ H H', i < n → Pv i ys σ H → Y i H x H' → g x σ H' fun σ2 H2 => tb { D with nx := Pv (i + 1), ct := Pv (i + 1), bk := D.nx } ys σ2 H2) (hd : ∀ ys σ H, Pv n ys σ H → D.nx ys σ H) :
    ∃ W : Nat → Nat → List V → L2.St → Hp → Prop, (∃ m, W 0 m ys σ H) ∧ ∀ i m ys σ H, W i m ys σ H →
      (J.stop i H ∧ D.nx ys σ H) ∨ (J.go i H ∧ ∃ N : List V → L2.St → Hp → Prop, (∀ ys' σ' H', N ys' σ' H' → ∃ m', m' < m ∧ W (i + 1) m' ys' σ' H') ∧ ∀ x H', J.yld i H x H' → g x σ H' fun σ2 H2 => tb { D with nx := N, ct := N, bk := D.nx } ys σ2 H2) := by
  refine ⟨fun i m ys σ H => m = n - i ∧ i ≤ n ∧ Pv i ys σ H, ⟨n, by simp, Nat.zero_le _, h0⟩, ?_⟩
  rintro i m ys σ H ⟨rfl, hi, p⟩
  have q := hG i ys σ H hi p
  by_cases hlt : i < n
  · exact .inr ⟨w.goes i H hlt q, Pv (i + 1), fun ys' σ' H' p' => ⟨n - (i + 1), by omega, rfl, hlt, p'⟩, fun x H' y => hs i x ys σ H H' hlt p (w.yields i H x H' hlt q y)⟩
  · have e : i = n := by omega
    subst e
    exact .inl ⟨w.stops H q, hd ys σ H p⟩
/-- the generator def at f keeps sp (nothing is raised) -/
def Gp (P : Program) (w : World) (K : PySem.W.Frag) (mg : Str → Option Value) (base : Heap) (k : Nat) (f : Addr) (sp : SpG) : Prop := ∃ fd ps, GFn P w K mg base k f fd ps sp ∧ Binds K fd ps [] ∧ PySem.W.keepIn K (.ref f) = true
theorem gp_of {P : Program} {w : World} {K : PySem.W.Frag} {mg : Str → Option Value} {base : Heap} {k : Nat} {f : Addr} {sp : SpG} {x qual : Str} {st : Stmt} {kws : List (Str × V)} {N ps : List Str} (D : ∃ fd, FunD K x qual (defArgs st) (defBody st) (defScope st) [] kws f fd) (S : GScope N ps (defScope st))
    (hb : ∀ (kV doc pm : Value) (an : Option Addr) (cdv ct : Value) (us : List Value), us.length = ps.length → bindArgs (PySem.W.fnOf x qual (defArgs st) (defBody st) (defScope st) .none kV doc pm an cdv ct) ⟨us, []⟩ = pure (ps.zip us))
    (len : ∀ vs H Q E, sp vs H Q E → vs.length = ps.length)
    (hbody : ∀ (cdv : Value) (A : Around) (outer : List Env) (s : Shared) (H : Hp) (vs : List V) (Q : List V → Hp → Prop) (E : XK) (pn : List (Addr × Obj)), Room k (A.deeper (envOfC qual (defScope st) s.heap.objs.size f cdv)) → sp vs H Q E →
      ∃ t, GSs (gcxOf P w K mg base N qual (defScope st) f cdv A outer s H E pn) (defBody st) t ∧ t { nx := fun ys _ H' => Q ys H', rt := fun ys v H' => v = .non ∧ Q ys H' } [] (start N vs) H) : Gp P w K mg base (k + 1) f sp := by
  obtain ⟨fd, F⟩ := D
  refine ⟨fd, ps, ?_, F.bindsN hb, F.kp⟩
  obtain ⟨oc, od, dV, kV, doc, pm, an, cdv, ct, osl, rfl, lk, hcd, _, _⟩ := F.ex
  exact gfn_of lk hcd S len fun A outer s H vs Q E pn hr h => hbody cdv A outer s H vs Q E pn hr h
/-- list(f(..)), f a generator def -/
theorem pe_listG0 {X : Cx} {k : Nat} {f : Addr} {sp : SpG} {x : Str} {p p2 pos pos2 : Pos} {e : Expr} {es : List Expr} {t : TA} (G : Gp X.prog X.w X.K X.mg X.base k f sp) (hr : Room (k + 3) X.A) (hm : X.mg x = some (.ref f)) (hl : X.mg ("list" : Str) = none) (ha : PA X (e :: es) t)
    (hg : Gl X x := by rfl) (hgl : Gl X "list" := by rfl) (hdb : (x == ("__debug__" : Str)) = false := by decide)
    (he : starEach (e :: es) X.env = (false, eval e X.env) :: starEach es X.env := by rfl) (hpl : (backTo pos2 (starEach es X.env)).any (·.1) = false := by rfl)
    (he2 : starEach [.Call (.Name x p2) (e :: es) [] pos2] X.env = (false, eval (.Call (.Name x p2) (e :: es) [] pos2) X.env) :: starEach [] X.env := by rfl) :
    PE X (.Call (.Name "list" p) [.Call (.Name x p2) (e :: es) [] pos2] [] pos) (tListG (tCallG sp [] E0 t)) := by
  obtain ⟨fd, ps, F, b, kp⟩ := G
  exact pe_listG (pgen_call F (hr.mono (by omega)) hg hm kp b .nil ha hdb he hpl) passL (fun _ _ _ h => h.elim) hr hgl hl b_list (by decide) (by decide) he2
end Pk
/-! ## == of flat lists and tuples -/
namespace Pk
open PySem PySem.Spec PyProof.Rows L2
def dOf : V → PyData
  | .int i => .int i
  | .str z => .str z
  | _ => .none
def okV : V → Bool
  | .int _ => true
  | .non => true
  | .str z => PyData.strOk z
  | _ => false
theorem dOf_dp {K : Fr} {H : Hp} {x : V} (h : okV x = true) : Dp K H x (dOf x) := by
  cases x with
  | non => exact .non
  | int i => exact .int i
  | str z => exact .str z
  | _ => cases h
theorem dOf_dpA {K : Fr} {H : Hp} : ∀ {xs : List V}, xs.all okV = true → DpAll K H xs (xs.map dOf)
  | [], _ => .nil
  | x :: r, h => by
    rw [List.all_cons, Bool.and_eq_true] at h
    exact .cons (dOf_dp h.1) (dOf_dpA h.2)
theorem dOf_lay {x : V} (h : okV x = true) : (dOf x).canLay0 = true := by
  cases x with
  | non => simp [dOf, PyData.canLay0]
  | int i => simp [dOf, PyData.canLay0]
  | str z =>
    simp only [dOf, PyData.canLay0]
    exact h
  | _ => cases h
theorem dOf_layA : ∀ {xs : List V}, xs.all okV = true → PyData.canLayAll0 (xs.map dOf) = true
  | [], _ => by simp [PyData.canLayAll0]
  | x :: r, h => by
    rw [List.all_cons, Bool.and_eq_true] at h
    rw [List.map_cons]
    simp [PyData.canLayAll0, dOf_lay h.1, dOf_layA h.2]
theorem dOf_depth (x : V) : (dOf x).depth = 0 := by cases x <;> simp [dOf, PyData.depth]
theorem dOf_depthA : ∀ xs : List V, PyData.depthAll (xs.map dOf) ≤ 1
  | [] => by simp [PyData.depthAll]
  | x :: r => by
    have := dOf_depthA r
    have h2 := dOf_depth x
    rw [List.map_cons]
    simp only [PyData.depthAll, h2]
    omega
theorem shapedL {xs : List V} (h : xs.all okV = true) : SeqAt.shaped (.list (xs.map dOf)) = true := by
  have h1 := dOf_depthA xs
  have h2 : PyData.depth (.list (xs.map dOf)) ≤ 64 := by simp only [PyData.depth]; omega
  show (PyData.canLay0 (.list (xs.map dOf)) && decide (PyData.depth (.list (xs.map dOf)) ≤ 64)) = true
  rw [decide_eq_true h2, Bool.and_true]
  simp only [PyData.canLay0]
  exact dOf_layA h
theorem shapedT {xs : List V} (h : xs.all okV = true) : SeqAt.shaped (.tuple (xs.map dOf)) = true := by
  have h1 := dOf_depthA xs
  have h2 : PyData.depth (.tuple (xs.map dOf)) ≤ 64 := by simp only [PyData.depth]; omega
  show (PyData.canLay0 (.tuple (xs.map dOf)) && decide (PyData.depth (.tuple (xs.map dOf)) ≤ 64)) = true
  rw [decide_eq_true h2, Bool.and_true]
  simp only [PyData.canLay0]
  exact dOf_layA h
theorem dOf_eqv {x y : V} (h1 : okV x = true) (h2 : okV y = true) : PyData.eqv (dOf x) (dOf y) = decide (x = y) := by
  cases x <;> cases y <;> first | (cases h1; done) | (cases h2; done) | skip
  all_goals rw [Bool.eq_iff_iff]
  all_goals simp [dOf, PyData.eqv]
theorem dOf_eqvA : ∀ {xs ys : List V}, xs.all okV = true → ys.all okV = true → PyData.eqvAll (xs.map dOf) (ys.map dOf) = decide (xs = ys)
  | [], [], _, _ => by simp [PyData.eqvAll]
  | [], _ :: _, _, _ => by simp [PyData.eqvAll]
  | _ :: _, [], _, _ => by simp [PyData.eqvAll]
  | x :: r, y :: s, h1, h2 => by
    rw [List.all_cons, Bool.and_eq_true] at h1 h2
    rw [List.map_cons, List.map_cons]
    show (PyData.eqv (dOf x) (dOf y) && PyData.eqvAll (r.map dOf) (s.map dOf)) = _
    rw [dOf_eqv h1.1 h2.1, dOf_eqvA h1.2 h2.2, Bool.eq_iff_iff]
    simp
def rEqF (K : Fr) : R2 := fun x y H Q => ∃ a b xs ys, x = .ref a ∧ y = .ref b ∧ ((SqL K H a xs ∧ SqL K H b ys) ∨ (SqT K H a xs ∧ SqT K H b ys)) ∧ xs.all okV = true ∧ ys.all okV = true ∧ Q (.bl (decide (xs = ys))) H
def rNeF (K : Fr) : R2 := fun x y H Q => ∃ a b xs ys, x = .ref a ∧ y = .ref b ∧ ((SqL K H a xs ∧ SqL K H b ys) ∨ (SqT K H a xs ∧ SqT K H b ys)) ∧ xs.all okV = true ∧ ys.all okV = true ∧ Q (.bl (!decide (xs = ys))) H
section
variable {X : Cx}
theorem eqF (K : Fr) (hu : X.A.units + 64 < cLine) (h : X.K = K := by rfl) : OpR X (compareOp .Eq) (rEqF K) := by
  subst h
  intro pins s σ H x y v u Q I rx ry ⟨a, b, xs, ys, ex, ey, hs, ox, oy, q⟩
  rcases hs with ⟨s1, s2⟩ | ⟨s1, s2⟩
  · refine op_eqD hu pins s σ H x y v u Q I rx ry ⟨.list (xs.map dOf), .list (ys.map dOf), ex ▸ .lst s1 (dOf_dpA ox), ey ▸ .lst s2 (dOf_dpA oy), shapedL ox, shapedL oy, ?_⟩
    simp only [PyData.eqv]
    rw [dOf_eqvA ox oy]
    exact q
  · refine op_eqD hu pins s σ H x y v u Q I rx ry ⟨.tuple (xs.map dOf), .tuple (ys.map dOf), ex ▸ .tup s1 (dOf_dpA ox), ey ▸ .tup s2 (dOf_dpA oy), shapedT ox, shapedT oy, ?_⟩
    simp only [PyData.eqv]
    rw [dOf_eqvA ox oy]
    exact q
theorem neF (K : Fr) (hu : X.A.units + 64 < cLine) (h : X.K = K := by rfl) : OpR X (compareOp .NotEq) (rNeF K) := by
  subst h
  intro pins s σ H x y v u Q I rx ry ⟨a, b, xs, ys, ex, ey, hs, ox, oy, q⟩
  rcases hs with ⟨s1, s2⟩ | ⟨s1, s2⟩
  · refine op_neD hu pins s σ H x y v u Q I rx ry ⟨.list (xs.map dOf), .list (ys.map dOf), ex ▸ .lst s1 (dOf_dpA ox), ey ▸ .lst s2 (dOf_dpA oy), shapedL ox, shapedL oy, ?_⟩
    simp only [PyData.eqv]
    rw [dOf_eqvA ox oy]
    exact q
  · refine op_neD hu pins s σ H x y v u Q I rx ry ⟨.tuple (xs.map dOf), .tuple (ys.map dOf), ex ▸ .tup s1 (dOf_dpA ox), ey ▸ .tup s2 (dOf_dpA oy), shapedT ox, shapedT oy, ?_⟩
    simp only [PyData.eqv]
    rw [dOf_eqvA ox oy]
    exact q
def rEqB (K : Fr) : R2 := fun x y H Q => rEq x y H Q ∨ rEqF K x y H Q ∨ rEqD K x y H Q ∨ rEqDA x y H Q
theorem eqB (K : Fr) (hu : X.A.units + 64 < cLine) (h : X.K = K := by rfl) : OpR X (compareOp .Eq) (rEqB K) := op_eq.or ((eqF K hu h).or (OpR.or (by subst h; exact op_eqD hu) (op_eq_dictA (by omega))))
def rNeB (K : Fr) : R2 := fun x y H Q => rNe x y H Q ∨ rNeF K x y H Q ∨ rNeD K x y H Q ∨ rNeDA x y H Q
theorem neB (K : Fr) (hu : X.A.units + 64 < cLine) (h : X.K = K := by rfl) : OpR X (compareOp .NotEq) (rNeB K) := op_ne.or ((neF K hu h).or (OpR.or (by subst h; exact op_neD hu) (op_ne_dictA (by omega))))
end
theorem okV_app {xs ys : List V} (h1 : xs.all okV = true) (h2 : ys.all okV = true) : (xs ++ ys).all okV = true := by rw [List.all_append, h1, h2]; rfl
theorem okV_ints (l : List Int) : (l.map V.int).all okV = true := by
  rw [List.all_eq_true]
  intro x hx
  obtain ⟨i, _, rfl⟩ := List.mem_map.mp hx
  rfl
theorem okV_cV (n : Nat) (g : Nat → Int) : (cV n g).all okV = true := by
  rw [List.all_eq_true]
  intro x hx
  obtain ⟨i, _, rfl⟩ := List.mem_map.mp hx
  rfl
end Pk
namespace Pk
open PySem PySem.Spec PyProof.Rows L2
/-! ### text * int -/
theorem foldl_repS (z : List Nat) : ∀ (m : Nat) (acc : List Nat), List.foldl (fun (a b : Array Nat) => a ++ b) acc.toArray (List.replicate m z.toArray) = (acc ++ (List.replicate m z).flatten).toArray
  | 0, acc => by simp
  | m + 1, acc => by
    rw [List.replicate_succ, List.foldl_cons, List.append_toArray, foldl_repS z m (acc ++ z), List.replicate_succ, List.flatten_cons, List.append_assoc]
def rMulS : R2 := fun x y H Q => ∃ (z : List Nat) (n : Int), x = .str (sL z) ∧ y = .int n ∧ 1 ≤ n ∧ n ≤ 1000 ∧ z.length ≤ 10000 ∧ Q (.str (sL (List.replicate n.toNat z).flatten)) H
theorem op_mulS {X : Cx} : OpR X (binaryOp .Mult) rMulS := by
  intro pins s σ H x y v u Q I rx ry ⟨z, n, ex, ey, h1, h2, h3, q⟩
  subst ex ey
  obtain ⟨t, rfl⟩ := rx
  obtain ⟨t2, rfl⟩ := ry
  have hl : (sL z).length = z.length := sL_len z
  refine P.mul_str (by rw [decide_eq_false (by omega), decide_eq_false (by omega)]; rfl) (fun _ _ => ?_) (fun _ _ => ?_) ?_
  · rw [hl]
    have : (2 ^ 63 - 1) / n ≥ (2 ^ 63 - 1) / 1000 := by
      refine Int.le_ediv_of_mul_le (by omega) ?_
      omega
    omega
  · unfold Builtin.Str.tooLong
    rw [hl]
    have a1 : z.length * n.toNat ≤ 10000 * 1000 := Nat.mul_le_mul h3 (by omega)
    exact decide_eq_false (by rw [sizeLine_eq]; omega)
  · rw [if_neg (by omega)]
    by_cases hc : (n == 1 || (sL z).length == 0) = true
    · rw [if_pos hc]
      have e : (List.replicate n.toNat z).flatten = z := by
        rw [Bool.or_eq_true] at hc
        rcases hc with hc | hc
        · have : n = 1 := by simpa using hc
          subst this
          simp
        · have h0 : z = [] := by
            have : (sL z).length = 0 := by simpa using hc
            rw [hl] at this
            exact List.length_eq_zero_iff.mp this
          subst h0
          simp
      rw [e] at q
      exact ⟨.str (sL z), H, I, ⟨t, rfl⟩, q⟩
    · rw [if_neg hc]
      have e : (⟨(List.replicate n.toNat (sL z).cps).foldl (· ++ ·) #[]⟩ : Str) = sL (List.replicate n.toNat z).flatten := by
        have := foldl_repS z n.toNat []
        rw [List.nil_append] at this
        show (⟨List.foldl _ [].toArray (List.replicate n.toNat z.toArray)⟩ : Str) = _
        rw [this]
        rfl
      rw [e]
      refine ⟨?_, .str (sL (List.replicate n.toNat z).flatten), H, I.tok _, ⟨_, rfl⟩, q⟩
      rw [sizeLine_eq]
      show (sL (List.replicate n.toNat z).flatten).length ≤ _
      rw [sL_len]
      simp
      have a1 : n.toNat * z.length ≤ 1000 * 10000 := Nat.mul_le_mul (by omega) h3
      omega
end Pk
namespace Pk
open PySem PySem.Spec PyProof.Rows L2
def rMulB : R2 := fun x y H Q => rI CMul (fun i j => .int (i * j)) x y H Q ∨ rRep x y H Q ∨ rMulS x y H Q
theorem mulB {X : Cx} : OpR X (binaryOp .Mult) rMulB := op_mul.or (op_rep.or op_mulS)
end Pk
namespace Pk
open PySem PySem.Spec PyProof.Rows L2
theorem pe_imp {X : Cx} {e : Expr} {t t' : TE} (h : PE X e t) (i : ∀ σ H Q, t' σ H Q → t σ H Q) : PE X e t' := ⟨fun pins s σ H Q I hw => h.run pins s σ H Q I (i _ _ _ hw)⟩
theorem pe_makeR0 {X : Cx} {CX : CXT} {k : Nat} {f C : Addr} {sp : Sp} {E : XK} {x : Str} {p pos : Pos} (M : Mk X.K C f) (F : FnR X.prog X.w X.K X.mg X.base CX k f sp) (hr : Room (k + 1) X.A) (hg : Gl X x) (hm : X.mg x = some (.ref C)) (hx : Passes CX X E) (hdb : (x == ("__debug__" : Str)) = false := by decide) :
    PE X (.Call (.Name x p) [] [] pos) (StX.tMakeR C sp E tNil) := by
  refine ⟨fun pins s σ H Q I h => ?_⟩
  refine wpAny_Call_Name_kw (ld_glob I hg hm ?_ hdb)
  exact PySem.W.callWith_K0 I.kIn M.kp (StX.run_makeR (us := []) M F hr hx I .nil h)
end Pk
namespace Pk
open PySem PySem.Spec PyProof.Rows L2
def rListK (K : Fr) : List V → Hp → VK → Prop := fun xs H Q => ∃ (p : Addr) (ys : List V), xs = [.ref p] ∧ (SqL K H p ys ∨ SqT K H p ys) ∧ ∀ (l : Addr), H l = none → Q (.ref l) (upd H l (.lst ys))
theorem listK {X : Cx} (K : Fr) (h : X.K = K := by rfl) : CallR X (.type "list") (rListK K) := h ▸ call_list_of
end Pk
namespace Pk
open PySem PySem.Spec PyProof.Rows L2
/-- a comprehension without a test, whatever its step changes -/
theorem lc_all {J : It} {n : Nat} {G : Hp → Prop} {Y : Nat → Hp → V → Hp → Prop} (w : Walk J n G Y) {g : TG} {te : TE} {vs : List Nat} {σ : L2.St} {H1 : Hp} {D : Addr} {Qd : Hp → Prop} (Pv : Nat → Hp → Prop) (h0 : Pv 0 (upd H1 D (.lst []))) (hG : ∀ i H, i ≤ n → Pv i H → G H)
    (hs : ∀ i x H H', i < n → Pv i H → Y i H x H' → g x (wipe σ vs) H' fun σ2 H2 => wipe σ2 vs = wipe σ vs ∧ te σ2 H2 fun y H4 => ∃ acc, H4 D = some (.lst acc) ∧ acc.length < sizeLine ∧ Pv (i + 1) (upd H4 D (.lst (acc ++ [y])))) (hd : ∀ H, Pv n H → Qd H) :
    ∃ W : Nat → Nat → Hp → Prop, (∃ m, W 0 m (upd H1 D (.lst []))) ∧ ∀ i m H, W i m H →
      (J.stop i H ∧ Qd H) ∨ (J.go i H ∧ ∃ Nx : Hp → Prop, (∀ H', Nx H' → ∃ m', m' < m ∧ W (i + 1) m' H') ∧ ∀ x H', J.yld i H x H' → g x (wipe σ vs) H' fun σ2 H2 => wipe σ2 vs = wipe σ vs ∧ tYes σ2 H2 fun b H3 =>
        if b = true then te σ2 H3 fun y H4 => ∃ acc, H4 D = some (.lst acc) ∧ acc.length < sizeLine ∧ Nx (upd H4 D (.lst (acc ++ [y]))) else Nx H3) :=
  lc_it w Pv h0 hG (fun i x H H' hi p y => hs i x H H' hi p y) hd
end Pk
/-! ## Where keys of a kind stand -/
namespace Pk
open PySem L2
def cntP (st : List Stp) (P : Nat → Bool) (p : Nat) : Nat := ((ex st).take p).countP P
theorem cntP_zero (st : List Stp) (P : Nat → Bool) : cntP st P 0 = 0 := rfl
theorem cntP_mono (st : List Stp) (P : Nat → Bool) {p q : Nat} (h : p ≤ q) : cntP st P p ≤ cntP st P q := by
  unfold cntP
  exact List.Sublist.countP_le (List.take_sublist_take_left h)
theorem cnt_cntP (st : List Stp) (k p : Nat) : cnt st k p = cntP st (fun x => x == k) p := rfl
theorem rep_countP (P : Nat → Bool) (seg : List Nat) (n : Nat) : ((List.replicate n seg).flatten).countP P = n * seg.countP P := by
  induction n with
  | zero => simp
  | succ n ih =>
    rw [List.replicate_succ, List.flatten_cons, List.countP_append, ih, Nat.succ_mul]
    omega
theorem part_countP (E : List Nat) (P : Nat → Bool) (f m : Nat) : ((E.drop f).take m).countP P = (E.take (f + m)).countP P - (E.take f).countP P := by
  have e : E.take (f + m) = E.take f ++ (E.drop f).take m := List.take_add
  rw [e, List.countP_append]
  omega
theorem cntP_wr {most : Nat} {st : List Stp} {i : Nat} {w : List Nat} (h : Goes most 0 st) (e : st[i]? = some (.wr w)) (P : Nat → Bool) (m : Nat) (hm : m ≤ w.length) :
    cntP st P (sz (st.take i) + m) = cntP st P (sz (st.take i)) + (List.range' (nk (st.take i)) m).countP P := by
  obtain ⟨A, F, h1, h2, h3, h4⟩ := ex_split h e
  have hA : A = List.range' (nk (st.take i)) w.length := (List.append_cancel_left h2).symm
  unfold cntP
  rw [h1, ← h4, List.take_length_add_append, List.take_left, List.countP_append, List.take_append_of_le_length (by rw [h3]; exact hm), hA]
  congr 1
  have e3 : (List.range' (nk (st.take i)) w.length).take m = List.range' (nk (st.take i)) m := by
    refine List.ext_getElem (by simp; omega) fun j h1 h2 => ?_
    simp
  rw [e3]
theorem cntP_pa {most : Nat} {st : List Stp} {i f l t : Nat} (h : Goes most 0 st) (e : st[i]? = some (.pa f l t)) (P : Nat → Bool) (m : Nat) (hm : m ≤ (l + 1 - f) * t) :
    cntP st P (sz (st.take i) + m) = cntP st P (sz (st.take i)) + (m / (l + 1 - f)) * (cntP st P (l + 1) - cntP st P f) + (cntP st P (f + m % (l + 1 - f)) - cntP st P f) := by
  obtain ⟨A, F, h1, h2, h3, h4⟩ := ex_split h e
  obtain ⟨ok, _⟩ := goes_at h e
  simp [Stp.ok] at ok
  have hA : A = (List.replicate t (((ex (st.take i)).drop f).take (l + 1 - f))).flatten := (List.append_cancel_left h2).symm
  have hseg : (((ex (st.take i)).drop f).take (l + 1 - f)).length = l + 1 - f := by
    rw [List.length_take, List.length_drop, h4]
    omega
  have low : ∀ q, q ≤ sz (st.take i) → (ex st).take q = (ex (st.take i)).take q := fun q hq => by
    rw [h1, List.take_append_of_le_length (by omega)]
  have hmod : m % (l + 1 - f) < l + 1 - f := Nat.mod_lt _ (by omega)
  unfold cntP
  rw [low (l + 1) (by omega), low f (by omega), low (f + m % (l + 1 - f)) (by omega)]
  rw [h1, ← h4, List.take_length_add_append, List.take_left, List.countP_append, List.take_append_of_le_length (by rw [h3]; exact hm), hA, rep_take _ _ _ (by rw [hseg]; exact hm), hseg, List.countP_append, rep_countP, part_countP, List.take_take, Nat.min_eq_left (by omega), part_countP]
  rw [show f + (l + 1 - f) = l + 1 by omega]
  omega
theorem cntP_paI {most : Nat} {st : List Stp} {i f l t : Nat} (h : Goes most 0 st) (e : st[i]? = some (.pa f l t)) (P : Nat → Bool) (m : Nat) (hm : m ≤ (l + 1 - f) * t) :
    (cntP st P (sz (st.take i) + m) : Int) = (cntP st P (sz (st.take i)) : Int) + ((m / (l + 1 - f) : Nat) : Int) * ((cntP st P (l + 1) : Int) - (cntP st P f : Int)) - (cntP st P f : Int) + (cntP st P (f + m % (l + 1 - f)) : Int) := by
  obtain ⟨ok, _⟩ := goes_at h e
  simp [Stp.ok] at ok
  have h1 := cntP_mono st P (show f ≤ l + 1 by omega)
  have h2 := cntP_mono st P (show f ≤ f + m % (l + 1 - f) by omega)
  rw [cntP_pa h e P m hm, ← Int.ofNat_sub h1]
  rw [Int.natCast_add, Int.natCast_add, Int.natCast_mul, Int.ofNat_sub h2]
  omega
theorem keeps_pre {v : Nat → V} {f : Nat → Bool} : ∀ (n m : Nat), m ≤ n → (∀ i, i < n → f i = decide (i < m)) → keeps n f v = (List.range m).map v
  | 0, m, h, _ => by
    have : m = 0 := by omega
    subst this
    rfl
  | n + 1, m, h, hf => by
    rw [keeps_succ]
    by_cases e : m = n + 1
    · subst e
      rw [if_pos (by rw [hf n (by omega)]; simp), keeps_pre n n (Nat.le_refl _) fun i hi => by rw [hf i (by omega), decide_eq_true (by omega), decide_eq_true hi], List.range_succ, List.map_append]
      rfl
    · rw [if_neg (by rw [hf n (by omega)]; simp; omega)]
      exact keeps_pre n m (by omega) fun i hi => hf i (by omega)
theorem sz_take_mono (st : List Stp) {i j : Nat} (h : i ≤ j) : sz (st.take i) ≤ sz (st.take j) := by
  have e : st.take j = st.take i ++ (st.drop i).take (j - i) := by
    rw [← List.take_add, show i + (j - i) = j by omega]
  rw [e, sz_app]
  omega
theorem step_of {st : List Stp} : ∀ (d : Nat) {p : Nat}, 0 < p → p ≤ sz (st.take d) → ∃ m, m < d ∧ m < st.length ∧ sz (st.take m) < p ∧ p ≤ sz (st.take (m + 1))
  | 0, p, h0, h => by simp [sz] at h; omega
  | d + 1, p, h0, h => by
    by_cases h1 : p ≤ sz (st.take d)
    · obtain ⟨m, a, b, c, e⟩ := step_of d h0 h1
      exact ⟨m, by omega, b, c, e⟩
    · refine ⟨d, by omega, ?_, by omega, h⟩
      rcases Nat.lt_or_ge d st.length with z | z
      · exact z
      · rw [List.take_of_length_le (by omega)] at h
        rw [List.take_of_length_le z] at h1
        omega
theorem cntP_all {most : Nat} {st : List Stp} (h : Goes most 0 st) (P : Nat → Bool) {p : Nat} (hp : sz st ≤ p) : cntP st P p = (ex st).countP P := by
  unfold cntP
  rw [List.take_of_length_le (by rw [ex_len _ h]; exact hp)]
theorem cntP_succ {st : List Stp} {P : Nat → Bool} {p k : Nat} (h : (ex st)[p]? = some k) : cntP st P (p + 1) = cntP st P p + if P k = true then 1 else 0 := by
  unfold cntP
  rw [take_succ h, List.countP_append, List.countP_singleton]
/-- two places of such keys with as many ahead are one -/
theorem cntP_inj {st : List Stp} {P : Nat → Bool} {p q k m : Nat} (hp : (ex st)[p]? = some k) (hk : P k = true) (hq : (ex st)[q]? = some m) (hm : P m = true) (e : cntP st P p = cntP st P q) : p = q := by
  have h1 := cntP_succ (P := P) hp
  have h2 := cntP_succ (P := P) hq
  rw [if_pos hk] at h1
  rw [if_pos hm] at h2
  rcases Nat.lt_trichotomy p q with h | h | h
  · have := cntP_mono st P (show p + 1 ≤ q by omega)
    omega
  · exact h
  · have := cntP_mono st P (show q + 1 ≤ p by omega)
    omega
theorem cntP_le (st : List Stp) (P : Nat → Bool) (p : Nat) : cntP st P p ≤ p := by
  unfold cntP
  exact Nat.le_trans (List.countP_le_length) (by rw [List.length_take]; omega)
/-! ### the places themselves -/
def occL (E : List Nat) (P : Nat → Bool) (n : Nat) : List Nat := (List.range n).filter fun p => P (E.getD p 0)
def occ (st : List Stp) (P : Nat → Bool) : List Nat := occL (ex st) P (ex st).length
theorem occL_succ (E : List Nat) (P : Nat → Bool) (n : Nat) : occL E P (n + 1) = occL E P n ++ if P (E.getD n 0) = true then [n] else [] := by
  unfold occL
  rw [List.range_succ, List.filter_append]
  congr 1
  rw [List.filter_cons]
  split <;> simp
theorem occL_len (E : List Nat) (P : Nat → Bool) : ∀ n, n ≤ E.length → (occL E P n).length = (E.take n).countP P
  | 0, _ => by simp [occL]
  | n + 1, h => by
    have e : E[n]? = some (E[n]'(by omega)) := List.getElem?_eq_getElem (by omega)
    have e2 : E.getD n 0 = E[n]'(by omega) := by rw [List.getD_eq_getElem?_getD, e]; rfl
    rw [occL_succ, List.length_append, occL_len E P n (by omega), take_succ e, List.countP_append, List.countP_singleton, e2]
    split <;> rfl
theorem occL_get (E : List Nat) (P : Nat → Bool) : ∀ n, n ≤ E.length → ∀ j p, (occL E P n)[j]? = some p ↔ p < n ∧ P (E.getD p 0) = true ∧ (E.take p).countP P = j
  | 0, _, j, p => by simp [occL]
  | n + 1, h, j, p => by
    have hl := occL_len E P n (by omega)
    rw [occL_succ]
    by_cases hj : j < (occL E P n).length
    · rw [List.getElem?_append_left hj, occL_get E P n (by omega)]
      constructor
      · rintro ⟨a, b, c⟩
        exact ⟨by omega, b, c⟩
      · rintro ⟨a, b, c⟩
        refine ⟨?_, b, c⟩
        rcases Nat.lt_or_ge p n with z | z
        · exact z
        · have : p = n := by omega
          subst this
          omega
    · rw [List.getElem?_append_right (by omega)]
      constructor
      · intro z
        by_cases hP : P (E.getD n 0) = true
        · rw [if_pos hP] at z
          have h0 : j - (occL E P n).length = 0 := by
            rcases Nat.eq_zero_or_pos (j - (occL E P n).length) with y | y
            · exact y
            · rw [List.getElem?_eq_none (by simp; omega)] at z
              cases z
          rw [h0] at z
          have : n = p := by simpa using z
          subst this
          exact ⟨by omega, hP, by omega⟩
        · rw [if_neg hP] at z
          simp at z
      · rintro ⟨a, b, c⟩
        rcases Nat.lt_or_ge p n with z | z
        · have := (occL_get E P n (by omega) j p).mpr ⟨z, b, c⟩
          exact absurd (List.getElem?_eq_some_iff.mp this).1 hj
        · have : p = n := by omega
          subst this
          rw [if_pos b, show j - (occL E P p).length = 0 by omega]
          rfl
theorem occ_get {st : List Stp} {P : Nat → Bool} {j p : Nat} : (occ st P)[j]? = some p ↔ ∃ k, (ex st)[p]? = some k ∧ P k = true ∧ cntP st P p = j := by
  unfold occ
  rw [occL_get _ _ _ (Nat.le_refl _)]
  constructor
  · rintro ⟨a, b, c⟩
    refine ⟨(ex st)[p], List.getElem?_eq_getElem a, ?_, c⟩
    rw [List.getD_eq_getElem?_getD, List.getElem?_eq_getElem a] at b
    exact b
  · rintro ⟨k, a, b, c⟩
    have := (List.getElem?_eq_some_iff.mp a).1
    refine ⟨this, ?_, c⟩
    rw [List.getD_eq_getElem?_getD, a]
    exact b
theorem occ_len {st : List Stp} {P : Nat → Bool} : (occ st P).length = (ex st).countP P := by
  unfold occ
  rw [occL_len _ _ _ (Nat.le_refl _), List.take_length]
def optV : Option Nat → V
  | none => .non
  | some p => .int p
theorem occ_none {st : List Stp} (h : Goes most 0 st) {P : Nat → Bool} {n : Nat} (hn : cntP st P (sz st) ≤ n) : (occ st P)[n]? = none := by
  rw [List.getElem?_eq_none_iff, occ_len, ← cntP_all h P (Nat.le_refl _)]
  exact hn
theorem occ_some {st : List Stp} (h : Goes most 0 st) {P : Nat → Bool} {n : Nat} (hn : n < cntP st P (sz st)) : ∃ p, (occ st P)[n]? = some p := by
  rw [cntP_all h P (Nat.le_refl _), ← occ_len] at hn
  exact ⟨_, List.getElem?_eq_getElem hn⟩
theorem step_cnt {st : List Stp} {P : Nat → Bool} : ∀ (d : Nat) {n : Nat}, n < cntP st P (sz (st.take d)) → ∃ m, m < d ∧ m < st.length ∧ cntP st P (sz (st.take m)) ≤ n ∧ n < cntP st P (sz (st.take (m + 1)))
  | 0, n, h => by
    have : sz (st.take 0) = 0 := rfl
    rw [this, cntP_zero] at h
    omega
  | d + 1, n, h => by
    by_cases h1 : n < cntP st P (sz (st.take d))
    · obtain ⟨m, a, b, c, e⟩ := step_cnt d h1
      exact ⟨m, by omega, b, c, e⟩
    · refine ⟨d, by omega, ?_, by omega, h⟩
      rcases Nat.lt_or_ge d st.length with z | z
      · exact z
      · rw [List.take_of_length_le (by omega)] at h
        rw [List.take_of_length_le z] at h1
        omega
/-- a place within a pasted span, by the place that it goes back to -/
theorem occ_pa {st : List Stp} {i f l t : Nat} (h : Goes most 0 st) (e : st[i]? = some (.pa f l t)) {P : Nat → Bool} {n u : Nat} (hn : n = cntP st P (sz (st.take i)) + u) (h2 : n < cntP st P (sz (st.take (i + 1)))) :
    cntP st P f < cntP st P (l + 1) ∧ u / (cntP st P (l + 1) - cntP st P f) < t ∧ ∃ q, (occ st P)[cntP st P f + u % (cntP st P (l + 1) - cntP st P f)]? = some q ∧ f ≤ q ∧ q ≤ l ∧ (occ st P)[n]? = some (sz (st.take i) + (u / (cntP st P (l + 1) - cntP st P f)) * (l + 1 - f) + (q - f)) := by
  obtain ⟨ok, lim⟩ := goes_at h e
  simp only [Stp.ok, Bool.and_eq_true, decide_eq_true_eq] at ok
  have hz1 : sz (st.take (i + 1)) = sz (st.take i) + (l + 1 - f) * t := by rw [take_succ e, sz_app]; simp [sz, Stp.gr]
  have hw : 0 < l + 1 - f := by omega
  have hall := cntP_pa h e P ((l + 1 - f) * t) (Nat.le_refl _)
  rw [Nat.mul_div_cancel_left t hw, Nat.mul_mod_right, Nat.add_zero f, Nat.sub_self, Nat.add_zero, ← hz1] at hall
  have hm := cntP_mono st P (show f ≤ l + 1 by omega)
  have hu : u < t * (cntP st P (l + 1) - cntP st P f) := by omega
  have hpos : 0 < cntP st P (l + 1) - cntP st P f := by
    rcases Nat.eq_zero_or_pos (cntP st P (l + 1) - cntP st P f) with z | z
    · rw [z] at hu
      omega
    · exact z
  have hdiv : u / (cntP st P (l + 1) - cntP st P f) < t := by
    rw [Nat.div_lt_iff_lt_mul hpos]
    exact hu
  have hmod := Nat.mod_lt u hpos
  have hsz : sz (st.take i) ≤ sz st := by have := sz_take_mono st (show i ≤ st.length by have := (List.getElem?_eq_some_iff.mp e).1; omega); rwa [List.take_length] at this
  have hl1 := cntP_mono st P (show l + 1 ≤ sz st by omega)
  obtain ⟨q, hq⟩ := occ_some h (P := P) (n := cntP st P f + u % (cntP st P (l + 1) - cntP st P f)) (by omega)
  obtain ⟨k, hk, hP, hc⟩ := occ_get.mp hq
  have hs := cntP_succ (P := P) hk
  rw [if_pos hP] at hs
  have hfq : f ≤ q := by
    rcases Nat.lt_or_ge q f with z | z
    · have := cntP_mono st P (show q + 1 ≤ f by omega)
      omega
    · exact z
  have hql : q ≤ l := by
    rcases Nat.lt_or_ge l q with z | z
    · have := cntP_mono st P (show l + 1 ≤ q by omega)
      omega
    · exact z
  refine ⟨by omega, hdiv, q, hq, hfq, hql, ?_⟩
  generalize hcc : u / (cntP st P (l + 1) - cntP st P f) = c at *
  have hoff : c * (l + 1 - f) + (q - f) < (l + 1 - f) * t := by
    have h3 : (c + 1) * (l + 1 - f) ≤ t * (l + 1 - f) := Nat.mul_le_mul_right _ (by omega)
    rw [Nat.add_mul, Nat.one_mul] at h3
    rw [Nat.mul_comm (l + 1 - f) t]
    omega
  have ho1 : (c * (l + 1 - f) + (q - f)) / (l + 1 - f) = c := by
    rw [Nat.mul_comm, Nat.mul_add_div hw, Nat.div_eq_of_lt (by omega), Nat.add_zero]
  have ho2 : (c * (l + 1 - f) + (q - f)) % (l + 1 - f) = q - f := by
    rw [Nat.mul_comm, Nat.mul_add_mod, Nat.mod_eq_of_lt (by omega)]
  rw [Nat.add_assoc]
  refine occ_get.mpr ⟨k, ?_, hP, ?_⟩
  · have := (ex_pa h e (p := sz (st.take i) + (c * (l + 1 - f) + (q - f))) (by omega) (by omega)).1
    rw [this, Nat.add_sub_cancel_left, ho2, show f + (q - f) = q by omega]
    exact hk
  · rw [cntP_pa h e P _ (Nat.le_of_lt hoff), ho1, ho2, show f + (q - f) = q by omega, hc]
    have hu2 : u = c * (cntP st P (l + 1) - cntP st P f) + u % (cntP st P (l + 1) - cntP st P f) := by
      rw [← hcc, Nat.mul_comm]
      exact (Nat.div_add_mod u _).symm
    omega
/-! ### wanted keys: an ascending list -/
def isIn (ws : List Nat) (k : Nat) : Bool := decide (k ∈ ws)
theorem range_in (ws : List Nat) (hn : ws.Nodup) (n m : Nat) : (List.range' n m).countP (isIn ws) = (ws.filter fun k => decide (n ≤ k) && decide (k < n + m)).length := by
  induction ws with
  | nil =>
    have : (List.range' n m).countP (isIn []) = 0 := by rw [List.countP_eq_zero]; intro a _; simp [isIn]
    rw [this]
    rfl
  | cons a r ih =>
    rw [List.nodup_cons] at hn
    have h1 : (List.range' n m).countP (isIn (a :: r)) = (List.range' n m).count a + (List.range' n m).countP (isIn r) := by
      induction (List.range' n m) with
      | nil => rfl
      | cons b s ih2 =>
        rw [List.countP_cons, List.count_cons, List.countP_cons, ih2]
        by_cases e : b = a
        · subst e
          have : isIn r b = false := decide_eq_false hn.1
          simp [isIn, hn.1]
          omega
        · have : isIn (a :: r) b = isIn r b := by simp [isIn, e]
          rw [this]
          simp [e]
          omega
    rw [h1, ih hn.2, range_count, List.filter_cons]
    by_cases h : n ≤ a ∧ a < n + m
    · rw [if_pos h, if_pos (by simp [h.1, h.2]), List.length_cons]
      omega
    · rw [if_neg h, if_neg (by simpa using h)]
      omega
theorem asc_nodup {ws : List Nat} (h : ws.Pairwise (· < ·)) : ws.Nodup := h.imp fun z => Nat.ne_of_lt z
theorem asc_take : ∀ {l : List Nat} {j k : Nat}, l.Pairwise (· < ·) → l[j]? = some k → (l.filter fun x => decide (x < k)).length = j
  | [], _, _, _, h => by simp at h
  | a :: r, 0, k, hp, h => by
    have e : a = k := by simpa using h
    subst e
    rw [List.pairwise_cons] at hp
    rw [List.filter_cons, if_neg (by simp), List.filter_eq_nil_iff.mpr fun x hx => by have := hp.1 x hx; simp; omega]
    rfl
  | a :: r, j + 1, k, hp, h => by
    rw [List.pairwise_cons] at hp
    have h2 : r[j]? = some k := by simpa using h
    have := hp.1 k (List.mem_of_getElem? h2)
    rw [List.filter_cons, if_pos (by simp [this]), List.length_cons, asc_take hp.2 h2]
/-- the j-th wanted key from n on: j wanted ones stand between -/
theorem own_at {ws : List Nat} (h : ws.Pairwise (· < ·)) {n j k : Nat} (e : (ws.filter fun x => decide (n ≤ x))[j]? = some k) : n ≤ k ∧ k ∈ ws ∧ (List.range' n (k - n)).countP (isIn ws) = j := by
  have hm := List.mem_of_getElem? e
  rw [List.mem_filter] at hm
  have hn : n ≤ k := of_decide_eq_true hm.2
  refine ⟨hn, hm.1, ?_⟩
  rw [range_in ws (asc_nodup h)]
  have h2 := asc_take (List.Pairwise.filter (fun x => decide (n ≤ x)) h) e
  rw [List.filter_filter] at h2
  rw [← h2]
  congr 1
  refine List.filter_congr fun x _ => ?_
  rw [show n + (k - n) = k by omega, Bool.and_comm]
theorem own_len {ws : List Nat} (h : ws.Pairwise (· < ·)) {n m j : Nat} (e : j < (List.range' n m).countP (isIn ws)) : ∃ k, (ws.filter fun x => decide (n ≤ x))[j]? = some k ∧ k < n + m := by
  rw [range_in ws (asc_nodup h)] at e
  have hj : j < (ws.filter fun x => decide (n ≤ x)).length := by
    refine Nat.lt_of_lt_of_le e ?_
    rw [← List.countP_eq_length_filter, ← List.countP_eq_length_filter]
    exact List.countP_mono_left fun x _ hx => by
      rw [Bool.and_eq_true] at hx
      exact hx.1
  refine ⟨_, List.getElem?_eq_getElem hj, ?_⟩
  have h2 := asc_take (List.Pairwise.filter (fun x => decide (n ≤ x)) h) (List.getElem?_eq_getElem hj)
  rcases Nat.lt_or_ge ((ws.filter fun x => decide (n ≤ x))[j]) (n + m) with z | z
  · exact z
  · exfalso
    have h3 : (ws.filter fun k => decide (n ≤ k) && decide (k < n + m)).length ≤ ((ws.filter fun x => decide (n ≤ x)).filter fun x => decide (x < (ws.filter fun x => decide (n ≤ x))[j])).length := by
      rw [List.filter_filter, ← List.countP_eq_length_filter, ← List.countP_eq_length_filter]
      refine List.countP_mono_left fun x _ hx => ?_
      rw [Bool.and_eq_true, decide_eq_true_iff, decide_eq_true_iff] at hx
      rw [Bool.and_eq_true, decide_eq_true_iff, decide_eq_true_iff]
      exact ⟨by omega, hx.1⟩
    omega
end Pk
/-! ## Letters: the keys that type them, counts by letters, dicts with letters for keys -/
namespace Pk
open PySem PySem.Spec PyProof.Rows L2
/-- the key types the letter -/
def lP (st : List Stp) (c k : Nat) : Bool := (typed st).getD k 0 == c
def lks (st : List Stp) (c : Nat) : List Nat := (List.range (nk st)).filter (lP st c)
theorem lks_asc (st : List Stp) (c : Nat) : (lks st c).Pairwise (· < ·) := List.Pairwise.filter _ List.pairwise_lt_range
theorem lks_len (st : List Stp) (c : Nat) : (lks st c).length ≤ nk st := Nat.le_trans (List.length_filter_le _ _) (by simp)
theorem lP_lt {st : List Stp} {c k : Nat} (h : isLet c = true) (z : lP st c k = true) : k < nk st := by
  rcases Nat.lt_or_ge k (nk st) with q | q
  · exact q
  · unfold lP at z
    rw [List.getD_eq_getElem?_getD, List.getElem?_eq_none (by rw [typed_len]; exact q)] at z
    have z2 : (0 : Nat) = c := by simpa using z
    rw [← z2] at h
    exact absurd h (by decide)
theorem lks_in {st : List Stp} {c : Nat} (h : isLet c = true) : isIn (lks st c) = lP st c := by
  funext k
  unfold isIn lks
  rw [Bool.eq_iff_iff, decide_eq_true_eq, List.mem_filter, List.mem_range]
  exact ⟨fun z => z.2, fun z => ⟨lP_lt h z, z⟩⟩
theorem sgn_at {z : List Nat} {i : Nat} {v : V} (h : (sgn (sL z))[i]? = some v) : ∃ c, z[i]? = some c ∧ v = .str (sL [c]) := by
  unfold sgn at h
  rw [List.getElem?_map] at h
  cases e : (sL z).cps.toList[i]? with
  | none => rw [e] at h; cases h
  | some c => rw [e] at h; cases h; exact ⟨c, e, rfl⟩
theorem sgn_len (z : List Nat) : (sgn (sL z)).length = z.length := by unfold sgn; rw [List.length_map]; rfl
/-! ### the letters of a text -/
def ltr (st : List Stp) (k : Nat) : Nat := (typed st).getD k 0
def lts (st : List Stp) : List Nat := (ex st).map (ltr st)
theorem lts_len (st : List Stp) : (lts st).length = (ex st).length := List.length_map ..
theorem ltr_at {st : List Stp} {k c : Nat} (h : (typed st)[k]? = some c) : ltr st k = c := by unfold ltr; rw [List.getD_eq_getElem?_getD, h]; rfl
theorem lts_at {st : List Stp} {p k : Nat} (h : (ex st)[p]? = some k) : (lts st)[p]? = some (ltr st k) := by unfold lts; rw [List.getElem?_map, h]; rfl
theorem key_typed {st : List Stp} {k : Nat} (h : k < nk st) : (typed st)[k]? = some (ltr st k) := by
  unfold ltr
  rw [List.getD_eq_getElem?_getD, List.getElem?_eq_getElem (by rw [typed_len]; exact h)]
  rfl
theorem ltr_let {st : List Stp} {k : Nat} (hlet : (typed st).all isLet = true) (h : k < nk st) : isLet (ltr st k) = true := (List.all_eq_true.mp hlet) _ (List.mem_of_getElem? (key_typed h))
/-! ### sums by letters -/
def sumL (st : List Stp) (c i : Nat) (g : Nat → Int) : Int := (((List.range i).filter (lP st c)).map g).sum
theorem sumL_succ {st : List Stp} {c i d : Nat} (g : Nat → Int) (h : (typed st)[i]? = some d) : sumL st c (i + 1) g = sumL st c i g + if d = c then g i else 0 := by
  have hp : lP st c i = decide (d = c) := by
    unfold lP
    rw [List.getD_eq_getElem?_getD, h]
    rfl
  unfold sumL
  rw [List.range_succ, List.filter_append, List.map_append, List.sum_append]
  by_cases e : d = c
  · rw [if_pos e]
    simp [hp, e]
  · rw [if_neg e]
    simp [hp, e]
theorem sum_ones (x : Nat) : ∀ l : List Nat, (l.map fun k => if x = k then (1 : Int) else 0).sum = (l.count x : Nat)
  | [] => rfl
  | a :: r => by
    rw [List.map_cons, List.sum_cons, sum_ones x r, List.count_cons]
    by_cases e : x = a
    · rw [if_pos e]; simp [e]; omega
    · rw [if_neg e]; simp [Ne.symm e]
theorem sum_add (f g : Nat → Int) : ∀ l : List Nat, (l.map fun k => f k + g k).sum = (l.map f).sum + (l.map g).sum
  | [] => rfl
  | a :: r => by
    rw [List.map_cons, List.sum_cons, sum_add f g r, List.map_cons, List.sum_cons, List.map_cons, List.sum_cons]
    omega
theorem sum_sub (f g : Nat → Int) : ∀ l : List Nat, (l.map fun k => f k - g k).sum = (l.map f).sum - (l.map g).sum
  | [] => rfl
  | a :: r => by
    rw [List.map_cons, List.sum_cons, sum_sub f g r, List.map_cons, List.sum_cons, List.map_cons, List.sum_cons]
    omega
theorem sum_zero : ∀ l : List Nat, (l.map fun _ => (0 : Int)).sum = 0
  | [] => rfl
  | a :: r => by rw [List.map_cons, List.sum_cons, sum_zero r]; rfl
theorem nd_count {x : Nat} : ∀ {l : List Nat}, l.Nodup → x ∈ l → l.count x = 1
  | [], _, h => by simp at h
  | a :: r, hn, h => by
    rw [List.nodup_cons] at hn
    rw [List.count_cons]
    rcases List.mem_cons.mp h with e | e
    · subst e
      rw [List.count_eq_zero_of_not_mem hn.1]
      simp
    · rw [nd_count hn.2 e]
      have : ¬ a = x := fun z => hn.1 (z ▸ e)
      simp [this]
theorem sum_count {P : Nat → Bool} {n : Nat} : ∀ E : List Nat, (∀ k ∈ E, k < n) → (((List.range n).filter P).map fun k => (E.count k : Int)).sum = (E.countP P : Nat)
  | [], _ => by
    have : (fun k => (([] : List Nat).count k : Int)) = fun _ => 0 := by funext k; simp
    rw [this, sum_zero]
    rfl
  | x :: r, h => by
    have e : (fun k => ((x :: r).count k : Int)) = fun k => (r.count k : Int) + if x = k then 1 else 0 := by
      funext k
      rw [List.count_cons]
      by_cases e : x = k
      · simp [e]
      · simp [e]
    rw [e, sum_add, sum_count r fun k hk => h k (List.mem_cons_of_mem _ hk), sum_ones, List.countP_cons]
    have hx := h x List.mem_cons_self
    have hnd : ((List.range n).filter P).Nodup := List.Nodup.sublist List.filter_sublist List.nodup_range
    by_cases hp : P x = true
    · rw [if_pos hp, nd_count hnd (by rw [List.mem_filter, List.mem_range]; exact ⟨hx, hp⟩)]
      omega
    · rw [if_neg hp, List.count_eq_zero_of_not_mem (by rw [List.mem_filter]; exact fun z => hp z.2)]
      omega
theorem sum_cnt {st : List Stp} (P : Nat → Bool) (p : Nat) : (((List.range (nk st)).filter P).map fun k => (cnt st k p : Int)).sum = (cntP st P p : Nat) :=
  sum_count ((ex st).take p) fun k hk => ex_lt st k (List.mem_of_mem_take hk)
/-! ### dicts with letters for keys -/
def kvL (W : WL) : List (Key × V) := W.map fun p => ((.inr (sL [p.1]) : Key), V.int p.2)
theorem sL1 {p q : Nat} : (Sum.inr (sL [p]) : Key) = .inr (sL [q]) ↔ p = q := by
  refine ⟨fun e => ?_, fun e => by rw [e]⟩
  injection e with e
  have := sL_inj.mp e
  simpa using this
theorem kvL_len (W : WL) : (kvL W).length = W.length := List.length_map ..
theorem valV_L (p : Nat) : ∀ W : WL, (valV (kvL W) (.inr (sL [p]))).getD (.int 0) = .int (getW W p)
  | [] => rfl
  | a :: r => by
    unfold getW
    by_cases e : a.1 = p
    · rw [if_pos e]
      show (valV (((.inr (sL [a.1]) : Key), V.int a.2) :: kvL r) _).getD _ = _
      rw [valV_pos (sL1.mpr e)]
      rfl
    · rw [if_neg e]
      show (valV (((.inr (sL [a.1]) : Key), V.int a.2) :: kvL r) _).getD _ = _
      rw [valV_neg fun z => e (sL1.mp z)]
      exact valV_L p r
theorem valV_inL {p : Nat} : ∀ {W : WL}, p ∈ W.map (·.1) → valV (kvL W) (.inr (sL [p])) = some (.int (getW W p))
  | [], h => by simp at h
  | a :: r, h => by
    unfold getW
    by_cases e : a.1 = p
    · rw [if_pos e]
      show valV (((.inr (sL [a.1]) : Key), V.int a.2) :: kvL r) _ = _
      rw [valV_pos (sL1.mpr e)]
    · rw [if_neg e]
      show valV (((.inr (sL [a.1]) : Key), V.int a.2) :: kvL r) _ = _
      rw [valV_neg fun z => e (sL1.mp z)]
      refine valV_inL ?_
      simp only [List.map_cons, List.mem_cons] at h
      exact h.resolve_left (Ne.symm e)
theorem valV_outL {p : Nat} {W : WL} (h : p ∉ W.map (·.1)) : valV (kvL W) (.inr (sL [p])) = none := by
  refine valV_none fun q hq e => ?_
  obtain ⟨a, ha, rfl⟩ := List.mem_map.mp hq
  exact h (List.mem_map.mpr ⟨a, ha, sL1.mp e⟩)
theorem any_L (W : WL) (p : Nat) : ((kvL W).any fun kv => decide (kv.1 = .inr (sL [p]))) = decide (p ∈ W.map (·.1)) := by
  rw [Bool.eq_iff_iff, List.any_eq_true, decide_eq_true_iff]
  constructor
  · rintro ⟨x, hx, e⟩
    obtain ⟨a, ha, rfl⟩ := List.mem_map.mp hx
    exact List.mem_map.mpr ⟨a, ha, sL1.mp (of_decide_eq_true e)⟩
  · intro h
    obtain ⟨a, ha, e⟩ := List.mem_map.mp h
    exact ⟨_, List.mem_map.mpr ⟨a, ha, rfl⟩, decide_eq_true (sL1.mpr e)⟩
theorem putK_L {W : WL} (p : Nat) (w : Int) (hn : (W.map (·.1)).Nodup) : putK (kvL W) (.inr (sL [p])) (.int (getW W p + w)) = kvL (addW W p w) := by
  unfold putK
  rw [any_L]
  by_cases h : p ∈ W.map (·.1)
  · rw [decide_eq_true h, if_pos rfl, addW_in hn h]
    unfold kvL
    rw [List.map_map, List.map_map]
    refine List.map_congr_left fun q _ => ?_
    simp only [Function.comp]
    by_cases e : q.1 = p
    · rw [if_pos (sL1.mpr e), if_pos e]
    · rw [if_neg (fun z => e (sL1.mp z)), if_neg e]
  · rw [decide_eq_false h, if_neg (by decide), addW_out h, getW_out h, Int.zero_add]
    simp [kvL]
theorem getW_add (p q : Nat) (w : Int) : ∀ W : WL, getW (addW W p w) q = getW W q + if q = p then w else 0
  | [] => by
    unfold addW
    show (if p = q then w else 0) = 0 + _
    by_cases e : q = p
    · rw [if_pos e, if_pos e.symm]; omega
    · rw [if_neg e, if_neg (Ne.symm e)]; omega
  | a :: r => by
    unfold addW
    by_cases e : a.1 = p
    · rw [if_pos e]
      show (if a.1 = q then a.2 + w else getW r q) = (if a.1 = q then a.2 else getW r q) + _
      by_cases e2 : a.1 = q
      · rw [if_pos e2, if_pos e2, if_pos (e2.symm.trans e)]
      · rw [if_neg e2, if_neg e2, if_neg (fun z => e2 (e.trans z.symm))]; omega
    · rw [if_neg e]
      show (if a.1 = q then a.2 else getW (addW r p w) q) = (if a.1 = q then a.2 else getW r q) + _
      by_cases e2 : a.1 = q
      · rw [if_pos e2, if_pos e2, if_neg (fun z => e (e2.trans z))]; omega
      · rw [if_neg e2, if_neg e2, getW_add p q w r]
/-! ### sorted letters -/
theorem rising_one : ∀ (l : List Nat) (a : Nat), risingS (sL [a]) (l.map fun c => sL [c]) = true → (a :: l).Pairwise (· ≤ ·) := by
  intro l
  induction l with
  | nil => intro a _; exact List.pairwise_singleton _ _
  | cons b r ih =>
    intro a h
    have h2 : (!ltCps [b] [a] && risingS (sL [b]) (r.map fun c => sL [c])) = true := h
    rw [Bool.and_eq_true] at h2
    have ih2 := ih b h2.2
    have hab : a ≤ b := by
      have h1 := h2.1
      simp [ltCps] at h1
      exact h1
    refine List.pairwise_cons.mpr ⟨fun x hx => ?_, ih2⟩
    rcases List.mem_cons.mp hx with e | e
    · rw [e]; exact hab
    · exact Nat.le_trans hab ((List.pairwise_cons.mp ih2).1 x e)
theorem sorted_one {ks : List Nat} {ys : List Str} (h : ys.Perm (ks.map fun c => sL [c])) (hs : sortedS ys = true) (hn : ks.Nodup) : ∃ cs : List Nat, cs.Perm ks ∧ ys = cs.map (fun c => sL [c]) ∧ cs.Pairwise (· < ·) := by
  have e : ys = (ys.map fun y => y.cps.toList.headD 0).map fun c => sL [c] := by
    rw [List.map_map]
    refine (List.map_id ys).symm.trans (List.map_congr_left fun y hy => ?_)
    obtain ⟨c, _, rfl⟩ := List.mem_map.mp (h.mem_iff.mp hy)
    rfl
  have hp : (ys.map fun y => y.cps.toList.headD 0).Perm ks := by
    have := h.map fun y : Str => y.cps.toList.headD 0
    rw [List.map_map] at this
    have e2 : ((fun y : Str => y.cps.toList.headD 0) ∘ fun c => sL [c]) = id := by funext c; rfl
    rw [e2, List.map_id] at this
    exact this
  generalize (ys.map fun y => y.cps.toList.headD 0) = cs at *
  refine ⟨cs, hp, e, ?_⟩
  have hle : cs.Pairwise (· ≤ ·) := by
    rw [e] at hs
    cases cs with
    | nil => exact .nil
    | cons a r => exact rising_one r a hs
  have hnd : cs.Nodup := hp.nodup_iff.mpr hn
  exact hle.imp₂ (fun a b h1 h2 => Nat.lt_of_le_of_ne h1 h2) hnd
theorem asc_ext : ∀ {l m : List Nat}, l.Pairwise (· < ·) → m.Pairwise (· < ·) → (∀ x, x ∈ l ↔ x ∈ m) → l = m
  | [], [], _, _, _ => rfl
  | [], b :: s, _, _, h => absurd ((h b).mpr List.mem_cons_self) (by simp)
  | a :: r, [], _, _, h => absurd ((h a).mp List.mem_cons_self) (by simp)
  | a :: r, b :: s, h1, h2, h => by
    rw [List.pairwise_cons] at h1 h2
    have e : a = b := by
      rcases List.mem_cons.mp ((h a).mp List.mem_cons_self) with e | e
      · exact e
      · rcases List.mem_cons.mp ((h b).mpr List.mem_cons_self) with e2 | e2
        · exact e2.symm
        · have := h1.1 b e2
          have := h2.1 a e
          omega
    subst e
    congr 1
    refine asc_ext h1.2 h2.2 fun x => ⟨fun hx => ?_, fun hx => ?_⟩
    · rcases List.mem_cons.mp ((h x).mp (List.mem_cons_of_mem _ hx)) with e | e
      · have := h1.1 x hx; omega
      · exact e
    · rcases List.mem_cons.mp ((h x).mpr (List.mem_cons_of_mem _ hx)) with e | e
      · have := h2.1 x hx; omega
      · exact e
/-! ### what letter_counts tells -/
def lcs (st : List Stp) (a e : Nat) : List Nat := (List.range' 97 26).filter fun c => decide (cntP st (lP st c) a < cntP st (lP st c) e)
def lcD (st : List Stp) (a e : Nat) : WL := (lcs st a e).map fun c => (c, (cntP st (lP st c) e : Int) - (cntP st (lP st c) a : Int))
theorem let_iff {c : Nat} : isLet c = true ↔ c ∈ List.range' 97 26 := by
  unfold isLet
  rw [List.mem_range'_1, Bool.and_eq_true, decide_eq_true_eq, decide_eq_true_eq]
  omega
theorem range_filter {α : Type} (l : List Nat) (p : Nat → Bool) (g : Nat → α) : (((List.range l.length).filter fun i => p (l.getD i 0)).map fun i => g (l.getD i 0)) = (l.filter p).map g := by
  have h : ∀ m, m ≤ l.length → ((List.range m).filter fun i => p (l.getD i 0)).map (fun i => g (l.getD i 0)) = ((l.take m).filter p).map g := by
    intro m
    induction m with
    | zero => intro _; simp
    | succ m ih =>
      intro hm
      have e : l[m]? = some (l[m]'(by omega)) := List.getElem?_eq_getElem (by omega)
      have e2 : l.getD m 0 = l[m]'(by omega) := by rw [List.getD_eq_getElem?_getD, e]; rfl
      rw [List.range_succ, List.filter_append, List.map_append, ih (by omega), take_succ e, List.filter_append, List.map_append]
      congr 1
      rw [List.filter_cons, List.filter_cons, e2]
      split
      · show [g (l.getD m 0)] = [g (l[m]'(by omega))]
        rw [e2]
      · rfl
  have := h l.length (Nat.le_refl _)
  rwa [List.take_length] at this
theorem sumL_all (st : List Stp) (c a e : Nat) : (sumL st c (nk st) fun k => (cnt st k e : Int) - (cnt st k a : Int)) = (cntP st (lP st c) e : Int) - (cntP st (lP st c) a : Int) := by
  unfold sumL
  rw [sum_sub, sum_cnt, sum_cnt]
theorem let_len {l : List Nat} (hn : l.Nodup) (h : ∀ c ∈ l, isLet c = true) : l.length ≤ 26 := by
  have h1 := nodup_len 123 hn fun c hc => by
    have := List.mem_range'_1.mp (let_iff.mp (h c hc))
    omega
  have h2 : (l ++ List.range' 0 97).Nodup := by
    rw [List.nodup_append]
    refine ⟨hn, List.nodup_range', fun a ha b hb e => ?_⟩
    have h3 := List.mem_range'_1.mp (let_iff.mp (h a ha))
    have h4 := List.mem_range'_1.mp hb
    omega
  have h3 := nodup_len 123 h2 fun c hc => by
    rcases List.mem_append.mp hc with z | z
    · have := List.mem_range'_1.mp (let_iff.mp (h c z)); omega
    · have := List.mem_range'_1.mp z; omega
  rw [List.length_append, List.length_range'] at h3
  omega
theorem cntP_key {st : List Stp} {P : Nat → Bool} {p : Nat} (h : 0 < cntP st P p) : ∃ k, k ∈ (ex st).take p ∧ P k = true := List.countP_pos_iff.mp h
theorem lcs_eq {st : List Stp} (hlet : (typed st).all isLet = true) {cs : List Nat} (hasc : cs.Pairwise (· < ·)) (hmem : ∀ c, c ∈ cs ↔ ∃ j, j < nk st ∧ (typed st)[j]? = some c) (a e : Nat) :
    (cs.filter fun c => decide ((0 : Int) < (cntP st (lP st c) e : Int) - (cntP st (lP st c) a : Int))) = lcs st a e := by
  refine asc_ext (hasc.filter _) ((List.pairwise_lt_range' (s := 97) (n := 26)).filter _) fun c => ?_
  unfold lcs
  rw [List.mem_filter, List.mem_filter, decide_eq_true_eq, decide_eq_true_eq, ← let_iff]
  constructor
  · rintro ⟨h1, h2⟩
    obtain ⟨j, hj, hc⟩ := (hmem c).mp h1
    exact ⟨(List.all_eq_true.mp hlet) c (List.mem_of_getElem? hc), by omega⟩
  · rintro ⟨h1, h2⟩
    refine ⟨?_, by omega⟩
    obtain ⟨k, hk, hp⟩ := cntP_key (show 0 < cntP st (lP st c) e by omega)
    have hlt := lP_lt h1 hp
    refine (hmem c).mpr ⟨k, hlt, ?_⟩
    unfold lP at hp
    rw [List.getD_eq_getElem?_getD, List.getElem?_eq_getElem (by rw [typed_len]; exact hlt)] at hp
    rw [List.getElem?_eq_getElem (by rw [typed_len]; exact hlt)]
    have : (typed st)[k]'(by rw [typed_len]; exact hlt) = c := by simpa using hp
    rw [this]
end Pk
/-! ## dict(pairs); sums of counts -/
namespace Pk
open PySem PySem.Spec PyProof.Rows L2
theorem b_dict : bootBuiltins "dict" = some (.type "dict") := by decide +kernel
theorem b_set : bootBuiltins "set" = some (.type "set") := by decide +kernel
def rDictP (K : Fr) : List V → Hp → VK → Prop := fun xs H Q => ∃ (a : Addr) (ps : List Addr) (kvs : List (Key × V)), xs = [.ref a] ∧ SqL K H a (ps.map V.ref) ∧ Paired (fun p kv => SqT K H p [kV kv.1, kv.2]) ps kvs ∧
    ∀ p, H p = none → Q (.ref p) (upd H p (.dK (mergeK [] kvs)))
theorem dictP {X : Cx} (K : Fr) (hc : X.calm = true := by rfl) (h : X.K = K := by rfl) : CallR X (.type "dict") (rDictP K) := h ▸ call_dictP hc
theorem putK_out {kvs : List (Key × V)} {k : Key} {v : V} (h : k ∉ kvs.map (·.1)) : putK kvs k v = kvs ++ [(k, v)] := by
  unfold putK
  rw [if_neg]
  intro z
  rw [List.any_eq_true] at z
  obtain ⟨x, hx, e⟩ := z
  exact h (List.mem_map.mpr ⟨x, hx, of_decide_eq_true e⟩)
theorem mergeK_app : ∀ (more kvs : List (Key × V)), ((kvs ++ more).map (·.1)).Nodup → mergeK kvs more = kvs ++ more
  | [], kvs, _ => (List.append_nil _).symm
  | p :: r, kvs, h => by
    have h1 : p.1 ∉ kvs.map (·.1) := by
      rw [List.map_append, List.nodup_append] at h
      exact fun z => h.2.2 _ z _ (by simp) rfl
    show mergeK (putK kvs p.1 p.2) r = _
    rw [putK_out h1, mergeK_app r _ (by rw [List.append_assoc]; exact h), List.append_assoc]
    rfl
theorem mergeK_self {kvs : List (Key × V)} (h : (kvs.map (·.1)).Nodup) : mergeK [] kvs = kvs := mergeK_app kvs [] h
theorem kvL_keys (W : WL) : (kvL W).map (·.1) = (W.map (·.1)).map fun c => (.inr (sL [c]) : Key) := by
  unfold kvL
  rw [List.map_map, List.map_map]
  rfl
theorem kvL_nodup {W : WL} (h : (W.map (·.1)).Nodup) : ((kvL W).map (·.1)).Nodup := by
  rw [kvL_keys]
  generalize W.map (·.1) = l at h
  induction l with
  | nil => exact List.nodup_nil
  | cons c r ih =>
    rw [List.map_cons, List.nodup_cons]
    rw [List.nodup_cons] at h
    refine ⟨fun z => ?_, ih h.2⟩
    obtain ⟨d, hd, e⟩ := List.mem_map.mp z
    rw [sL1] at e
    exact h.1 (e ▸ hd)
theorem cV_map (n : Nat) (g : Nat → Int) : cV n g = ((List.range n).map g).map V.int := by
  unfold cV
  rw [List.map_map]
  rfl
theorem sum_counts {st : List Stp} {m : Nat} (h : Goes m 0 st) {p : Nat} (hp : p ≤ sz st) : ((List.range (nk st)).map fun k => (cnt st k p : Int)).sum = (p : Nat) := by
  have h1 := sum_cnt (st := st) (fun _ => true) p
  rw [List.filter_eq_self.mpr (fun _ _ => rfl)] at h1
  rw [h1]
  unfold cntP
  rw [List.countP_true, List.length_take, ex_len st h]
  omega
/-- values found in a dict of letters -/
theorem getW_mem {p : Nat} {w : Int} : ∀ {W : WL}, (W.map (·.1)).Nodup → (p, w) ∈ W → getW W p = w
  | [], _, h => by simp at h
  | q :: r, hn, h => by
    rw [List.map_cons, List.nodup_cons] at hn
    show (if q.1 = p then q.2 else getW r p) = w
    rcases List.mem_cons.mp h with e | h
    · rw [← e, if_pos rfl]
    · have hne : ¬ q.1 = p := fun z => hn.1 (List.mem_map.mpr ⟨(p, w), h, z.symm⟩)
      rw [if_neg hne]
      exact getW_mem hn.2 h
theorem paired_snoc {α β : Type} {F : α → β → Prop} {x : α} {y : β} (h : F x y) : ∀ {xs : List α} {ys : List β}, Paired F xs ys → Paired F (xs ++ [x]) (ys ++ [y])
  | _, _, .nil => .cons h .nil
  | _, _, .cons a r => .cons a (paired_snoc h r)
section
variable {J : It} {n : Nat} {G : Hp → Prop} {Y : Nat → Hp → V → Hp → Prop} {g : TG} {tt : TT} {te : TE} {vs : List Nat} {σ : L2.St} {H1 : Hp} {D : Addr} {Qd : Hp → Prop}
/-- a comprehension that makes new things, or keeps some: what is made at turn i is told by R -/
theorem lc_objs (wk : Walk J n G Y) (hD : H1 D = none) (f : Nat → Bool) (R : Nat → V → Hp → Prop) (hR : ∀ i y H H' ys, H D = some (.lst ys) → R i y H → But D H H' → R i y H') (hn : n ≤ sizeLine) (hG : ∀ H, Same H1 H → G H)
    (hs : ∀ i x H H2 (N : VK) (N0 : Hp → Prop), i < n → Same H1 H → Y i H x H2 → (f i = true → ∀ y H5, Same H H5 → R i y H5 → N y H5) → (f i = false → ∀ H5, Same H H5 → N0 H5) →
      g x (wipe σ vs) H2 fun σ2 H3 => wipe σ2 vs = wipe σ vs ∧ tt σ2 H3 fun b H4 => if b = true then te σ2 H4 N else N0 H4)
    (hd : ∀ H ys, Same H1 H → H D = some (.lst ys) → Paired (fun y i => R i y H) ys ((List.range n).filter f) → Qd H) :
    ∃ W : Nat → Nat → Hp → Prop, (∃ m, W 0 m (upd H1 D (.lst []))) ∧ ∀ i m H, W i m H →
      (J.stop i H ∧ Qd H) ∨ (J.go i H ∧ ∃ Nx : Hp → Prop, (∀ H', Nx H' → ∃ m', m' < m ∧ W (i + 1) m' H') ∧ ∀ x H', J.yld i H x H' → g x (wipe σ vs) H' fun σ2 H2 => wipe σ2 vs = wipe σ vs ∧ tt σ2 H2 fun b H3 =>
        if b = true then te σ2 H3 fun y H4 => ∃ acc, H4 D = some (.lst acc) ∧ acc.length < sizeLine ∧ Nx (upd H4 D (.lst (acc ++ [y]))) else Nx H3) := by
  refine lc_it wk (fun i H => Same H1 H ∧ ∃ ys, H D = some (.lst ys) ∧ Paired (fun y j => R j y H) ys ((List.range i).filter f)) ⟨same_upd hD, [], upd_same, .nil⟩ (fun i H _ p => hG H p.1) ?_ fun H ⟨p1, ys, p2, p3⟩ => hd H ys p1 p2 p3
  intro i x H H2 hi p y
  obtain ⟨p1, ys, p2, p3⟩ := p
  have hl : ys.length ≤ i := by
    have h1 := Paired.length p3
    have h2 := List.length_filter_le f (List.range i)
    rw [List.length_range] at h2
    omega
  refine hs i x H H2 _ _ hi p1 y (fun hb z H5 s5 r5 => ?_) fun hb H5 s5 => ?_
  · have bu : But D H5 (upd H5 D (.lst (ys ++ [z]))) := fun b o nb e => by rw [upd_ne nb]; exact e
    refine ⟨ys, s5 _ _ p2, Nat.lt_of_le_of_lt hl (by omega), fun b o e => ?_, ys ++ [z], upd_same, ?_⟩
    · by_cases hbD : b = D
      · rw [hbD, hD] at e
        cases e
      · rw [upd_ne hbD]
        exact s5 _ _ (p1 _ _ e)
    · rw [List.range_succ, List.filter_append, List.filter_cons, hb]
      show Paired (fun y j => R j y (upd H5 D (.lst (ys ++ [z])))) (ys ++ [z]) ((List.range i).filter f ++ [i])
      exact paired_snoc (F := fun y j => R j y (upd H5 D (.lst (ys ++ [z])))) (hR i z _ _ _ (s5 _ _ p2) r5 bu) (Paired.mapP p3 fun y j r => hR j y _ _ _ (s5 _ _ p2) (hR j y _ _ _ p2 r (Same.but s5)) bu)
  · refine ⟨p1.trans s5, ys, s5 _ _ p2, ?_⟩
    rw [List.range_succ, List.filter_append, List.filter_cons, hb]
    simp only [List.filter_nil, Bool.false_eq_true, if_false, List.append_nil]
    exact Paired.mapP p3 fun y j r => hR j y _ _ _ p2 r (Same.but s5)
end
/-- new tuples -/
theorem tup_stays {D : Addr} {xs : Nat → List V} : ∀ (i : Nat) (y : V) (H H' : Hp) (ys : List V), H D = some (.lst ys) → (∃ t, y = .ref t ∧ H t = some (.tup (xs i))) → But D H H' → ∃ t, y = .ref t ∧ H' t = some (.tup (xs i)) :=
  fun i y H H' ys hD ⟨t, e, h⟩ b => ⟨t, e, b _ _ (ne_of h hD (by intro z; cases z)) h⟩
theorem range_filterG {α β : Type} (d : α) (l : List α) (p : α → Bool) (g : α → β) : (((List.range l.length).filter fun i => p (l.getD i d)).map fun i => g (l.getD i d)) = (l.filter p).map g := by
  have h : ∀ m, m ≤ l.length → ((List.range m).filter fun i => p (l.getD i d)).map (fun i => g (l.getD i d)) = ((l.take m).filter p).map g := by
    intro m
    induction m with
    | zero => intro _; simp
    | succ m ih =>
      intro hm
      have e : l[m]? = some (l[m]'(by omega)) := List.getElem?_eq_getElem (by omega)
      have e2 : l.getD m d = l[m]'(by omega) := by rw [List.getD_eq_getElem?_getD, e]; rfl
      rw [List.range_succ, List.filter_append, List.map_append, ih (by omega), take_succ e, List.filter_append, List.map_append]
      congr 1
      rw [List.filter_cons, List.filter_cons, e2]
      split
      · show [g (l.getD m d)] = [g (l[m]'(by omega))]
        rw [e2]
      · rfl
  have := h l.length (Nat.le_refl _)
  rwa [List.take_length] at this
/-- refs to new tuples, by their places -/
theorem paired_refs {H : Hp} {xs : Nat → List V} : ∀ {ys : List V} {is : List Nat}, Paired (fun y i => ∃ t, y = .ref t ∧ H t = some (.tup (xs i))) ys is → ∃ ps : List Addr, ys = ps.map V.ref ∧ Paired (fun t i => H t = some (.tup (xs i))) ps is
  | _, _, .nil => ⟨[], rfl, .nil⟩
  | _, _, .cons ⟨t, e, h⟩ r => by
    obtain ⟨ps, e2, h2⟩ := paired_refs r
    exact ⟨t :: ps, by rw [e, e2]; rfl, .cons h h2⟩
theorem paired_map {α β γ : Type} {F : α → β → Prop} {F' : α → γ → Prop} (g : β → γ) (h : ∀ a b, F a b → F' a (g b)) : ∀ {xs : List α} {ys : List β}, Paired F xs ys → Paired F' xs (ys.map g)
  | _, _, .nil => .nil
  | _, _, .cons a r => .cons (h _ _ a) (paired_map g h r)
/-- what counts of letters come to, as dicts -/
theorem due_dict {st : List Stp} {W : WL} {a e : Nat} (hlet : (typed st).all isLet = true) (hn : (W.map (·.1)).Nodup) (hk : ∀ c, c ∈ W.map (·.1) ↔ ∃ j, j < nk st ∧ (typed st)[j]? = some c) (hv : ∀ c, getW W c = (cntP st (lP st c) e : Int) - (cntP st (lP st c) a : Int)) :
    (kvL (lcD st a e)).length = (kvL (W.filter fun p => decide ((0 : Int) < p.2))).length ∧ ∀ p ∈ kvL (lcD st a e), valV (kvL (W.filter fun p => decide ((0 : Int) < p.2))) p.1 = some p.2 ∧ flatB p.2 = true := by
  have hsub : ((W.filter fun p => decide ((0 : Int) < p.2)).map (·.1)).Nodup := List.Sublist.nodup (List.Sublist.map _ List.filter_sublist) hn
  have hm : ∀ c, c ∈ (W.filter fun p => decide ((0 : Int) < p.2)).map (·.1) ↔ c ∈ lcs st a e := by
    intro c
    unfold lcs
    rw [List.mem_filter, decide_eq_true_eq, ← let_iff]
    constructor
    · intro h
      obtain ⟨p, hp, e1⟩ := List.mem_map.mp h
      rw [List.mem_filter, decide_eq_true_eq] at hp
      have h1 : c ∈ W.map (·.1) := List.mem_map.mpr ⟨p, hp.1, e1⟩
      have h2 : getW W c = p.2 := getW_mem hn (by rw [← e1]; exact hp.1)
      rw [hv] at h2
      obtain ⟨j, hj, hc⟩ := (hk c).mp h1
      exact ⟨(List.all_eq_true.mp hlet) c (List.mem_of_getElem? hc), by omega⟩
    · rintro ⟨h1, h2⟩
      obtain ⟨k, hk2, hp⟩ := cntP_key (show 0 < cntP st (lP st c) e by omega)
      have hlt := lP_lt h1 hp
      have hc : (typed st)[k]? = some c := by
        unfold lP at hp
        rw [List.getD_eq_getElem?_getD, List.getElem?_eq_getElem (by rw [typed_len]; exact hlt)] at hp
        rw [List.getElem?_eq_getElem (by rw [typed_len]; exact hlt)]
        have : (typed st)[k]'(by rw [typed_len]; exact hlt) = c := by simpa using hp
        rw [this]
      obtain ⟨p, hp1, e1⟩ := List.mem_map.mp ((hk c).mpr ⟨k, hlt, hc⟩)
      have h3 : getW W c = p.2 := getW_mem hn (by rw [← e1]; exact hp1)
      rw [hv] at h3
      refine List.mem_map.mpr ⟨p, ?_, e1⟩
      rw [List.mem_filter, decide_eq_true_eq]
      exact ⟨hp1, by omega⟩
  have hln : (lcs st a e).Nodup := asc_nodup ((List.pairwise_lt_range' (s := 97) (n := 26)).filter _)
  refine ⟨?_, fun p hp => ?_⟩
  · rw [kvL_len, kvL_len]
    have h1 := nodup_sub hln fun c hc => (hm c).mpr hc
    have h2 := nodup_sub hsub fun c hc => (hm c).mp hc
    unfold lcD
    rw [List.length_map] at h1 h2 ⊢
    omega
  · unfold kvL lcD at hp
    obtain ⟨q, hq, rfl⟩ := List.mem_map.mp hp
    obtain ⟨c, hc, rfl⟩ := List.mem_map.mp hq
    refine ⟨?_, rfl⟩
    have h1 := (hm c).mpr hc
    show valV _ (Sum.inr (sL [c]) : Key) = some (.int ((cntP st (lP st c) e : Int) - (cntP st (lP st c) a : Int)))
    rw [valV_inL h1]
    obtain ⟨p, hp1, e1⟩ := List.mem_map.mp h1
    have h2 : getW (W.filter fun p => decide ((0 : Int) < p.2)) c = p.2 := getW_mem hsub (by rw [← e1]; exact hp1)
    have h3 : getW W c = p.2 := getW_mem hn (by rw [← e1]; exact (List.mem_filter.mp hp1).1)
    rw [h2, ← h3, hv]
end Pk
/-! ## Places of keys and letters, further -/
namespace Pk
theorem exF_sub : ∀ (st : List Stp) (E : List Nat) (n : Nat), (∀ k ∈ E, k ∈ exF E n st) ∧ ∀ k, n ≤ k → k < n + nk st → k ∈ exF E n st
  | [], E, n => ⟨fun k h => h, fun k h1 h2 => absurd h2 (by show ¬ k < n + 0; omega)⟩
  | .wr w :: r, E, n => by
    have ih := exF_sub r (E ++ List.range' n w.length) (n + w.length)
    have e1 : nk (.wr w :: r) = w.length + nk r := by simp [nk, Stp.ks]
    refine ⟨fun k h => ih.1 k (List.mem_append_left _ h), fun k h1 h2 => ?_⟩
    by_cases h3 : k < n + w.length
    · exact ih.1 k (List.mem_append_right _ (by rw [List.mem_range'_1]; omega))
    · exact ih.2 k (by omega) (by omega)
  | .pa f l t :: r, E, n => by
    have ih := exF_sub r (E ++ (List.replicate t ((E.drop f).take (l + 1 - f))).flatten) n
    have e1 : nk (.pa f l t :: r) = nk r := by simp [nk, Stp.ks]
    exact ⟨fun k h => ih.1 k (List.mem_append_left _ h), fun k h1 h2 => ih.2 k h1 (by omega)⟩
theorem ex_all {st : List Stp} {k : Nat} (h : k < nk st) : k ∈ ex st := (exF_sub st [] 0).2 k (Nat.zero_le _) (by omega)
theorem isIn_one (k x : Nat) : isIn [k] x = decide (x = k) := by
  unfold isIn
  simp
theorem cnt_in (st : List Stp) (k p : Nat) : cntP st (isIn [k]) p = cnt st k p := by
  unfold cntP cnt List.count
  refine List.countP_congr fun x _ => ?_
  rw [isIn_one]
  simp
theorem cntP_split (st : List Stp) (P : Nat → Bool) {p q : Nat} (h : p ≤ q) : cntP st P q = cntP st P p + (((ex st).take q).drop p).countP P := by
  unfold cntP
  have e : (ex st).take p = ((ex st).take q).take p := by rw [List.take_take, Nat.min_eq_left h]
  rw [e, ← List.countP_append, List.take_append_drop]
theorem cntP_imp {st : List Stp} {P L : Nat → Bool} (h : ∀ k, P k = true → L k = true) {p q : Nat} (hpq : p ≤ q) : cntP st P q + cntP st L p ≤ cntP st L q + cntP st P p := by
  rw [cntP_split st P hpq, cntP_split st L hpq]
  have := List.countP_mono_left (l := ((ex st).take q).drop p) (p := P) (q := L) (fun x _ hx => h x hx)
  omega
theorem cntP_top {st : List Stp} {m : Nat} (h : Goes m 0 st) (P : Nat → Bool) (p : Nat) : cntP st P p ≤ cntP st P (sz st) := by
  rcases Nat.le_total p (sz st) with z | z
  · exact cntP_mono st P z
  · rw [cntP_all h P z, cntP_all h P (Nat.le_refl _)]
    exact Nat.le_refl _
theorem occ_first {st : List Stp} {P : Nat → Bool} {p k : Nat} (hp : (ex st)[p]? = some k) (hk : P k = true) : (occ st P)[cntP st P p]? = some p := occ_get.mpr ⟨k, hp, hk, rfl⟩
theorem occ_at {st : List Stp} {m : Nat} (h : Goes m 0 st) {P : Nat → Bool} {n p : Nat} (e : (occ st P)[n]? = some p) : ∃ k, (ex st)[p]? = some k ∧ P k = true ∧ cntP st P p = n ∧ cntP st P (p + 1) = n + 1 ∧ p < sz st := by
  obtain ⟨k, h1, h2, h3⟩ := occ_get.mp e
  have h4 := cntP_succ (P := P) h1
  rw [if_pos h2] at h4
  have h5 := (List.getElem?_eq_some_iff.mp h1).1
  rw [ex_len st h] at h5
  exact ⟨k, h1, h2, h3, by omega, h5⟩
/-- the next place of P from p on -/
theorem next_ge {st : List Stp} {m : Nat} (h : Goes m 0 st) {P : Nat → Bool} {p r : Nat} (e : (occ st P)[cntP st P p]? = some r) : p ≤ r := by
  obtain ⟨k, h1, h2, h3, h4, h5⟩ := occ_at h e
  rcases Nat.lt_or_ge r p with z | z
  · have := cntP_mono st P (show r + 1 ≤ p by omega)
    omega
  · exact z
theorem next_le {st : List Stp} {m : Nat} (h : Goes m 0 st) {P L : Nat → Bool} (hi : ∀ k, P k = true → L k = true) {p r q : Nat} (e : (occ st P)[cntP st P p]? = some r) (e2 : (occ st L)[cntP st L p]? = some q) : q ≤ r := by
  have hr := next_ge h e
  obtain ⟨k, h1, h2, h3, h4, h5⟩ := occ_at h e
  obtain ⟨k2, g1, g2, g3, g4, g5⟩ := occ_at h e2
  rcases Nat.lt_or_ge r q with z | z
  · have a1 := cntP_succ (P := L) h1
    rw [if_pos (hi k h2)] at a1
    have a2 := cntP_mono st L (show r + 1 ≤ q by omega)
    have a3 := cntP_mono st L hr
    omega
  · exact z
theorem next_none {st : List Stp} (h : Goes most 0 st) {P L : Nat → Bool} (hi : ∀ k, P k = true → L k = true) {p : Nat} (e2 : (occ st L)[cntP st L p]? = none) : (occ st P)[cntP st P p]? = none := by
  cases e : (occ st P)[cntP st P p]? with
  | none => rfl
  | some r =>
    exfalso
    have hr := next_ge h e
    obtain ⟨k, h1, h2, h3, h4, h5⟩ := occ_at h e
    have a1 := cntP_succ (P := L) h1
    rw [if_pos (hi k h2)] at a1
    have a3 := cntP_mono st L hr
    have a4 := cntP_top h L (r + 1)
    obtain ⟨q, hq⟩ := occ_some h (P := L) (show cntP st L p < cntP st L (sz st) by omega)
    rw [e2] at hq
    cases hq
/-- the next place of L is that of its key -/
theorem next_key {st : List Stp} {m : Nat} (h : Goes m 0 st) {L : Nat → Bool} {p q : Nat} (e2 : (occ st L)[cntP st L p]? = some q) : ∃ k, (ex st)[q]? = some k ∧ L k = true ∧ (occ st (isIn [k]))[cntP st (isIn [k]) p]? = some q := by
  have hq := next_ge h e2
  obtain ⟨k, g1, g2, g3, g4, g5⟩ := occ_at h e2
  have hk : isIn [k] k = true := by rw [isIn_one]; exact decide_eq_true rfl
  have a1 := cntP_imp (st := st) (P := isIn [k]) (L := L) (fun x hx => by rw [isIn_one, decide_eq_true_eq] at hx; rw [hx]; exact g2) hq
  have a2 := cntP_mono st (isIn [k]) hq
  have a3 : cntP st (isIn [k]) p = cntP st (isIn [k]) q := by omega
  exact ⟨k, g1, g2, by rw [a3]; exact occ_first g1 hk⟩
theorem lks_mem {st : List Stp} {c k : Nat} : k ∈ lks st c ↔ k < nk st ∧ (typed st)[k]? = some c := by
  unfold lks lP
  rw [List.mem_filter, List.mem_range]
  constructor
  · rintro ⟨h1, h2⟩
    refine ⟨h1, ?_⟩
    rw [List.getD_eq_getElem?_getD, List.getElem?_eq_getElem (by rw [typed_len]; exact h1)] at h2
    rw [List.getElem?_eq_getElem (by rw [typed_len]; exact h1)]
    have : (typed st)[k]'(by rw [typed_len]; exact h1) = c := by simpa using h2
    rw [this]
  · rintro ⟨h1, h2⟩
    refine ⟨h1, ?_⟩
    rw [List.getD_eq_getElem?_getD, h2]
    simp
/-- a letter stands in a text where it is counted -/
theorem let_counted {st : List Stp} {m : Nat} (h : Goes m 0 st) {c : Nat} (hc : isLet c = true) : c ∈ typed st ↔ 0 < cntP st (lP st c) (sz st) := by
  constructor
  · intro z
    obtain ⟨k, hk⟩ := List.mem_iff_getElem?.mp z
    have hlt := (List.getElem?_eq_some_iff.mp hk).1
    rw [typed_len] at hlt
    rw [cntP_all h _ (Nat.le_refl _), List.countP_pos_iff]
    refine ⟨k, ex_all hlt, ?_⟩
    unfold lP
    rw [List.getD_eq_getElem?_getD, hk]
    simp
  · intro z
    obtain ⟨k, hk, hp⟩ := cntP_key z
    have hlt := lP_lt hc hp
    exact List.mem_of_getElem? (lks_mem.mp (List.mem_filter.mpr ⟨List.mem_range.mpr hlt, hp⟩)).2
theorem lks_nil {st : List Stp} {m : Nat} (h : Goes m 0 st) {c : Nat} (h0 : cntP st (lP st c) (sz st) = 0) : lks st c = [] := by
  rw [List.eq_nil_iff_forall_not_mem]
  intro k hk
  unfold lks at hk
  rw [List.mem_filter, List.mem_range] at hk
  rw [cntP_all h _ (Nat.le_refl _), List.countP_eq_zero] at h0
  exact h0 k (ex_all hk.1) hk.2
open PySem PySem.Spec PyProof.Rows L2
theorem at_typedI {st : List Stp} {v : Int} (h0 : 0 ≤ v) (h1 : v < (nk st : Nat)) : atI (sL (typed st)).cps.toList v = some (ltr st v.toNat) := by
  rw [show v = ((v.toNat : Nat) : Int) by omega]
  exact atI_nat (key_typed (by omega))
theorem at_cVI {n : Nat} {g : Nat → Int} {v : Int} (h0 : 0 ≤ v) (h1 : v < (n : Nat)) : atI (cV n g) v = some (.int (g v.toNat)) := by
  rw [show v = ((v.toNat : Nat) : Int) by omega]
  exact atI_nat (cV_get _ (by omega))
theorem valV_lcD {st : List Stp} {a e c : Nat} (hc : isLet c = true) (hae : a ≤ e) : (valV (kvL (lcD st a e)) (.inr (sL [c]))).getD (.int 0) = .int ((cntP st (lP st c) e : Int) - (cntP st (lP st c) a : Int)) := by
  have hm := cntP_mono st (lP st c) hae
  rw [valV_L]
  congr 1
  by_cases h : c ∈ lcs st a e
  · have : ∀ l : List Nat, c ∈ l → getW (l.map fun c => (c, (cntP st (lP st c) e : Int) - (cntP st (lP st c) a : Int))) c = (cntP st (lP st c) e : Int) - (cntP st (lP st c) a : Int) := by
      intro l
      induction l with
      | nil => intro z; simp at z
      | cons x r ih =>
        intro z
        show (if x = c then (cntP st (lP st x) e : Int) - (cntP st (lP st x) a : Int) else getW (r.map _) c) = _
        by_cases ex : x = c
        · rw [if_pos ex, ex]
        · rw [if_neg ex]
          exact ih ((List.mem_cons.mp z).resolve_left (Ne.symm ex))
    exact this _ h
  · have h0 : getW (lcD st a e) c = 0 := getW_out (by unfold lcD; rw [List.map_map]; simpa using h)
    rw [h0]
    unfold lcs at h
    rw [List.mem_filter, not_and, decide_eq_true_eq] at h
    have := h (let_iff.mp hc)
    omega
theorem lcD_at {st : List Stp} {a e i : Nat} {k : Key} {v : V} (h : (kvL (lcD st a e))[i]? = some (k, v)) : ∃ c, c ∈ lcs st a e ∧ isLet c = true ∧ k = .inr (sL [c]) ∧ v = .int ((cntP st (lP st c) e : Int) - (cntP st (lP st c) a : Int)) := by
  unfold kvL lcD at h
  rw [List.getElem?_map, List.getElem?_map] at h
  cases hx : (lcs st a e)[i]? with
  | none => rw [hx] at h; cases h
  | some c =>
    rw [hx] at h
    cases h
    have := List.mem_of_getElem? hx
    unfold lcs at this
    rw [List.mem_filter] at this
    exact ⟨c, List.mem_of_getElem? hx, let_iff.mpr this.1, rfl, rfl⟩
theorem lcD_mem {st : List Stp} {a e c : Nat} (hc : c ∈ lcs st a e) : valV (kvL (lcD st a e)) (.inr (sL [c])) = some (.int ((cntP st (lP st c) e : Int) - (cntP st (lP st c) a : Int))) := by
  have hl : isLet c = true := by
    unfold lcs at hc
    rw [List.mem_filter] at hc
    exact let_iff.mpr hc.1
  have hm : c ∈ (lcD st a e).map (·.1) := by
    unfold lcD
    rw [List.map_map]
    simpa using hc
  rw [valV_inL hm]
  congr 2
  have h2 := valV_lcD (st := st) (a := a) (e := e) hl
  rw [valV_inL hm] at h2
  by_cases hae : a ≤ e
  · have := h2 hae
    simpa using this
  · exfalso
    unfold lcs at hc
    rw [List.mem_filter, decide_eq_true_eq] at hc
    have := cntP_mono st (lP st c) (show e ≤ a by omega)
    omega
theorem iL {a c : Nat} {A B : Prop} (h1 : a = c → A) (h2 : ¬ a = c → B) : if decide (V.str ⟨#[a]⟩ = V.str (sL [c])) = true then A else B :=
  iB (fun h => h1 (by injection h with h; exact (List.cons.inj (sL_inj.mp h)).1)) fun h => h2 fun z => h (by rw [z]; rfl)
theorem lP_is {st : List Stp} {c k : Nat} (h : ltr st k = c) : lP st c k = true := beq_iff_eq.mpr h
theorem lP_not {st : List Stp} {c k : Nat} (h : ¬ ltr st k = c) : lP st c k = false := beq_eq_false_iff_ne.mpr h
/-- what is there of some places -/
theorem keeps_opt (L : List (Option Nat)) : keeps L.length (fun i => (L.getD i none).isSome) (fun i => optV (L.getD i none)) = (L.filterMap id).map fun k => V.int (k : Nat) := by
  unfold keeps
  rw [range_filterG none L Option.isSome optV]
  induction L with
  | nil => rfl
  | cons x r ih =>
    cases x with
    | none => rw [List.filter_cons, List.filterMap_cons]; exact ih
    | some k =>
      rw [List.filter_cons, List.filterMap_cons]
      show optV (some k) :: (r.filter Option.isSome).map optV = V.int (k : Nat) :: (r.filterMap id).map _
      rw [ih]
      rfl
theorem map_getDG {α β : Type} (d : α) (l : List α) (g : α → β) : (List.range l.length).map (fun i => g (l.getD i d)) = l.map g := by
  have h := range_filterG d l (fun _ => true) g
  rwa [List.filter_eq_self.mpr (fun _ _ => rfl), List.filter_eq_self.mpr (fun _ _ => rfl)] at h
theorem abc_list : (Str.ofString "abcdefghijklmnopqrstuvwxyz").cps.toList = List.range' 97 26 := by decide +kernel
theorem abc_len : (Str.ofString "abcdefghijklmnopqrstuvwxyz").length ≤ 26 := by decide +kernel
theorem at_abc {v : Int} (h0 : 0 ≤ v) (h1 : v < 26) : atI (Str.ofString "abcdefghijklmnopqrstuvwxyz").cps.toList v = some (97 + v.toNat) := by
  rw [abc_list, show v = ((v.toNat : Nat) : Int) by omega]
  refine atI_nat ?_
  rw [Int.toNat_natCast, List.getElem?_eq_getElem (by rw [List.length_range']; omega), List.getElem_range']
  simp
theorem abc_let {v : Int} (h0 : 0 ≤ v) (h1 : v < 26) : isLet (97 + v.toNat) = true := by
  unfold isLet
  rw [decide_eq_true (by omega), decide_eq_true (by omega)]
  rfl
end Pk
/-! ## d.get(x) of a written dict -/
namespace Pk
open PySem PySem.Spec PyProof.Rows L2
/-- a written dict of numbers at text keys: what its keys are worth -/
structure KInts (K : Fr) (w : World) (d : Addr) (kvs : List (Str × Int)) : Prop where
  at_ : ∃ es n, KDict K w d es n
  vals : ∀ p ∈ kvs, ∃ u, PySem.W.nsIn K d p.1 = some (some u) ∧ RelV (.int p.2) u
def tKGet1 (ty : TE) (kvs : List (Str × Int)) : TE := fun σ H Q => ty σ H fun y H2 => ∃ z i, y = .str z ∧ (z, i) ∈ kvs ∧ Q (.int i) H2
theorem pe_kget1 {X : Cx} {x : Str} {e : Expr} {p apos cpos : Pos} {ty : TE} {d : Addr} {kvs : List (Str × Int)} (D : KInts X.K X.w d kvs) (hg : Gl X x) (hm : X.mg x = some (.ref d)) (he : PE X e ty) (m : M1 X (.Name x p) "get" apos e cpos) (hdb : (x == ("__debug__" : Str)) = false := by decide) :
    PE X (.Call (.Attribute (.Name x p) "get" apos) [e] [] cpos) (tKGet1 ty kvs) := by
  refine ⟨fun pins s σ H Q I h => ?_⟩
  obtain ⟨es, n, kd⟩ := D.at_
  refine wpAny_Call_method m.base m.few m.line PySem.F.plainAttrs_dict PySem.F.slot_dict_get PySem.F.type_dict_get (ld_glob I hg hm ?_ hdb)
  have mo := PySem.W.mapOf_K (prog := X.prog) (w := X.w) I.kIn kd.at_ kd.lit
  refine ⟨kd_type kd I, fun b q => ?_, ?_⟩
  · cases q
    exact ⟨_, I.kIn _ _ kd.at_, rfl⟩
  · rw [m.trees]
    refine Calls.callWith_builtin rfl (Calls.evalArgs_plain (Calls.spliced_cons (thn (he.run pins s σ H _ I h) fun iv s2 ⟨y, H2, I2, ry, z, i, ey, hz, q⟩ => Calls.spliced_nil ?_)))
    subst ey
    obtain ⟨t, rfl⟩ := ry
    obtain ⟨u, hu, ru⟩ := D.vals _ hz
    have mo2 := PySem.W.mapOf_K (prog := X.prog) (w := X.w) I2.kIn kd.at_ kd.lit
    refine call_meetsIn PySem.F.slot_dict_get mo2.typeIs PySem.F.entry_dict_get (PySem.F.args_dict_get_2 _ _) (meets_dict_get (PySem.strKind X.prog X.w) d (PySem.strKind_is X.prog X.w z t) kd.low) ⟨_, mo2, ?_⟩
    rw [PySem.W.find_K kd.at_ hu]
    exact ⟨.int i, H2, I2.tok _, ru, q⟩
end Pk
/-! ## a field as a target; len of an own class -/
namespace Pk
open PySem PySem.Spec PyProof.Rows L2
section
variable {X : Cx}
def gFld (K : Fr) (to : TE) (f : Str) : TG := fun v σ H Q => to σ H fun x H2 => ∃ a C dx fs, x = .ref a ∧ H2 a = some (.ins C dx fs) ∧ Cls K C ∧ NoAttr K C f ∧ fs.length < 1000 ∧ Q σ (upd H2 a (.ins C dx (putF f v fs)))
theorem pg_fld {o : Expr} {to : TE} {f : Str} {pos : Pos} (ho : PE X o to) : PG X (.Attribute o f pos) (gFld X.K to f) := by
  refine ⟨fun pins s σ H y u Q I ry h => ?_⟩
  refine PySem.W.kas_attr (thn (ho.run pins s σ H _ I h) fun ov s2 ⟨x, H2, I2, rx, a, C, dx, fs, ex, ea, c, n, l, q2⟩ => ?_)
  subst ex
  obtain rfl : ov = Value.ref a := rx
  exact setattr_ok I2 ea c n l ry fun s3 I3 => ⟨σ, _, I3, q2⟩
def rLenO (C : Addr) (sp : Sp) (E : XK) : List V → Hp → VK → Prop := fun xs H Q => ∃ a dx fs, xs = [.ref a] ∧ H a = some (.ins C dx fs) ∧ sp [.ref a] H (fun y H2 => ∃ n : Int, y = .int n ∧ 0 ≤ n ∧ n < 9223372036854775808 ∧ Q (.int n) H2) E
theorem call_lenO {CX : CXT} {k : Nat} {C f : Addr} {sp : Sp} {E : XK} (hs : OpF X.K C "__len__" f) (F : FnR X.prog X.w X.K X.mg X.base CX k f sp) (hr : Room (k + 1) X.A) (hx : Passes CX X E) : CallR X (.builtin "len") (rLenO C sp E) := by
  intro pins s σ H xs us Q I r h
  obtain ⟨a, dx, fs, ex, ha, q⟩ := h
  subst ex
  obtain ⟨u, eu, rx⟩ := vals1 r
  subst eu
  cases rx
  obtain ⟨mA, O, _⟩ := ins_get I.hok ha
  obtain ⟨oa, JA, _⟩ := O.look
  obtain ⟨m, hF⟩ := I.fr
  refine PySem.W.len_K hF I.ok.mod.kin JA hs.at_ hs.fn (wpAny_mono (wpAny_call (codeAny_mono (SlX.run_at (us := [.ref a]) (ws := [V.ref a]) F hr.in1 I.env0.in1 hx I (.cons rfl .nil) q) fun r s3 hq => by
    cases r with
    | error e => exact hq
    | ok fl => cases fl with
      | ret w => exact hq
      | _ => exact hq.elim)) (fun v s3 hq => ?_) fun _ _ z => z)
  obtain ⟨y, H3, I3, ry, n, ey, h0, h1, q3⟩ := hq
  subst ey
  obtain ⟨t, rfl⟩ := ry
  exact ⟨⟨h0, by omega⟩, .int n, H3, I3.tok _, ⟨_, rfl⟩, q3⟩
end
end Pk
namespace Pk
open PySem PySem.Spec PyProof.Rows L2
def tMethSA (K : Fr) (C : Addr) (m : Str) (g : Addr) (sp : Sp) (E : XK) (ta te : TE) : TE := fun σ H Q => ta σ H fun x H1 => ∃ a dx fs, x = .ref a ∧ H1 a = some (.ins C dx fs) ∧ fs.lookup m = none ∧
  ∀ q, H1 q = none → te σ (upd H1 q (.met g a)) fun y H2 => ∃ b vs, y = .ref b ∧ (SqT K H2 b vs ∨ SqL K H2 b vs) ∧ H2 q = some (.met g a) ∧ sp (.ref a :: vs) H2 Q E
/-- o.m( *e), e a tuple or a list -/
theorem pe_methSA {X : Cx} {CX : CXT} {k : Nat} {C g : Addr} {m : Str} {sp : Sp} {E : XK} {o e : Expr} {ta te : TE} {p apos pos : Pos} (he : PE X o ta) (c : Cls X.K C) (b : BMeth X.K C m g) (F : FnR X.prog X.w X.K X.mg X.base CX k g sp) (hr : Room k X.A)
    (hx : Passes CX X E) (ha : PE X e te) (hbase : attributeBase o m X.env (eval o X.env) = eval o X.env := by rfl) : PE X (.Call (.Attribute o m apos) [.Starred e p] [] pos) (tMethSA X.K C m g sp E ta te) := by
  refine ⟨fun pins s σ H Q I h => starcall_of hbase (thn (he.run pins s σ H _ I h) fun u s1 ⟨x, H1, I1, rx, a, dx, fs, ex, ea, l, q⟩ => ?_)⟩
  subst ex
  obtain rfl : u = Value.ref a := rx
  refine getbound_ok I1 ea c b l fun q1 s2 hq1 I2 => PySem.W.ks_call (P := PySem.W.MethP X.K q1 g (.ref a)) rfl (PySem.W.keeps_M b.fi) (PySem.W.ks_lone ?_)
  refine thn (ha.run pins s2 σ _ _ I2 (q q1 hq1)) fun v s3 ⟨y, H2, I3, ry, t, vs, ey, ht, hm, hsp⟩ => ?_
  subst ey
  cases ry
  refine StX.star_any I3 ht fun us s4 I4 rv => ⟨met_P I4 hm, wpAny_call (PySem.W.method_call (met_P I4 hm).1 ?_)⟩
  exact run_fnR (us := Value.ref a :: us) (vs := V.ref a :: vs) F hr hx I4 (.cons rfl rv) hsp
end Pk
/-! ## sorted(set(xs)), sum(d.values()) -/
namespace Pk
open PySem PySem.Spec PyProof.Rows L2
/-- a set, just made -/
abbrev emptyS (w : World) : Obj := { cls := .type "set", dict := none, data := .set #[] 0 (.fresh 0 0 (!w.params.followText "set-order")) }
section
variable {P : Program} {w : World} {A : Around} {E : Value → Shared → Prop} {s : Shared}
theorem type_codes {T newId initId : String} {Bi : Builtin} {args : List Value} {Q Q₁ : Value → Shared → Prop} (ft : TypeCalled T newId initId) (hct : checkTypeCall T ⟨args, []⟩ = pure ()) (en : entryFor table initId = some Bi)
    (hnew : codeAny (model P w) A.in1 (.call (.builtin newId) ⟨.type T :: args, []⟩) (wants Q₁ E) s)
    (hty : ∀ obj s₁, Q₁ obj s₁ → s₁.TypeIs obj T) (hchk : ∀ obj s₁, Q₁ obj s₁ → ∀ (M : Model) (B : Around) (E' : Value → Shared → Prop) (Q' : Unit → Shared → Prop), Q' () s₁ → wpAny M B (checkBuiltinCall initId ⟨obj :: args, []⟩) Q' E' s₁)
    (hnext : ∀ obj s₁, Q₁ obj s₁ → wpAny (model P w) A.in1.in1 (Bi ⟨obj :: args, []⟩)
      (fun fin s' => match fin with | .done f => wants (fun r s₂ => r = .none ∧ Q obj s₂) E (.ok f) s' | .again c' => c'.quiet = true ∧ codeAny (model P w) A.in1 c' (wants (fun r s₂ => r = .none ∧ Q obj s₂) E) s')
      (fun e s' => wants (fun r s₂ => r = .none ∧ Q obj s₂) E (.error e) s') s₁) : wpAny (model P w) A (call (.type T) args) Q E s := by
  obtain ⟨c, tl, f1⟩ := ft.mro
  have f2 := ft.made; have f3 := ft.sub; have f4 := ft.notType; have f5 := ft.canCreate
  refine wpAny_call (codeAny_of_tree (show wpAny _ _ (callAny (.type T) _) _ _ _ from wpAny_pure ⟨Code.quiet_builtin _ (by decide +kernel), codeAny_builtin F.entry_type_call ?_⟩))
  rw [Around.under_plain (weight_type_call_type T args []) rfl]
  repeat (any_goals (first | assumption | wp_step))
  refine codeAny_mono hnew fun r s₁ hr => ?_
  match r, hr with
  | .error e, hr => exact hr
  | .ok (.ret obj), hr =>
    have y1 := hnext _ _ hr
    have y2 := hchk _ _ hr
    have y3 := hty _ _ hr
    have f6 := ft.init.lookup; have f7 := ft.init.bind obj
    repeat (any_goals (first | assumption | wp_step))
    refine codeAny_mono (codeAny_call_builtin ft.init.plain en (y2 _ _ _ _ y1)) fun r₂ s₂ z => ?_
    match r₂, z with
    | .error e, z => exact z
    | .ok (.ret r), z =>
      obtain ⟨rfl, z⟩ := z
      repeat (any_goals (first | assumption | wp_step))
theorem set_ofL {l : Addr} {its : List Value} (ns : List Int) {Q : Value → Shared → Prop} (hh : A.handled = none) (hl : s.heap.IsList l its.toArray) (hi : IntsAre its ns) (hb : ns.length + 1 < scanBound)
    (h : ∀ (h' : Heap) (tk c : Nat), SetR w h' s.heap.objs.size (fun j => decide (j ∈ ns)) c → c ≤ ns.length → (∀ b o, s.heap.get? b = some o → h'.get? b = some o) → Q (.ref s.heap.objs.size) { s with heap := h', toks := tk }) :
    wpAny (model P w) A (call (.type "set") [.ref l]) Q E s := by
  have hsz : its.toArray.size = ns.length := by rw [List.size_toArray]; exact IntsAre.length hi
  refine type_codes (Q₁ := fun obj s₁ => obj = .ref s.heap.objs.size ∧ s₁ = { s with heap := s.heap.push (emptyS w) }) F.called_set (F.typeCall_set_1 _) F.entry_set_init (code_set_led1 _ ⟨rfl, rfl⟩) (fun obj s₁ h₁ => by obtain ⟨rfl, rfl⟩ := h₁; exact ⟨_, Heap.get?_push_size _ rfl, rfl⟩) (fun obj s₁ h₁ M B E' Q' q' => ?_) fun obj s₁ h₁ => ?_
  · obtain ⟨rfl, rfl⟩ := h₁
    exact check_set_init_1 ⟨_, Heap.get?_push_size _ rfl, rfl⟩ q'
  obtain ⟨rfl, rfl⟩ := h₁
  have gS : (s.heap.push (emptyS w)).get? s.heap.objs.size = some (emptyS w) := Heap.get?_push_size _ rfl
  have tS : Shared.TypeIs { s with heap := s.heap.push (emptyS w) } (.ref s.heap.objs.size) "set" := ⟨_, gS, rfl⟩
  obtain ⟨⟨cl, dd, dt, sl⟩, hol, hcl, nl, hdl⟩ := hl
  simp only at hcl hdl
  subst hcl hdl
  have hol2 : (s.heap.push (emptyS w)).get? l = some { cls := .type "list", dict := dd, data := .seq its.toArray nl, slots := sl } := Heap.get?_push_of_some _ hol
  have i1 : (s.heap.push (emptyS w)).IsList l its.toArray := ⟨_, hol2, rfl, nl, rfl⟩
  have b1 := F.sub_list_set
  have b2 := F.sub_list_frozenset
  have b3 : (Value.type "list" == Value.type "dict") = false := by decide
  unfold Builtin.«set.__init__» noKeywords Builtin.Frozenset.updateFrom
  generalize hPI : pyIter = PI
  wp_walk
  subst hPI
  refine wpAny_pyIter_list i1 ?_
  refine wpAny_bind (wpAny_runValue ?_)
  have lt : l < s.heap.objs.size := Heap.lt_size hol
  have zz : (s.heap.push (emptyS w)).objs.size = s.heap.objs.size + 1 := Heap.size_push ..
  have n1 : l ≠ (s.heap.push (emptyS w)).objs.size := by rw [zz]; exact Nat.ne_of_lt (Nat.lt_succ_of_lt lt)
  have n2 : s.heap.objs.size ∉ [(s.heap.push (emptyS w)).objs.size, l] := by
    rw [zz, List.mem_cons, List.mem_singleton]
    exact not_or.mpr ⟨Nat.ne_of_lt (Nat.lt_succ_self _), Nat.ne_of_gt lt⟩
  refine set_update_ints ((Walks.list (by simp [hh]) _ l n1 its.toArray).toS) s.heap.objs.size n2 ns hsz hb (fun i v hv => ?_) (its.toArray.size - 0) 0 _ rfl (Nat.zero_le _) ⟨⟨_, Heap.get?_push_size _ rfl, rfl, rfl⟩, i1.push _⟩ ⟨0, Nat.le_refl 0, setR_new_at (Heap.get?_push_of_some _ gS)⟩ fun s' c' hm hc' hS' => ?_
  · have hi2 : i < ns.length := by rw [← hsz]; exact (Array.getElem?_eq_some_iff.mp hv).1
    obtain ⟨t, e⟩ := IntsAre.int_at hi i v (by simpa using hv)
    exact ⟨ns[i], t, List.getElem?_eq_getElem hi2, by rw [e, List.getD_eq_getElem?_getD, List.getElem?_eq_getElem hi2] <;> rfl⟩
  · obtain ⟨h', g2, d2, tk2, o2⟩ := s'
    obtain rfl : g2 = s.gens := hm.gens
    obtain rfl : d2 = s.drawn := hm.drawn
    obtain rfl : o2 = s.os := hm.os
    show wpAny _ _ _ _ _ _
    refine wpAny_pure ?_
    show wpAny _ _ (ret Value.none) _ _ _
    rw [hsz] at hc'
    refine wpAny_pure ⟨rfl, h h' tk2 c' hS' hc' fun b o e => ?_⟩
    have hb0 := Heap.lt_size e
    refine hm.heap b o ?_ (Heap.get?_push_of_some _ (Heap.get?_push_of_some _ e))
    rw [List.mem_cons, List.mem_singleton, zz]
    exact not_or.mpr ⟨Nat.ne_of_lt hb0, Nat.ne_of_lt (Nat.lt_succ_of_lt hb0)⟩
/-- sorted of a set of whole numbers, however many -/
theorem sorted_setN {a : Addr} {S : Int → Bool} {n : Nat} {Q : Value → Shared → Prop} (R : SetR w s.heap a S n) (hh : A.handled = none) (hn0 : n ≤ 4000)
    (hQ : ∀ s' p (out : Array Value) (c : Nat) (ns : List Int), (∀ b o, s.heap.get? b = some o → s'.heap.get? b = some o) → s'.gens = s.gens → s'.os = s.os → s.heap.objs.size ≤ p →
      s'.heap.get? p = some (seqObj "list" out c) → IntsAre out.toList ns → ns.Pairwise (· < ·) → (∀ k, k ∈ ns ↔ S k = true) → ns.length = n → Q (.ref p) s') :
    wpAny (model P w) A (call (.builtin "sorted") [.ref a]) Q E s := by
  obtain ⟨o, es, ep, t, ho, hex, hd, g, nd, hm, hb, hf, hn, hr, hl⟩ := R
  refine Calls.call_function_entry kind_sorted plain_sorted entry_sorted (args_sorted1 _) ?_
  unfold Builtin.«sorted»
  refine wpAny_bind (m := checkCount "sorted" 1 1 _) (wpAny_pure ?_)
  refine wpAny_bind (collect_set (A := A.in1) hh ⟨o, ho, hex.1, hd⟩ hf hb hr hl fun s1 vs k1 hz g1 o1 pm => ?_)
  have hvl : vs.length = n := by rw [pm.length_eq, List.length_map, Array.length_toList]; exact hn
  have hvz : vs.length ≤ sizeLine := by rw [hvl, sizeLine_eq]; omega
  have hI : IntsAre vs (vs.map SrtO.iv) := SrtO.ints_iv fun v hv => by
    obtain ⟨e, he, q⟩ := List.mem_map.mp (pm.mem_iff.mp hv)
    obtain ⟨k, tk, z1, _⟩ := g e he
    exact ⟨k, tk, by rw [← q]; exact z1⟩
  have pk : (vs.map SrtO.iv).Perm (es.toList.map keyOf) := by
    have q := pm.map SrtO.iv
    rw [List.map_map] at q
    exact q
  refine wpAny_bind (wpAny_newList ?_ hvz)
  have oL : (s1.heap.push (seqObj "list" vs.toArray 0)).get? s1.heap.objs.size = some (seqObj "list" vs.toArray 0) := Heap.get?_push_size _ rfl
  refine wpAny_bind (wpAny_holding (wpAny_call_entry slot_list_sort ⟨_, oL, rfl⟩ entry_list_sort (SrtO.list_sort_ord SrtO.swo_int oL hvz (fun h2 => SrtO.ints_sortable hI h2) fun out y1 y2 => ⟨_, rfl, ?_⟩) (args_list_sort _)))
  obtain ⟨x1, x2, x3⟩ := SrtO.ints_out hI y1 y2
  obtain ⟨c, hc⟩ := sortedHeap_at (vs := vs) (out := out.toArray) oL
  have pn := x2.trans pk
  refine wpAny_pure ⟨_, rfl, hQ _ s1.heap.objs.size out.toArray c (out.map SrtO.iv) (fun b u e => ?_) g1 o1 hz hc (by simpa using x1) (lt_of_le_nodup _ x3 (pn.nodup_iff.mpr nd)) (fun k => by rw [pn.mem_iff, ← hm k]) ?_⟩
  · have q := k1 b u e
    have lt := Heap.lt_size q
    show (sortedHeap (s1.heap.push (seqObj "list" vs.toArray 0)) s1.heap.objs.size vs out.toArray).get? b = some u
    rw [sortedHeap_old (Nat.ne_of_lt lt) (by rw [size_push']; exact Nat.lt_succ_of_lt lt)]
    exact Heap.get?_push_of_some _ q
  · rw [pn.length_eq, List.length_map, Array.length_toList]; exact hn
end
theorem sorted_inv {X : Cx} {pins : List (Addr × Obj)} {σ : L2.St} {H1 : Hp} {s2 : Shared} {a : Addr} {S : Int → Bool} {n : Nat} {Q : VK} {A : Around} {E : Value → Shared → Prop} (I2 : Inv X pins σ H1 s2) (R : SetR X.w s2.heap a S n) (hh : A.handled = none) (hn : n ≤ 1000)
    (q1 : ∀ (out : List Int) (q : Addr), out.Pairwise (· < ·) → (∀ k, k ∈ out ↔ S k = true) → H1 q = none → Q (.ref q) (upd H1 q (.lst (out.map V.int)))) :
    wpAny (model X.prog X.w) A (call (.builtin "sorted") [.ref a]) (fun u s' => ∃ x H', Inv X pins σ H' s' ∧ RelV x u ∧ Q x H') E s2 := by
  refine sorted_setN R hh (by omega) fun s' p out c ns2 k g o hp hg hi hs hm hl => ?_
  have hlen : (ns2.map V.int).length ≤ sizeLine := by rw [List.length_map, hl, sizeLine_eq]; omega
  have hn : H1 p = none := I2.hok.fresh hp
  have J : Inv X pins σ (upd H1 p (.lst (ns2.map V.int))) { s2 with heap := s'.heap, gens := s'.gens, drawn := s'.drawn, toks := s'.toks } :=
    I2.call (ch := []) (Un.laid k hp hn) (I2.hok.laid k hp ⟨hlen, out.toList, c, vals_of_ints hi, hg⟩) (by rw [g]; exact I2.bare) (fun _ z => nomatch z)
  have e : s' = { s2 with heap := s'.heap, gens := s'.gens, drawn := s'.drawn, toks := s'.toks } := by
    cases s'
    cases s2
    cases o
    rfl
  rw [e]
  exact ⟨.ref p, _, J, rfl, q1 ns2 p hs hm hn⟩
def tSortSet (K : Fr) (ta : TE) : TE := fun σ H Q => ta σ H fun x H1 => ∃ (l : Addr) (ns : List Int), x = .ref l ∧ SqL K H1 l (ns.map V.int) ∧ ns.length ≤ 1000 ∧
  ∀ (out : List Int) (q : Addr), out.Pairwise (· < ·) → (∀ k, k ∈ out ↔ k ∈ ns) → H1 q = none → Q (.ref q) (upd H1 q (.lst (out.map V.int)))
theorem pe_sortSet {X : Cx} (K : Fr) {a : Expr} {ta : TE} {p p2 q pos : Pos} (hg : Gl X "sorted") (hm : X.mg "sorted" = none) (hg2 : Gl X "set") (hm2 : X.mg "set" = none) (ha : PE X a ta) (hc : X.calm = true := by rfl)
    (na : starEach [a] X.env = (false, eval a X.env) :: starEach [] X.env := by rfl) (hK : X.K = K := by rfl) : PE X (.Call (.Name "sorted" p) [.Call (.Name "set" p2) [a] [] q] [] pos) (tSortSet K ta) := by
  subst hK
  refine ⟨fun pins s σ H Q I h => ?_⟩
  refine Call_ (ld_blt I hg hm b_sorted ?_)
  refine PyProof.Rows.callWith_builtin1 (PyProof.Rows.args_cons ?_ rfl) rfl rfl
  refine Call_ (ld_blt I hg2 hm2 boot_set ?_)
  refine PyProof.Rows.callWith_type1 (PyProof.Rows.args_cons (thn (ha.run pins s σ H _ I h) fun v s1 ⟨x, H1, I1, r1, q1⟩ => PyProof.Rows.args_nil ?_) na) na rfl
  obtain ⟨l, ns, rfl, hq, hl, q1⟩ := q1
  cases r1
  obtain ⟨its, r, pl, hz⟩ := I1.list hq
  refine set_ofL ns (I1.ok.hd hc) pl.isList r.ints (by unfold scanBound; omega) fun h' tk c hS hcl hk => ?_
  refine PyProof.Rows.args_nil ?_
  have I2 : Inv X pins σ H1 { s1 with heap := h', toks := tk } := I1.kept hk
  exact sorted_inv I2 hS (I2.ok.hd hc) (by omega) fun ns2 p hs hm hn => q1 ns2 p hs (fun k => (hm k).trans (by rw [decide_eq_true_eq])) hn
theorem preSum_sum : ∀ (is : List Int), preSum (fun i => is.getD i 0) is.length = is.sum := fun is => by
  have h : ∀ n, n ≤ is.length → preSum (fun i => is.getD i 0) n = (is.take n).sum := fun n => by
    induction n with
    | zero => intro _; rfl
    | succ n ih =>
      intro hn
      have e : is[n]? = some is[n] := List.getElem?_eq_getElem (by omega)
      show preSum (fun i => is.getD i 0) n + is.getD n 0 = _
      rw [ih (by omega), List.take_add_one, e, List.sum_append, List.getD_eq_getElem?_getD, e]
      simp
  rw [h _ (Nat.le_refl _), List.take_length]
/-- sum(d.values()), a dict with int values -/
def tSumVals (td : TE) : TE := fun σ H Q => td σ H fun x H1 => ∃ (a : Addr) (kvs : List (Key × V)) (is : List Int), x = V.ref a ∧ H1 a = some (.dK kvs) ∧ kvs.map (·.2) = is.map V.int ∧ Q (.int is.sum) H1
section
variable {X : Cx} {o : Expr} {p pos apos mpos : Pos} {td : TE}
theorem pe_sumVals (hc : X.calm = true) (hg : Gl X "sum") (hm : X.mg "sum" = none) (hd : PE X o td) (hbase : attributeBase o "values" X.env (eval o X.env) = eval o X.env := by rfl) (hline : (apos.endLine == mpos.line) = true := by rfl)
    (hse : starEach [Expr.Call (.Attribute o "values" apos) [] [] mpos] X.env = [(false, eval (Expr.Call (.Attribute o "values" apos) [] [] mpos) X.env)] := by rfl) :
    PE X (.Call (.Name "sum" p) [.Call (.Attribute o "values" apos) [] [] mpos] [] pos) (tSumVals td) := by
  refine ⟨fun pins s σ H Q I h => ?_⟩
  refine wpAny_Call_Name_kw (ld_blt I hg hm (u := .builtin "sum") (by first | rfl | decide +kernel) ?_ (by first | decide +kernel | decide) (by first | decide +kernel | decide))
  rw [hse]
  refine PySem.callWith_builtin1 (wpAny_Call_method0_late hbase hline (thn (hd.run pins s σ H _ I h) fun v s1 ⟨x, H1, I1, r1, a, kvs, is, ex, ha, hv, q⟩ => ?_))
  subst ex
  obtain rfl : v = Value.ref a := r1
  obtain ⟨_, hsys, vs, rel, dof⟩ := dk_of I1.hok ha
  obtain ⟨ep, dat⟩ := dof.dictAt
  have dat2 := dat
  obtain ⟨ob, es, ho, ex, hdat, hko, hpr, hnd⟩ := dat2
  refine ⟨"dict", "dict.values", F.plainAttrs_dict, F.slot_dict_values, F.type_dict_values, ⟨ob, ho, ex.1⟩, fun b e => ?_, Calls.callWith_builtin rfl (PySem.evalArgs_none ?_)⟩
  · cases e
    exact ⟨ob, ho, ex.2.1⟩
  refine call_meetsIn F.slot_dict_values ⟨ob, ho, ex.1⟩ F.entry_dict_values (F.args_dict_values_1 _) (meets_dict_values (mixKind X.prog X.w) a hsys) ⟨⟨vs, dof⟩, ?_⟩
  have d1 : (s1.heap.push { cls := .type "dict_values", data := .fields #[.ref a] }).DictAt (mixKind X.prog X.w) a vs ep := dat.keep fun b u e => Heap.get?_push_of_some _ e
  have hlv : vs.length = is.length := by
    have e1 := congrArg List.length hv
    rw [List.length_map, List.length_map] at e1
    rw [← e1]
    exact (KV.length rel).symm
  refine PySem.call_sum_walkAnyS (wpAny_pyIter_values (v := s1.heap.objs.size) (d := a) ⟨_, Heap.get?_push_size _ rfl, rfl, rfl⟩ d1 ?_)
  have lt : a < s1.heap.objs.size := Heap.lt_size ho
  have hsz : (s1.heap.push { cls := .type "dict_values", data := .fields #[.ref a] }).objs.size = s1.heap.objs.size + 1 := Heap.size_push _ _
  refine ⟨_, _, _, _, _, _, _, fun i => is.getD i 0, rfl, (Walks.dictValues (knd := mixKind X.prog X.w) (A := X.A.in1) (I.ok.hd hc) (s1.heap.push { cls := .type "dict_values", data := .fields #[.ref a] }).objs.size a (by rw [hsz]; exact Nat.ne_of_lt (Nat.lt_succ_of_lt lt)) vs ep).toS,
    ⟨⟨_, Heap.get?_push_size _ rfl, rfl, rfl⟩, d1.keep fun b u e => Heap.get?_push_of_some _ e⟩, fun b hb => ?_, fun i v hx => ?_, fun s' t' hm => ?_⟩
  · show b < ((s1.heap.push _).push _).objs.size
    rw [Heap.size_push, Heap.size_push]
    rw [hsz, List.mem_cons, List.mem_singleton] at hb
    rcases hb with e | e
    · rw [e]
      exact Nat.lt_succ_self _
    · rw [e]
      exact Nat.lt_succ_of_lt (Nat.lt_succ_of_lt lt)
  · obtain ⟨k, hk⟩ := hx
    obtain ⟨x, z1, z2⟩ := KV.at' rel hk
    have e1 : (kvs.map (·.2))[i]? = some x := by rw [List.getElem?_map, z1] <;> rfl
    rw [hv, List.getElem?_map] at e1
    obtain ⟨j, hj, rfl⟩ := Option.map_eq_some_iff.mp e1
    obtain ⟨t, e3⟩ := z2
    exact ⟨t, by show _ = Value.int (is.getD i 0) t; rw [e3, List.getD_eq_getElem?_getD, hj] <;> rfl⟩
  · rw [PySem.Moved.eq_with hm, hlv, preSum_sum]
    refine ⟨.int is.sum, H1, I1.kept fun b u e => hm.heap b u (fun z => ?_) (Heap.get?_push_of_some _ (Heap.get?_push_of_some _ e)), ⟨t', rfl⟩, q⟩
    have e1 := List.mem_singleton.mp z
    have e2 := Heap.lt_size e
    rw [hsz] at e1
    rw [e1] at e2
    exact absurd e2 (Nat.not_lt.mpr (Nat.le_succ _))
end
end Pk
/-! ## len(set(xs)), sorted(d), dict(d), list(d) -/
namespace Pk
open PySem PySem.Spec PyProof.Rows L2
section
/-- len(set(xs)), xs a list of whole numbers -/
def tLenSetI (K : Fr) (ta : TE) : TE := fun σ H Q => ta σ H fun x H1 => ∃ (l : Addr) (ns : List Int), x = .ref l ∧ SqL K H1 l (ns.map V.int) ∧ ns.length ≤ 1000 ∧
  ∀ out : List Int, out.Nodup → (∀ k, k ∈ out ↔ k ∈ ns) → Q (.int out.length) H1
theorem pe_lenSetI {X : Cx} (K : Fr) {a : Expr} {ta : TE} {p p2 q pos : Pos} (hg : Gl X "len") (hm : X.mg "len" = none) (hg2 : Gl X "set") (hm2 : X.mg "set" = none) (ha : PE X a ta) (hc : X.calm = true := by rfl)
    (na : starEach [a] X.env = (false, eval a X.env) :: starEach [] X.env := by rfl) (hK : X.K = K := by rfl) : PE X (.Call (.Name "len" p) [.Call (.Name "set" p2) [a] [] q] [] pos) (tLenSetI K ta) := by
  subst hK
  refine ⟨fun pins s σ H Q I h => ?_⟩
  refine Call_ (ld_blt I hg hm boot_len ?_)
  refine PyProof.Rows.callWith_builtin1 (PyProof.Rows.args_cons ?_ rfl) rfl rfl
  refine Call_ (ld_blt I hg2 hm2 boot_set ?_)
  refine PyProof.Rows.callWith_type1 (PyProof.Rows.args_cons (thn (ha.run pins s σ H _ I h) fun v s1 ⟨x, H1, I1, r1, q1⟩ => PyProof.Rows.args_nil ?_) na) na rfl
  obtain ⟨l, ns, rfl, hq, hl, q1⟩ := q1
  cases r1
  obtain ⟨its, r, pl, hz⟩ := I1.list hq
  refine set_ofL ns (I1.ok.hd hc) pl.isList r.ints (by unfold scanBound; omega) fun h' tk c hS hcl hk => ?_
  refine PyProof.Rows.args_nil ?_
  have I2 : Inv X pins σ H1 { s1 with heap := h', toks := tk } := I1.kept hk
  obtain ⟨o, es, ep, t, ho, hex, hd, g, nd, hmm, hb, hf, hn, hr, hl2⟩ := hS
  have hlen : (es.toList.map keyOf).length = es.size := by rw [List.length_map, Array.length_toList]
  refine call_len_set ho hex hd hf (by rw [hn] <;> omega) ⟨.int (es.toList.map keyOf).length, H1, I2.tok _, ⟨_, by rw [hlen]⟩, q1 _ nd fun k => ?_⟩
  rw [← hmm k, decide_eq_true_eq]
/-- sorted(d), whole numbers for keys -/
def rSortedDI : List V → Hp → VK → Prop := fun xs H Q => ∃ (a : Addr) (kvs : List (Key × V)) (ks : List Int), xs = [.ref a] ∧ Rd H a (.dK kvs) ∧ kvs.map (·.1) = ks.map Sum.inl ∧ ks.length ≤ 10000 ∧
    ∀ (ys : List Int) (p : Addr), ys.Perm ks → ys.Pairwise (· ≤ ·) → H p = none → Q (.ref p) (upd H p (.lst (ys.map V.int)))
theorem cr_sortedDI {X : Cx} (hcalm : X.calm = true) : CallR X (.builtin "sorted") rSortedDI := by
  intro pins s σ H xs us Q I r q
  obtain ⟨a, kvs, ks, ex, hd, hks, h64, q⟩ := q
  subst ex
  obtain ⟨u, eu, rx⟩ := vals1 r
  subst eu
  cases rx
  obtain ⟨z, lo, vs, rel, dd⟩ := dk_rd I.hok hd
  obtain ⟨ep, hat⟩ := dd.dictAt
  have hkeys : vs.map (·.1) = ks.map Sum.inl := rel.keys.symm.trans hks
  have hl : vs.length = ks.length := by
    have e := congrArg List.length hkeys
    rw [List.length_map, List.length_map] at e
    exact e
  have h16 : vs.length ≤ sizeLine := by rw [hl, sizeLine_eq]; omega
  refine Calls.call_function_entry PyProof.Rows.kind_sorted PyProof.Rows.plain_sorted PyProof.Rows.entry_sorted (PyProof.Rows.args_sorted1 _) ?_
  unfold Builtin.«sorted»
  refine wpAny_bind (m := checkCount "sorted" 1 1 _) (wpAny_pure ?_)
  refine wpAny_bind (PySem.W.kdu_collect (A := X.A.in1) (PySem.W.kdl_dict (knd := mixKind X.prog X.w) (kvs := vs) (ep := ep) lo) (I.ok.hd hcalm) hat h16 fun h' tk acc hk hacc => ?_)
  have hal : acc.toList.length = ks.length := by rw [Array.length_toList, hacc.1, hl]
  have hS : IntsAre acc.toList ks := ints_each hal fun j v e => by
    obtain ⟨k, x, e1, e2⟩ := hacc.2 j v (by rw [← Array.getElem?_toList]; exact e)
    have e3 : (vs.map (·.1))[j]? = some k := by rw [List.getElem?_map, e1]; rfl
    rw [hkeys, List.getElem?_map] at e3
    cases e4 : ks[j]? with
    | none => rw [e4] at e3; cases e3
    | some y =>
      rw [e4] at e3
      have e5 : Sum.inl y = k := Option.some.inj e3
      subst e5
      rcases keyIs_shape (show keyIs (Sum.inl y) v = true from e2) with ⟨i, t, ek, ev⟩ | ⟨z, t, ek, ev⟩
      · cases ek
        exact ⟨y, t, rfl, ev⟩
      · cases ek
  have I1 : Inv X pins σ H { s with heap := h', toks := tk } := I.kept hk
  have hvz : acc.toList.length ≤ sizeLine := by rw [hal, sizeLine_eq]; omega
  refine wpAny_bind (wpAny_newList ?_ hvz)
  have hoL : (h'.push (seqObj "list" acc.toList.toArray 0)).get? h'.objs.size = some (seqObj "list" acc.toList.toArray 0) := Heap.get?_push_size _ rfl
  show wpAny _ _ _ _ _ { s with heap := h'.push (seqObj "list" acc.toList.toArray 0), toks := tk }
  refine wpAny_bind (wpAny_holding (wpAny_call_entry PyProof.Rows.slot_list_sort ⟨_, hoL, rfl⟩ PyProof.Rows.entry_list_sort
    (SrtO.list_sort_ord (s := { s with heap := h'.push (seqObj "list" acc.toList.toArray 0), toks := tk }) SrtO.swo_int hoL hvz (fun h2 => SrtO.ints_sortable hS h2) fun out y1 y2 => ⟨_, rfl, ?_⟩) (PyProof.Rows.args_list_sort _)))
  obtain ⟨g1, g2, g3⟩ := SrtO.ints_out hS y1 y2
  obtain ⟨e', he'⟩ := PyProof.Rows.sortedHeap_at (vs := acc.toList) (out := out.toArray) hoL
  have hlen : ((out.map SrtO.iv).map V.int).length ≤ sizeLine := by
    rw [List.length_map, g2.length_eq]
    exact Nat.le_trans h64 (by decide)
  refine wpAny_pure ⟨_, rfl, .ref h'.objs.size, upd H h'.objs.size (.lst ((out.map SrtO.iv).map V.int)), I1.laid (t' := tk) (fun b u e => ?_) (Nat.le_refl _)
    (show ObjOk X.prog X.w _ _ _ (.lst ((out.map SrtO.iv).map V.int)) from ⟨hlen, out, e', vals_of_ints g1, he'⟩), rfl, q _ _ g2 g3 (I1.hok.fresh (Nat.le_refl _))⟩
  have hb : b < h'.objs.size := Heap.lt_size e
  rw [PyProof.Rows.sortedHeap_old (Nat.ne_of_lt hb) (by rw [size_push']; exact Nat.lt_succ_of_lt hb)]
  exact Heap.get?_push_of_some _ e
def rSortedB (K : Fr) : List V → Hp → VK → Prop := fun xs H Q => (∃ (a : Addr) (ns : List Int), xs = [V.ref a] ∧ SqL K H a (ns.map V.int) ∧
  ∀ (ns' : List Int) (p : Addr), ns'.Perm ns → ns'.Pairwise (· ≤ ·) → H p = none → Q (.ref p) (upd H p (.lst (ns'.map V.int)))) ∨ rSortedDI xs H Q
theorem cr_sortedB {X : Cx} (K : Fr) (hc : X.calm = true := by rfl) (h : X.K = K := by rfl) : CallR X (.builtin "sorted") (rSortedB K) := by
  subst h
  exact cr_sortedI.or (cr_sortedDI hc)
/-- dict(d), list(d) besides -/
def rDictB (K : Fr) : List V → Hp → VK → Prop := fun xs H Q => rDictP K xs H Q ∨ ∃ (a : Addr) (kvs : List (Key × V)), xs = [.ref a] ∧ Rd H a (.dK kvs) ∧ ∀ p, H p = none → Q (.ref p) (upd H p (.dK kvs))
theorem dictB {X : Cx} (K : Fr) (hc : X.calm = true := by rfl) (h : X.K = K := by rfl) : CallR X (.type "dict") (rDictB K) := (dictP K hc h).or call_dictD
def rListB (K : Fr) : List V → Hp → VK → Prop := fun xs H Q => rListK K xs H Q ∨ ∃ (a : Addr) (kvs : List (Key × V)), xs = [.ref a] ∧ Rd H a (.dK kvs) ∧ ∀ p, H p = none → Q (.ref p) (upd H p (.lst (kvs.map fun kv => kV kv.1)))
theorem listB {X : Cx} (K : Fr) (hc : X.calm = true := by rfl) (h : X.K = K := by rfl) : CallR X (.type "list") (rListB K) := (listK K h).or (call_listD hc)
end
end Pk
/-! ## Dicts from whole numbers to letters -/
namespace Pk
open PySem PySem.Spec PyProof.Rows L2
abbrev LR := List (Nat × Nat)
def kvR (lt : LR) : List (Key × V) := lt.map fun p => (.inl (p.1 : Int), .str (sL [p.2]))
/-- the letter at g, or z -/
def getL (o : Option Nat) (z : V) : V := match o with
  | none => z
  | some c => .str (sL [c])
theorem kvR_len (lt : LR) : (kvR lt).length = lt.length := List.length_map ..
theorem kvR_app (a b : LR) : kvR (a ++ b) = kvR a ++ kvR b := List.map_append
theorem valV_R (g : Nat) : ∀ lt : LR, valV (kvR lt) (.inl (g : Int)) = (lt.lookup g).map fun c => V.str (sL [c])
  | [] => rfl
  | (k, c) :: r => by
    have ih := valV_R g r
    unfold valV kvR at ih ⊢
    rw [List.map_cons, List.find?_cons, List.lookup_cons]
    by_cases e : k = g
    · subst e
      simp
    · have e2 : ¬ (g = k) := fun z => e z.symm
      have e3 : ((Sum.inl (k : Int) : Key) = Sum.inl (g : Int)) = False := by
        refine eq_false fun z => e ?_
        injection z with z
        omega
      simp only [e3, decide_false]
      rw [show (g == k) = false from beq_eq_false_iff_ne.mpr e2]
      exact ih
def putR : LR → Nat → Nat → LR
  | [], g, c => [(g, c)]
  | (k, d) :: r, g, c => if k = g then (g, c) :: r else (k, d) :: putR r g c
theorem putR_keys : ∀ (lt : LR) (g c x : Nat), x ∈ (putR lt g c).map (·.1) ↔ x ∈ lt.map (·.1) ∨ x = g
  | [], g, c, x => by simp [putR]
  | (k, d) :: r, g, c, x => by
    unfold putR
    by_cases e : k = g
    · rw [if_pos e]
      subst e
      simp only [List.map_cons, List.mem_cons]
      constructor
      · rintro (h | h)
        · exact .inl (.inl h)
        · exact .inl (.inr h)
      · rintro ((h | h) | h)
        · exact .inl h
        · exact .inr h
        · exact .inl h
    · rw [if_neg e]
      simp only [List.map_cons, List.mem_cons, putR_keys r g c x]
      constructor
      · rintro (h | h | h)
        · exact .inl (.inl h)
        · exact .inl (.inr h)
        · exact .inr h
      · rintro ((h | h) | h)
        · exact .inl h
        · exact .inr (.inl h)
        · exact .inr (.inr h)
theorem putR_nodup : ∀ {lt : LR} (g c : Nat), (lt.map (·.1)).Nodup → ((putR lt g c).map (·.1)).Nodup
  | [], g, c, _ => by simp [putR]
  | (k, d) :: r, g, c, h => by
    rw [List.map_cons, List.nodup_cons] at h
    unfold putR
    by_cases e : k = g
    · rw [if_pos e]
      subst e
      rw [List.map_cons, List.nodup_cons]
      exact h
    · rw [if_neg e, List.map_cons, List.nodup_cons]
      refine ⟨fun z => ?_, putR_nodup g c h.2⟩
      rcases (putR_keys r g c k).mp z with z | z
      · exact h.1 z
      · exact e z
theorem lookup_put : ∀ (lt : LR) (g c x : Nat), (putR lt g c).lookup x = if x = g then some c else lt.lookup x
  | [], g, c, x => by
    unfold putR
    rw [List.lookup_cons]
    by_cases e : x = g
    · subst e
      simp
    · rw [if_neg e, show (x == g) = false from beq_eq_false_iff_ne.mpr e]
  | (k, d) :: r, g, c, x => by
    unfold putR
    by_cases e : k = g
    · rw [if_pos e]
      subst e
      rw [List.lookup_cons, List.lookup_cons]
      by_cases e2 : x = k
      · subst e2
        simp
      · rw [if_neg e2, show (x == k) = false from beq_eq_false_iff_ne.mpr e2]
    · rw [if_neg e, List.lookup_cons, List.lookup_cons, lookup_put r g c x]
      by_cases e2 : x = k
      · subst e2
        rw [if_neg e]
        simp [e]
      · rw [show (x == k) = false from beq_eq_false_iff_ne.mpr e2]
theorem lookup_mem : ∀ {lt : LR} {g c : Nat}, lt.lookup g = some c → (g, c) ∈ lt
  | [], g, c, h => by cases h
  | (k, d) :: r, g, c, h => by
    rw [List.lookup_cons] at h
    by_cases e : g = k
    · subst e
      simp at h
      subst h
      exact List.mem_cons_self
    · rw [show (g == k) = false from beq_eq_false_iff_ne.mpr e] at h
      exact List.mem_cons_of_mem _ (lookup_mem h)
theorem mem_lookupR : ∀ {lt : LR} {g c : Nat}, (lt.map (·.1)).Nodup → (g, c) ∈ lt → lt.lookup g = some c
  | [], g, c, _, h => by cases h
  | (k, d) :: r, g, c, hn, h => by
    rw [List.map_cons, List.nodup_cons] at hn
    rw [List.lookup_cons]
    rcases List.mem_cons.mp h with e | h
    · cases e
      simp
    · have : g ≠ k := fun z => hn.1 (z ▸ List.mem_map.mpr ⟨_, h, rfl⟩)
      rw [show (g == k) = false from beq_eq_false_iff_ne.mpr this]
      exact mem_lookupR hn.2 h
theorem lookup_none {lt : LR} {g : Nat} : lt.lookup g = none ↔ g ∉ lt.map (·.1) := by
  induction lt with
  | nil => simp
  | cons p r ih =>
    obtain ⟨k, d⟩ := p
    rw [List.lookup_cons, List.map_cons, List.mem_cons, not_or]
    by_cases e : g = k
    · subst e
      simp
    · rw [show (g == k) = false from beq_eq_false_iff_ne.mpr e]
      exact ⟨fun h => ⟨e, ih.mp h⟩, fun h => ih.mpr h.2⟩
theorem putR_mem {lt : LR} {g c : Nat} {p : Nat × Nat} (h : p ∈ putR lt g c) : p ∈ lt ∨ p = (g, c) := by
  induction lt with
  | nil =>
    unfold putR at h
    exact .inr (List.mem_singleton.mp h)
  | cons q r ih =>
    obtain ⟨k, d⟩ := q
    unfold putR at h
    by_cases e : k = g
    · rw [if_pos e] at h
      rcases List.mem_cons.mp h with h | h
      · exact .inr h
      · exact .inl (List.mem_cons_of_mem _ h)
    · rw [if_neg e] at h
      rcases List.mem_cons.mp h with h | h
      · exact .inl (h ▸ List.mem_cons_self)
      · rcases ih h with h | h
        · exact .inl (List.mem_cons_of_mem _ h)
        · exact .inr h
theorem putR_out {lt : LR} {g c : Nat} (h : g ∉ lt.map (·.1)) : putR lt g c = lt ++ [(g, c)] := by
  induction lt with
  | nil => rfl
  | cons q r ih =>
    obtain ⟨k, d⟩ := q
    rw [List.map_cons, List.mem_cons, not_or] at h
    unfold putR
    rw [if_neg (fun z => h.1 z.symm), ih h.2]
    rfl
theorem any_R (lt : LR) (g : Nat) : ((kvR lt).any fun kv => decide (kv.1 = .inl (g : Int))) = decide (g ∈ lt.map (·.1)) := by
  induction lt with
  | nil => rfl
  | cons p r ih =>
    unfold kvR at ih ⊢
    rw [List.map_cons, List.any_cons, ih, List.map_cons]
    have e3 : ((Sum.inl (p.1 : Int) : Key) = Sum.inl (g : Int)) = (p.1 = g) := propext ⟨fun z => by injection z with z; omega, fun z => by rw [z]⟩
    simp only [e3, List.mem_cons]
    by_cases e : p.1 = g
    · simp [e]
    · have e2 : ¬ (g = p.1) := fun z => e z.symm
      simp [e, e2]
theorem putK_R {lt : LR} (g c : Nat) (hn : (lt.map (·.1)).Nodup) : putK (kvR lt) (.inl (g : Int)) (.str (sL [c])) = kvR (putR lt g c) := by
  unfold putK
  rw [any_R]
  by_cases h : g ∈ lt.map (·.1)
  · rw [decide_eq_true h, if_pos rfl]
    induction lt with
    | nil => simp at h
    | cons p r ih =>
      obtain ⟨k, d⟩ := p
      rw [List.map_cons, List.nodup_cons] at hn
      unfold putR
      by_cases e : k = g
      · subst e
        rw [if_pos rfl]
        unfold kvR
        rw [List.map_cons, List.map_cons, List.map_cons]
        simp only [if_true]
        refine congrArg _ ?_
        rw [List.map_map]
        refine List.map_congr_left fun q hq => ?_
        have : ¬ (q.1 = k) := fun z => hn.1 (z ▸ List.mem_map.mpr ⟨_, hq, rfl⟩)
        show (if (Sum.inl (q.1 : Int) : Key) = Sum.inl (k : Int) then _ else _) = _
        rw [if_neg (fun z => this (by injection z with z; omega))]
      · rw [if_neg e]
        rw [List.map_cons, List.mem_cons] at h
        have h2 : g ∈ r.map (·.1) := h.resolve_left fun z => e z.symm
        have ih2 := ih hn.2 h2
        unfold kvR at ih2 ⊢
        rw [List.map_cons, List.map_cons, ih2]
        show (if (Sum.inl (k : Int) : Key) = Sum.inl (g : Int) then _ else _) :: _ = _
        rw [if_neg (fun z => e (by injection z with z; omega))]
        rfl
  · rw [decide_eq_false h, if_neg (by decide), putR_out h, kvR_app]
    rfl
/-! ### the rules -/
def RdR (H : Hp) (a : Addr) (lt : LR) : Prop := H a = some (.dK (kvR lt)) ∨ ∃ o, H a = some (.frz o (.dK (kvR lt)))
theorem RdR.rd {H : Hp} {a : Addr} {lt : LR} (h : RdR H a lt) : Rd H a (.dK (kvR lt)) := h
theorem RdR.get {H : Hp} {a : Addr} {lt : LR} (h : RdR H a lt) (g : Nat) : DGet H a (.int (g : Nat)) ((lt.lookup g).map fun c => V.str (sL [c])) := .inl ⟨_, .inl (g : Int), h.rd, rfl, (valV_R g lt).symm⟩
theorem RdR.isD {H : Hp} {a : Addr} {lt : LR} (h : RdR H a lt) : IsD H a := .inl ⟨_, h.rd⟩
theorem getD_R (lt : LR) (g : Nat) (z : V) : ((lt.lookup g).map fun c => V.str (sL [c])).getD z = getL (lt.lookup g) z := by cases lt.lookup g <;> rfl
section
variable {X : Cx} {o i e f : Expr} {td ty tx : TE} {pos apos cpos : Pos}
abbrev DkR (H : Hp) (a : Addr) (lt : LR) : Prop := H a = some (.dK (kvR lt)) ∨ ∃ o, H a = some (.frz o (.dK (kvR lt)))
/-- d[g], there -/
def tRGet (td ty : TE) : TE := fun σ H Q => td σ H fun x H1 => ty σ H1 fun y H2 => ∃ (a : Addr) (lt : LR) (g c : Nat), x = .ref a ∧ y = .int (g : Nat) ∧ DkR H2 a lt ∧ lt.lookup g = some c ∧ Q (.str (sL [c])) H2
/-- g in d, g not in d -/
def tRIn (ty td : TE) : TE := fun σ H Q => ty σ H fun y H1 => td σ H1 fun x H2 => ∃ (a : Addr) (lt : LR) (g : Nat), x = .ref a ∧ y = .int (g : Nat) ∧ DkR H2 a lt ∧ Q (.bl (lt.lookup g).isSome) H2
def tRNotIn (ty td : TE) : TE := fun σ H Q => ty σ H fun y H1 => td σ H1 fun x H2 => ∃ (a : Addr) (lt : LR) (g : Nat), x = .ref a ∧ y = .int (g : Nat) ∧ DkR H2 a lt ∧ Q (.bl (!(lt.lookup g).isSome)) H2
def tRGet1 (td ty : TE) : TE := fun σ H Q => td σ H fun x H1 => ∃ (a : Addr) (l0 : LR), x = .ref a ∧ DkR H1 a l0 ∧ ty σ H1 fun y H2 => ∃ (lt : LR) (g : Nat), y = .int (g : Nat) ∧ DkR H2 a lt ∧ Q (getL (lt.lookup g) .non) H2
def tRGet2 (td ty tx : TE) : TE := fun σ H Q => td σ H fun x H1 => ∃ (a : Addr) (l0 : LR), x = .ref a ∧ DkR H1 a l0 ∧ ty σ H1 fun y H2 => tx σ H2 fun z H3 => ∃ (lt : LR) (g : Nat), y = .int (g : Nat) ∧ DkR H3 a lt ∧ Q (getL (lt.lookup g) z) H3
def tRSetd (td ty tx : TE) : TE := fun σ H Q => td σ H fun x H1 => ∃ (a : Addr) (l0 : LR), x = .ref a ∧ DkR H1 a l0 ∧ ty σ H1 fun y H2 => tx σ H2 fun z H3 => ∃ (lt : LR) (g c : Nat), y = .int (g : Nat) ∧ z = .str (sL [c]) ∧ H3 a = some (.dK (kvR lt)) ∧ (lt.map (·.1)).Nodup ∧ lt.length < 10000 ∧
  (∀ d, lt.lookup g = some d → Q (.str (sL [d])) H3) ∧ (lt.lookup g = none → Q (.str (sL [c])) (upd H3 a (.dK (kvR (putR lt g c)))))
def rSetR : TSet := fun o i v H Q => ∃ (a : Addr) (lt : LR) (g c : Nat), o = .ref a ∧ i = .int (g : Nat) ∧ v = .str (sL [c]) ∧ H a = some (.dK (kvR lt)) ∧ (lt.map (·.1)).Nodup ∧ lt.length < 10000 ∧ Q (upd H a (.dK (kvR (putR lt g c))))
theorem pe_rget (hu : X.A.units + 1 < cLine) (ho : PE X o td) (hi : PE X i ty) (hs : NoSl i) : PE X (.Subscript o i pos) (tRGet td ty) := by
  refine ⟨fun pins s σ H Q I h => ?_⟩
  refine subD_of PySem.F.slot_dict_getitem.lookup hs (thn (ho.run pins s σ H _ I h) fun u s1 ⟨x, H1, I1, rx, q1⟩ => thn (hi.run pins s1 σ H1 _ I1 q1) fun iv s2 ⟨y, H2, I2, ry, a, lt, g, c, ex, ey, hd, hl, q2⟩ => ?_)
  subst ex ey
  obtain rfl : u = Value.ref a := rx
  have g1 := RdR.get hd g
  rw [hl] at g1
  exact ⟨dict_typeIs I2 g1, d_getItem hu I2 g1 ry fun w' s3 I3 rw' => ⟨_, H2, I3, rw', q2⟩⟩
theorem pc_rin (hu : X.A.units + 1 < cLine) (hi : PE X i ty) (ho : PE X o td) : PC X .In i o (tRIn ty td) := by
  refine ⟨fun pins s σ H Q I h => ?_⟩
  refine thn (hi.run pins s σ H _ I h) fun iv s1 ⟨y, H1, I1, ry, q1⟩ => thn (ho.run pins s1 σ H1 _ I1 q1) fun u s2 ⟨x, H2, I2, rx, a, lt, g, ex, ey, hd, q2⟩ => ?_
  subst ex ey
  obtain rfl : u = Value.ref a := rx
  exact d_in hu I2 (RdR.get hd g) ry fun s3 I3 => ⟨.bl _, H2, I3, rfl, by rw [Option.isSome_map]; exact q2⟩
theorem pc_rnotin (hu : X.A.units + 1 < cLine) (hi : PE X i ty) (ho : PE X o td) : PC X .NotIn i o (tRNotIn ty td) := by
  refine ⟨fun pins s σ H Q I h => ?_⟩
  refine thn (hi.run pins s σ H _ I h) fun iv s1 ⟨y, H1, I1, ry, q1⟩ => thn (ho.run pins s1 σ H1 _ I1 q1) fun u s2 ⟨x, H2, I2, rx, a, lt, g, ex, ey, hd, q2⟩ => ?_
  subst ex ey
  obtain rfl : u = Value.ref a := rx
  exact d_notIn hu I2 (RdR.get hd g) ry fun s3 I3 => ⟨.bl _, H2, I3, rfl, by rw [Option.isSome_map]; exact q2⟩
theorem pe_rget1 (hu : X.A.units + 1 < cLine) (ho : PE X o td) (he : PE X e ty) (m : M1 X o "get" apos e cpos) : PE X (.Call (.Attribute o "get" apos) [e] [] cpos) (tRGet1 td ty) := by
  refine ⟨fun pins s σ H Q I h => ?_⟩
  refine wpAny_Call_method m.base m.few m.line PySem.F.plainAttrs_dict PySem.F.slot_dict_get PySem.F.type_dict_get (thn (ho.run pins s σ H _ I h) fun u s1 ⟨x, H1, I1, rx, a, l0, ex, d, q1⟩ => ?_)
  subst ex
  obtain rfl : u = Value.ref a := rx
  obtain ⟨t1, t2, _⟩ := isD_at I1 (RdR.isD d)
  refine ⟨t1, t2, ?_⟩
  rw [m.trees]
  refine Calls.callWith_builtin rfl (Calls.evalArgs_plain (Calls.spliced_cons (thn (he.run pins s1 σ H1 _ I1 q1) fun iv s2 ⟨y, H2, I2, ry, lt, g, ey, hd, q2⟩ => Calls.spliced_nil ?_)))
  subst ey
  exact d_get1 hu I2 (RdR.get hd g) ry fun w' s3 I3 rw' => ⟨_, H2, I3, rw', by rw [getD_R]; exact q2⟩
theorem pe_rget2 (hu : X.A.units + 1 < cLine) (ho : PE X o td) (he : PE X e ty) (hf : PE X f tx) (m : M2 X o "get" apos e f cpos) : PE X (.Call (.Attribute o "get" apos) [e, f] [] cpos) (tRGet2 td ty tx) := by
  refine ⟨fun pins s σ H Q I h => ?_⟩
  refine wpAny_Call_method m.base m.few m.line PySem.F.plainAttrs_dict PySem.F.slot_dict_get PySem.F.type_dict_get (thn (ho.run pins s σ H _ I h) fun u s1 ⟨x, H1, I1, rx, a, l0, ex, d, q1⟩ => ?_)
  subst ex
  obtain rfl : u = Value.ref a := rx
  obtain ⟨t1, t2, _⟩ := isD_at I1 (RdR.isD d)
  refine ⟨t1, t2, ?_⟩
  rw [m.trees]
  refine Calls.callWith_builtin rfl (Calls.evalArgs_plain (Calls.spliced_cons (thn (he.run pins s1 σ H1 _ I1 q1) fun iv s2 ⟨y, H2, I2, ry, q2⟩ =>
    Calls.spliced_cons (thn (hf.run pins s2 σ H2 _ I2 q2) fun fv s3 ⟨z, H3, I3, rz, lt, g, ey, hd, q3⟩ => Calls.spliced_nil ?_))))
  subst ey
  exact d_get2 hu I3 (RdR.get hd g) ry rz fun w' s4 I4 rw' => ⟨_, H3, I4, rw', by rw [getD_R]; exact q3⟩
theorem pe_rsetd (ho : PE X o td) (he : PE X e ty) (hf : PE X f tx) (m : M2 X o "setdefault" apos e f cpos) : PE X (.Call (.Attribute o "setdefault" apos) [e, f] [] cpos) (tRSetd td ty tx) := by
  refine ⟨fun pins s σ H Q I h => ?_⟩
  refine wpAny_Call_method m.base m.few m.line PySem.F.plainAttrs_dict PySem.F.slot_dict_setdefault PySem.F.type_dict_setdefault (thn (ho.run pins s σ H _ I h) fun u s1 ⟨x, H1, I1, rx, a, l0, ex, d, q1⟩ => ?_)
  subst ex
  obtain rfl : u = Value.ref a := rx
  obtain ⟨t1, t2, _⟩ := isD_at I1 (RdR.isD d)
  refine ⟨t1, t2, ?_⟩
  rw [m.trees]
  refine Calls.callWith_builtin rfl (Calls.evalArgs_plain (Calls.spliced_cons (thn (he.run pins s1 σ H1 _ I1 q1) fun iv s2 ⟨y, H2, I2, ry, q2⟩ =>
    Calls.spliced_cons (thn (hf.run pins s2 σ H2 _ I2 q2) fun fv s3 ⟨z, H3, I3, rz, lt, g, c, ey, ez, ea, hn, hl, q3, q4⟩ => Calls.spliced_nil ?_))))
  subst ey ez
  refine d_setd (k := .inl (g : Int)) I3 ea ry rz (by rw [kvR_len]; exact Nat.lt_trans hl (by decide)) (fun v hv w' s4 I4 rw' => ?_) fun hn2 w' s4 I4 rw' => ?_
  · rw [valV_R] at hv
    cases e0 : lt.lookup g with
    | none => rw [e0] at hv; cases hv
    | some d =>
      rw [e0] at hv
      cases hv
      exact ⟨_, _, I4, rw', q3 d e0⟩
  · rw [valV_R] at hn2
    rw [putK_R g c hn] at I4
    refine ⟨_, _, I4, rw', q4 ?_⟩
    cases e0 : lt.lookup g with
    | none => rfl
    | some d => rw [e0] at hn2; cases hn2
theorem set_R (hu : X.A.units + 1 < cLine) : PSet X rSetR := by
  intro pins s σ H o i v ov iv u Q I ro ri rv h
  obtain ⟨a, lt, g, c, rfl, rfl, rfl, hd, hn, hl, q⟩ := h
  refine set_dict hu pins s σ H _ _ _ ov iv u Q I ro ri rv ⟨a, _, rfl, .inl ⟨kvR lt, .inl (g : Int), hd, rfl, by rw [kvR_len]; exact Nat.lt_trans hl (by decide), rfl⟩, ?_⟩
  rw [putK_R g c hn]
  exact q
end
end Pk
/-! ## o.f(e): f a field that holds an object with __call__ -/
namespace Pk
open PySem PySem.Spec PyProof.Rows L2
/-- what follows an if is shown once -/
theorem cut_if {c : Bool} {A : TS} {D : Ends} {σ : L2.St} {H : Hp} (Pn : L2.St → Hp → Prop) (main : ∀ D0 : Ends, (∀ σ2 H2, Pn σ2 H2 → D0.nx σ2 H2) → if c = true then A D0 σ H else tNext D0 σ H) (rest : ∀ σ2 H2, Pn σ2 H2 → D.nx σ2 H2) : if c = true then A D σ H else tNext D σ H := main D rest
theorem lock_same {H H' : Hp} {l : Addr} {od : Obj} {u : HO} (hl : H l = some u) (s : Same (upd H l (.frz od u)) H') : Same H (upd H' l u) := fun b o h => by
  by_cases e : b = l
  · subst e
    rw [upd_same]
    exact hl.symm.trans h
  · rw [upd_ne e]
    exact s _ _ (by rw [upd_ne e]; exact h)
theorem keeps_none {n : Nat} {v : Nat → V} : keeps n (fun _ => false) v = [] := by
  unfold keeps
  simp
theorem iOrS {b : Bool} {H : Hp} {σ : L2.St} {t : TT} {R : Bool → Hp → Prop} (tr : ∀ HC, Same H HC → R true HC) (hA : b = false → (∀ HC, Same H HC → R true HC) → t σ H R) : if b = true then R true H else t σ H R := by
  cases b with
  | true => rw [if_pos rfl]; exact tr H (Same.refl H)
  | false => rw [if_neg (by decide)]; exact hA rfl tr
theorem hu9 {A : Around} (h : A.units + 64 < cLine) : A.units + 1 < cLine := by omega
section
open PySem.W
theorem method_fld {prog : Program} {w : World} {A : Around} {E : Value → Shared → Prop} {s : Shared} {K : Fr} {x C : Addr} {ox : Obj} {od : Option Obj} {name : Str} {pl : Sem Bool} {Q : Value × List Value → Shared → Prop} (X : K.In s.heap) (I : InstAt s.heap x ox C od) (hga : findIn K (.ref C) "__getattribute__" = some (some (.builtin "object.__getattribute__"))) (hk : findIn K (.ref C) "__getattr__" = some none)
    (hf : findIn K (.ref C) name = some none) (h : wpAny (model prog w) A (getAttr (.ref x) name) (fun v s' => Q (v, []) s') E s) :
    wpAny (model prog w) A (getMethod (.ref x) name pl) Q E s := by
  have hcan := PySem.F.canon_object_ga
  unfold getMethod specialOf
  refine wpAny_bind (wpAny_bind (I.type.here ((looks_findIn X hga).here ?_)))
  dsimp only
  rw [hcan, if_neg (by decide)]
  refine wpAny_bind (wpAny_bind (I.type.here ((looks_findIn X hk).here ?_)))
  refine wpAny_bind (wpAny_bind (I.type.here ((looks_findIn X hf).here ?_)))
  exact wpAny_bind (wpAny_mono h (fun v s' q => wpAny_pure q) fun _ _ z => z)
end
section
variable {X : Cx} {pins : List (Addr × Obj)} {σ : L2.St} {H : Hp} {s : Shared} {a C dx : Addr} {fs : List (Str × V)} {f : Str} {v : V} {A : Around} {E : Value → Shared → Prop}
theorem getmeth_fld {m : Str} {pl : Sem Bool} {Q : Value × List Value → Shared → Prop} (I : Inv X pins σ H s) (e : H a = some (.ins C dx fs)) (c : Cls X.K C) (n : NoAttr X.K C m) (l : fs.lookup m = some v)
    (h : ∀ u s', Inv X pins σ H s' → RelV v u → Q (u, []) s') : wpAny (model X.prog X.w) A (getMethod (.ref a) m pl) Q E s := by
  obtain ⟨mA, O, r, _, _, _⟩ := ins_get I.hok e
  obtain ⟨od, J, hl⟩ := O.look
  exact method_fld I.kIn J (PySem.W.plainGet_of (c.get m)).1 (PySem.W.plainGet_of (c.get m)).2 n (getattr_ok I e c n l h)
end
def tCF (K : Fr) (D : Addr) (m : Str) (sp : Sp) (ta : TE) (t : TA) : TE := fun σ H Q => ta σ H fun x H1 => ∃ a C dx fs y, x = V.ref a ∧ H1 a = some (.ins C dx fs) ∧ Cls K C ∧ NoAttr K C m ∧ fs.lookup m = some (V.ref y) ∧ t σ H1 fun vs H2 => (∃ dx fs, H2 y = some (.ins D dx fs)) ∧ sp (V.ref y :: vs) H2 Q E0
theorem pe_callF {X : Cx} {k : Nat} {D g : Addr} {sp : Sp} {m : Str} {o e : Expr} {es : List Expr} {ta : TE} {t : TA} {apos pos : Pos} {pl : Sem Bool} (ho : PE X o ta) (c : StX.CallO X.K D g) (G : Kp X.prog X.w X.K X.mg X.base k g sp) (hr : Room k X.A) (ha : PA X (e :: es) t)
    (ht : eval (.Call (.Attribute o m apos) (e :: es) [] pos) X.env = (do
      let ov ← eval o X.env
      standAt apos.atName
      let (f, first) ← holding [ov] (getMethod ov m pl)
      callWith pos f first (backTo pos (starEach (e :: es) X.env)) (backToKw pos (keywordEach [] X.env))) := by rfl)
    (he : starEach (e :: es) X.env = (false, eval e X.env) :: starEach es X.env := by rfl) (hpl : (backTo pos (starEach es X.env)).any (·.1) = false := by rfl) : PE X (.Call (.Attribute o m apos) (e :: es) [] pos) (tCF X.K D m sp ta t) := ⟨fun pins s σ H Q I h => by
  refine PySem.W.methodCall_KW (pl := pl) (thn (ho.run pins s σ H _ I h) fun u s1 ⟨x, H1, I1, rx, a, C, dx, fs, y, ex, ea, cl, na, l, q⟩ => ?_) ht
  subst ex
  obtain rfl : u = Value.ref a := rx
  refine getmeth_fld I1 ea cl na l fun v s1 I1 rv => ?_
  obtain rfl : v = Value.ref y := rv
  refine StX.callO_with (thn (ha.run pos pins s1 σ H1 _ I1 q) fun us s2 k2 => ?_) he hpl
  obtain ⟨vs, H2, I2, r, hi, q2⟩ := k2
  obtain ⟨ox, od, J, hd⟩ := StX.insC_at I2 (.inr hi)
  exact ⟨⟨D, ox, od, J, hd⟩, StX.run_callO c G.fnR hr pass0 I2 (.inr hi) r q2⟩⟩
end Pk
/-! ## What a reader knows: groups of keys, letters of groups -/
namespace Pk
open PySem PySem.Spec PyProof.Rows L2
structure RS where
  gs : List Nat
  lt : LR
def RS.rg (s : RS) (k : Nat) : Nat := s.gs.getD k 0
def RS.le (s : RS) (k : Nat) : Option Nat := s.lt.lookup (s.rg k)
structure RsOk (n : Nat) (s : RS) : Prop where
  len : s.gs.length = n
  root : ∀ k, k < n → s.rg k ≤ k ∧ s.rg (s.rg k) = s.rg k
  keys : (s.lt.map (·.1)).Nodup
  klt : ∀ p ∈ s.lt, p.1 < n ∧ isLet p.2 = true
theorem RsOk.few {n : Nat} {s : RS} (h : RsOk n s) : s.lt.length ≤ n := by
  have := nodup_len n h.keys fun q hq => by
    obtain ⟨p, hp, rfl⟩ := List.mem_map.mp hq
    exact (h.klt p hp).1
  rwa [List.length_map] at this
theorem RsOk.lt {n : Nat} {s : RS} (h : RsOk n s) {k : Nat} (hk : k < n) : s.rg k < n := Nat.lt_of_le_of_lt (h.root k hk).1 hk
theorem RsOk.let_ {n : Nat} {s : RS} (h : RsOk n s) {g c : Nat} (e : s.lt.lookup g = some c) : isLet c = true := (h.klt _ (lookup_mem e)).2
theorem rg_at {s : RS} {k : Nat} (hk : k < s.gs.length) : s.gs[k]? = some (s.rg k) := by
  unfold RS.rg
  rw [List.getD_eq_getElem?_getD, List.getElem?_eq_getElem hk]
  rfl
def rs0 (n : Nat) : RS := ⟨List.range n, []⟩
theorem rg_rs0 {n k : Nat} (h : k < n) : (rs0 n).rg k = k := by
  unfold RS.rg rs0
  rw [List.getD_eq_getElem?_getD, List.getElem?_range h]
  rfl
theorem rsOk0 (n : Nat) : RsOk n (rs0 n) := ⟨List.length_range, fun k hk => by rw [rg_rs0 hk, rg_rs0 hk]; exact ⟨Nat.le_refl _, rfl⟩, List.nodup_nil, fun p hp => nomatch hp⟩
/-! ### what is known -/
def kns (s : RS) : List Nat := (List.range s.gs.length).filter fun k => (s.le k).isSome
def knw (s : RS) : LR := (kns s).map fun k => (k, (s.le k).getD 0)
def opn (s : RS) : List Nat := (List.range s.gs.length).filter fun k => decide (k = s.rg k) && !(s.lt.lookup k).isSome
theorem knw_keys (s : RS) : (knw s).map (·.1) = kns s := by
  unfold knw
  rw [List.map_map]
  exact List.map_id _
theorem kns_nodup (s : RS) : (kns s).Nodup := List.Pairwise.filter _ List.nodup_range
theorem kns_asc (s : RS) : (kns s).Pairwise (· < ·) := List.Pairwise.filter _ List.pairwise_lt_range
theorem opn_asc (s : RS) : (opn s).Pairwise (· < ·) := List.Pairwise.filter _ List.pairwise_lt_range
theorem kns_le (s : RS) : (kns s).length ≤ s.gs.length := Nat.le_trans (List.length_filter_le _ _) (by simp)
theorem opn_le (s : RS) : (opn s).length ≤ s.gs.length := Nat.le_trans (List.length_filter_le _ _) (by simp)
theorem kns_mem {s : RS} {k : Nat} : k ∈ kns s ↔ k < s.gs.length ∧ (s.le k).isSome = true := by
  unfold kns
  rw [List.mem_filter, List.mem_range]
theorem opn_mem {s : RS} {k : Nat} : k ∈ opn s ↔ k < s.gs.length ∧ s.rg k = k ∧ s.lt.lookup k = none := by
  unfold opn
  rw [List.mem_filter, List.mem_range, Bool.and_eq_true, decide_eq_true_eq, Bool.not_eq_true']
  constructor
  · rintro ⟨h1, h2, h3⟩
    exact ⟨h1, h2.symm, by cases e : s.lt.lookup k with | none => rfl | some c => rw [e] at h3; cases h3⟩
  · rintro ⟨h1, h2, h3⟩
    exact ⟨h1, h2.symm, by rw [h3]; rfl⟩
theorem lookup_map (f : Nat → Nat) : ∀ (l : List Nat) (k : Nat), (l.map fun k => (k, f k)).lookup k = if k ∈ l then some (f k) else none
  | [], k => rfl
  | a :: l, k => by
    rw [List.map_cons, List.lookup_cons, lookup_map f l k]
    by_cases e : k = a
    · subst e
      simp
    · rw [show (k == a) = false from beq_eq_false_iff_ne.mpr e]
      simp [e]
theorem knw_at (s : RS) (k : Nat) : (knw s).lookup k = if k < s.gs.length then s.le k else none := by
  unfold knw
  rw [lookup_map fun k => (s.le k).getD 0]
  by_cases h : k ∈ kns s
  · obtain ⟨h1, h2⟩ := kns_mem.mp h
    rw [if_pos h, if_pos h1]
    cases e : s.le k with
    | none => rw [e] at h2; cases h2
    | some c => rfl
  · rw [if_neg h]
    by_cases h1 : k < s.gs.length
    · rw [if_pos h1]
      cases e : s.le k with
      | none => rfl
      | some c => exact absurd (kns_mem.mpr ⟨h1, by rw [e]; rfl⟩) h
    · rw [if_neg h1]
/-- the first i keys -/
def knwI (s : RS) (i : Nat) : LR := ((List.range i).filter fun k => (s.le k).isSome).map fun k => (k, (s.le k).getD 0)
theorem knwI_all (s : RS) : knwI s s.gs.length = knw s := rfl
theorem knwI_succ (s : RS) (i : Nat) : knwI s (i + 1) = match s.le i with | none => knwI s i | some c => knwI s i ++ [(i, c)] := by
  unfold knwI
  rw [List.range_succ, List.filter_append, List.map_append]
  cases e : s.le i with
  | none => simp [e]
  | some c => simp [e]
theorem knwI_keys (s : RS) (i : Nat) : ∀ p ∈ knwI s i, p.1 < i := by
  rintro p hp
  unfold knwI at hp
  obtain ⟨k, hk, rfl⟩ := List.mem_map.mp hp
  exact List.mem_range.mp (List.mem_filter.mp hk).1
theorem knwI_nodup (s : RS) (i : Nat) : ((knwI s i).map (·.1)).Nodup := by
  unfold knwI
  rw [List.map_map]
  have : ((fun p : Nat × Nat => p.1) ∘ fun k => (k, (s.le k).getD 0)) = id := rfl
  rw [this, List.map_id]
  exact List.Pairwise.filter _ List.nodup_range
theorem knwI_len (s : RS) (i : Nat) : (knwI s i).length ≤ i := by
  unfold knwI
  rw [List.length_map]
  exact Nat.le_trans (List.length_filter_le _ _) (by simp)
/-! ### letters are learnt -/
def lrn1 (lt : LR) (p : Nat × Nat) : LR := if (lt.lookup p.1).isSome then lt else putR lt p.1 p.2
def learnS (lt : LR) (ps : List (Nat × Nat)) : LR := ps.foldl lrn1 lt
theorem learnS_snoc {lt : LR} {ps : List (Nat × Nat)} {i : Nat} {p : Nat × Nat} (h : ps[i]? = some p) : learnS lt (ps.take (i + 1)) = lrn1 (learnS lt (ps.take i)) p := by
  rw [take_succ h]
  unfold learnS
  rw [List.foldl_append]
  rfl
/-- no letter stands against them -/
def LearnOk (lt : LR) (ps : List (Nat × Nat)) : Prop := ∀ (i : Nat) (g c d : Nat), ps[i]? = some (g, c) → (learnS lt (ps.take i)).lookup g = some d → d = c
theorem lrn1_at (lt : LR) (p : Nat × Nat) (x : Nat) : (lrn1 lt p).lookup x = match lt.lookup x with | some d => some d | none => if x = p.1 then some p.2 else none := by
  unfold lrn1
  cases e : lt.lookup p.1 with
  | some d =>
    show List.lookup x lt = _
    cases e2 : lt.lookup x with
    | some _ => rfl
    | none =>
      show none = if x = p.1 then _ else _
      rw [if_neg (fun z => by rw [z, e] at e2; cases e2)]
  | none =>
    rw [if_neg (by decide), lookup_put]
    by_cases h : x = p.1
    · rw [if_pos h, h, e]
      show some p.2 = if p.1 = p.1 then _ else _
      rw [if_pos rfl]
    · rw [if_neg h]
      cases e2 : lt.lookup x with
      | some _ => rfl
      | none =>
        show none = if x = p.1 then _ else _
        rw [if_neg h]
structure LtOk (n : Nat) (lt : LR) : Prop where
  keys : (lt.map (·.1)).Nodup
  klt : ∀ p ∈ lt, p.1 < n ∧ isLet p.2 = true
theorem LtOk.lrn1 {n : Nat} {lt : LR} {p : Nat × Nat} (h : LtOk n lt) (h1 : p.1 < n) (h2 : isLet p.2 = true) : LtOk n (lrn1 lt p) := by
  unfold Pk.lrn1
  split
  · exact h
  · refine ⟨putR_nodup _ _ h.keys, fun q hq => ?_⟩
    rcases putR_mem hq with z | z
    · exact h.klt q z
    · rw [z]; exact ⟨h1, h2⟩
theorem LtOk.learn {n : Nat} {ps : List (Nat × Nat)} : ∀ {lt : LR}, LtOk n lt → (∀ p ∈ ps, p.1 < n ∧ isLet p.2 = true) → LtOk n (learnS lt ps) := by
  induction ps with
  | nil => exact fun h _ => h
  | cons p ps ih => exact fun h hp => ih (h.lrn1 (hp p List.mem_cons_self).1 (hp p List.mem_cons_self).2) fun q hq => hp q (List.mem_cons_of_mem _ hq)
theorem LtOk.few {n : Nat} {lt : LR} (h : LtOk n lt) : lt.length ≤ n := by
  have := nodup_len n h.keys fun q hq => by
    obtain ⟨p, hp, rfl⟩ := List.mem_map.mp hq
    exact (h.klt p hp).1
  rwa [List.length_map] at this
theorem RsOk.ltOk {n : Nat} {s : RS} (h : RsOk n s) : LtOk n s.lt := ⟨h.keys, h.klt⟩
theorem RsOk.withLt {n : Nat} {s : RS} {lt : LR} (h : RsOk n s) (g : LtOk n lt) : RsOk n ⟨s.gs, lt⟩ := ⟨h.len, h.root, g.keys, g.klt⟩
/-! ### two groups become one -/
def hearS (s : RS) (lo hi : Nat) : RS where
  gs := s.gs.map fun g => if g = hi then lo else g
  lt := match s.lt.lookup hi with
    | some c => putR s.lt lo c
    | none => match s.lt.lookup lo with
      | some c => putR s.lt lo c
      | none => s.lt
theorem hear_rg {s : RS} {lo hi k : Nat} (hk : k < s.gs.length) : (hearS s lo hi).rg k = if s.rg k = hi then lo else s.rg k := by
  unfold RS.rg hearS
  rw [List.getD_eq_getElem?_getD, List.getElem?_map, List.getD_eq_getElem?_getD, List.getElem?_eq_getElem hk]
  rfl
theorem RsOk.hear {n : Nat} {s : RS} {lo hi : Nat} (h : RsOk n s) (h1 : lo ≤ hi) (h2 : hi < n) (r1 : s.rg lo = lo) : RsOk n (hearS s lo hi) := by
  have hl := h.len
  have hp : ∀ c, isLet c = true → LtOk n (putR s.lt lo c) := fun c hc => ⟨putR_nodup _ _ h.keys, fun q hq => by
    rcases putR_mem hq with z | z
    · exact h.klt q z
    · rw [z]; exact ⟨by show lo < n; omega, hc⟩⟩
  have hlt : LtOk n (hearS s lo hi).lt := by
    show LtOk n (match s.lt.lookup hi with | some c => putR s.lt lo c | none => match s.lt.lookup lo with | some c => putR s.lt lo c | none => s.lt)
    cases e : s.lt.lookup hi with
    | some c => exact hp c (h.let_ e)
    | none =>
      cases e2 : s.lt.lookup lo with
      | some c => exact hp c (h.let_ e2)
      | none => exact h.ltOk
  refine ⟨by show (s.gs.map _).length = n; rw [List.length_map]; exact hl, fun k hk => ?_, hlt.keys, hlt.klt⟩
  have hr := h.root k hk
  have hk2 : s.rg k < s.gs.length := by omega
  rw [hear_rg (by omega)]
  by_cases e : s.rg k = hi
  · rw [if_pos e, hear_rg (by omega), r1]
    refine ⟨by omega, ?_⟩
    by_cases e2 : lo = hi
    · rw [if_pos e2]
    · rw [if_neg e2]
  · rw [if_neg e, hear_rg hk2, hr.2, if_neg e]
    exact ⟨hr.1, rfl⟩
/-! ### the place at which a key was written -/
def wpl (st : List Stp) (k : Nat) : Nat := (ex st).idxOf k
theorem nk_take_mono (st : List Stp) {i j : Nat} (h : i ≤ j) : nk (st.take i) ≤ nk (st.take j) := by
  have e : st.take j = st.take i ++ (st.take j).drop i := by
    have := (List.take_append_drop i (st.take j)).symm
    rwa [List.take_take, Nat.min_eq_left h] at this
  rw [e, nk_app]
  omega
/-- the step that writes the key k -/
theorem wr_of {st : List Stp} : ∀ (d : Nat) {k : Nat}, k < nk (st.take d) → ∃ (i : Nat) (w : List Nat), i < d ∧ st[i]? = some (.wr w) ∧ nk (st.take i) ≤ k ∧ k < nk (st.take i) + w.length
  | 0, k, h => by
    rw [List.take_zero] at h
    exact absurd h (Nat.not_lt_zero _)
  | d + 1, k, h => by
    cases e : st[d]? with
    | none =>
      have hl := List.getElem?_eq_none_iff.mp e
      rw [List.take_of_length_le (by omega)] at h
      obtain ⟨i, w, h1, h2⟩ := wr_of d (k := k) (by rw [List.take_of_length_le hl]; exact h)
      exact ⟨i, w, by omega, h2⟩
    | some x =>
      by_cases hk : k < nk (st.take d)
      · obtain ⟨i, w, h1, h2⟩ := wr_of d hk
        exact ⟨i, w, by omega, h2⟩
      · rw [take_succ e, nk_app] at h
        cases x with
        | wr w =>
          have e1 : nk [Stp.wr w] = w.length := by simp [nk, Stp.ks]
          rw [e1] at h
          exact ⟨d, w, by omega, e, by omega, by omega⟩
        | pa f l t =>
          have e1 : nk [Stp.pa f l t] = 0 := by simp [nk, Stp.ks]
          rw [e1] at h
          omega
theorem nk_wr {st : List Stp} {i : Nat} {w : List Nat} (e : st[i]? = some (.wr w)) : nk (st.take (i + 1)) = nk (st.take i) + w.length := by
  rw [take_succ e, nk_app]
  simp [nk, Stp.ks]
theorem sz_wr {st : List Stp} {i : Nat} {w : List Nat} (e : st[i]? = some (.wr w)) : sz (st.take (i + 1)) = sz (st.take i) + w.length := by
  rw [take_succ e, sz_app]
  simp [sz, Stp.gr]
theorem idx_first : ∀ {l : List Nat} {p k : Nat}, l[p]? = some k → (∀ q, q < p → l[q]? ≠ some k) → l.idxOf k = p
  | [], p, k, h, _ => by simp at h
  | a :: l, 0, k, h, _ => by
    simp at h
    subst h
    simp
  | a :: l, p + 1, k, h, hn => by
    have h0 : a ≠ k := fun z => hn 0 (Nat.succ_pos _) (by simp [z])
    rw [List.idxOf_cons, show (a == k) = false from beq_eq_false_iff_ne.mpr h0]
    show l.idxOf k + 1 = p + 1
    rw [idx_first (l := l) (p := p) (by simpa using h) fun q hq z => hn (q + 1) (by omega) (by simpa using z)]
theorem wpl_eq {st : List Stp} {i k : Nat} {w : List Nat} (hg : Goes most 0 st) (e : st[i]? = some (.wr w)) (h1 : nk (st.take i) ≤ k) (h2 : k < nk (st.take i) + w.length) :
    wpl st k = sz (st.take i) + (k - nk (st.take i)) ∧ (ex st)[wpl st k]? = some k ∧ wpl st k < sz st := by
  have hz := sz_wr e
  have hp : (ex st)[sz (st.take i) + (k - nk (st.take i))]? = some k := by
    rw [ex_wr hg e (by omega) (by omega)]
    exact congrArg some (by omega)
  have hq : wpl st k = sz (st.take i) + (k - nk (st.take i)) := by
    refine idx_first hp fun q hq z => ?_
    by_cases hs : q < sz (st.take i)
    · rw [ex_at_pre hg hs] at z
      have := ex_lt _ k (List.mem_of_getElem? z)
      omega
    · rw [ex_wr hg e (by omega) (by omega)] at z
      injection z with z
      omega
  refine ⟨hq, by rw [hq]; exact hp, ?_⟩
  have hl := (List.getElem?_eq_some_iff.mp hp).1
  rw [ex_len st hg] at hl
  omega
theorem wpl_at {st : List Stp} {k : Nat} (hg : Goes most 0 st) (h : k < nk st) : (ex st)[wpl st k]? = some k ∧ wpl st k < sz st := by
  obtain ⟨i, w, _, h2, h3, h4⟩ := wr_of st.length (k := k) (by rw [List.take_length]; exact h)
  exact (wpl_eq hg h2 h3 h4).2
theorem wpl_mono {st : List Stp} {k m : Nat} (hg : Goes most 0 st) (hkm : k < m) (h : m < nk st) : wpl st k < wpl st m := by
  obtain ⟨i, w, _, h2, h3, h4⟩ := wr_of st.length (k := k) (by rw [List.take_length]; omega)
  obtain ⟨j, u, _, g2, g3, g4⟩ := wr_of st.length (k := m) (by rw [List.take_length]; exact h)
  rw [(wpl_eq hg h2 h3 h4).1, (wpl_eq hg g2 g3 g4).1]
  rcases Nat.lt_trichotomy i j with z | z | z
  · have h5 := sz_take_mono st (show i + 1 ≤ j by omega)
    rw [sz_wr h2] at h5
    omega
  · subst z
    omega
  · have h5 := nk_take_mono st (show j + 1 ≤ i by omega)
    rw [nk_wr g2] at h5
    omega
theorem keeps_last {n i : Nat} {f : Nat → Bool} {v : Nat → V} (hi : f i = true) : ∀ n, i < n → (∀ j, i < j → j < n → f j = false) → keeps n f v = keeps i f v ++ [v i] := by
  intro n hn h
  induction n with
  | zero => omega
  | succ n ih =>
    rw [keeps_succ]
    by_cases e : i = n
    · subst e
      rw [if_pos hi]
    · rw [h n (by omega) (by omega), if_neg (by decide), ih (by omega) fun j h1 h2 => h j h1 (by omega)]
end Pk
/-! ## text[::k], ranges with a step -/
namespace Pk
open PySem PySem.Spec PyProof.Rows L2
theorem rgC_up {n c : Nat} (hc : 1 ≤ c) (hc2 : c < 1000) (hn : n ≤ 100000) : RgC 0 (n : Nat) (c : Nat) ((n + c - 1) / c) := by
  have e : Builtin.Range.rangeSize 0 (n : Nat) (c : Nat) = (((n + c - 1) / c : Nat) : Int) := by
    unfold Builtin.Range.rangeSize
    rw [if_pos (by omega)]
    by_cases h : n = 0
    · subst h
      rw [if_neg (by omega), Nat.div_eq_of_lt (by omega)]
      rfl
    · rw [if_pos (by omega), show (n : Int) - 0 - 1 = ((n - 1 : Nat) : Int) by omega, ← Int.natCast_ediv]
      have h2 : (n + c - 1) / c = (n - 1) / c + 1 := by
        rw [show n + c - 1 = n - 1 + c by omega, Nat.add_div_right _ (by omega)]
      omega
  refine ⟨by omega, by omega, ?_, e⟩
  have h3 : (n + c - 1) / c ≤ n + c - 1 := Nat.div_le_self _ _
  have h4 : (n + c - 1) / c * c ≤ n + c - 1 := Nat.div_mul_le_self _ _
  have h5 : (((n + c - 1) / c : Nat) : Int) * (c : Int) ≤ 110000 := by
    rw [← Int.natCast_mul]
    omega
  unfold Builtin.Range.small
  rw [e]
  simp only [Builtin.Range.rangeFitsLong, Bool.and_eq_true, Bool.or_eq_true, decide_eq_true_eq, beq_iff_eq]
  generalize (n + c - 1) / c = m at *
  refine ⟨⟨⟨⟨by decide, by omega⟩, by omega⟩, by omega⟩, .inr ?_⟩
  rw [if_pos (by omega), Bool.and_eq_true, decide_eq_true_eq, decide_eq_true_eq]
  omega
theorem pe_cntK {X : Cx} (K : Fr) {o e : Expr} {es : List Expr} {to : TE} {t : TA} {apos cpos : Pos} (ho : PE X o to) (ha : PA X (e :: es) t)
    (hbase : attributeBase o "count" X.env (eval o X.env) = eval o X.env := by rfl)
    (hfew : ((backTo cpos (starEach (e :: es) X.env)).all (fun x => !x.1) && (backToKw cpos (keywordEach [] X.env)).all (fun x => x.1.isSome)
      && decide ((e :: es).length + ([] : List Keyword).length + (if ([] : List Keyword).isEmpty then 0 else 1) < 30)) = true := by rfl)
    (hline : (apos.endLine == cpos.line) = true := by rfl) (hs : starEach (e :: es) X.env = (false, eval e X.env) :: starEach es X.env := by rfl) (hplain : (backTo cpos (starEach es X.env)).any (·.1) = false := by rfl) (h : X.K = K := by rfl) :
    PE X (.Call (.Attribute o "count" apos) (e :: es) [] cpos) (tBM K "list" (rCntI K) to t) := by
  subst h
  exact pe_bm PySem.F.plainAttrs_list PySem.F.slot_list_count PySem.F.type_list_count mt_lcount ho ha hbase hfew hline hs hplain
/-- each k-th sign of a text -/
def stepL (z : List Nat) (k : Nat) : List Nat := (List.range ((z.length + k - 1) / k)).filterMap fun i => z[k * i]?
theorem step_range (n k : Nat) (hk : 1 ≤ k) : Builtin.Str.strSliceIndices none none (k : Nat) n = (List.range ((n + k - 1) / k)).map fun i => k * i := by
  unfold Builtin.Str.strSliceIndices sliceRange
  dsimp only
  rw [if_pos (show ((k : Nat) : Int) > 0 by omega), if_pos (show ((k : Nat) : Int) > 0 by omega), if_pos (show ((k : Nat) : Int) > 0 by omega)]
  have e : ((if (0 : Int) < (n : Nat) then ((n : Nat) - 0 + (k : Nat) - 1 : Int) / (k : Nat) else 0)).toNat = (n + k - 1) / k := by
    by_cases h : n = 0
    · subst h
      rw [if_neg (by omega), Nat.div_eq_of_lt (by omega)]
      rfl
    · rw [if_pos (by omega), show ((n : Nat) - 0 + (k : Nat) - 1 : Int) = ((n + k - 1 : Nat) : Int) by omega, ← Int.natCast_ediv, Int.toNat_natCast]
  rw [e]
  refine List.map_congr_left fun i _ => ?_
  rw [Int.zero_add, ← Int.natCast_mul, Int.toNat_natCast]
def tStepS (k : Nat) (te : TE) : TE := fun σ H Q => te σ H fun x H1 => ∃ z : List Nat, x = .str (sL z) ∧ z.length ≤ sizeLine ∧ Q (.str (sL (stepL z k))) H1
theorem pe_stepS {X : Cx} {e : Expr} {te : TE} {k : Nat} {kk : Nat} {p1 p3 pos : Pos} (hk : 2 ≤ k) (he : PE X e te) : PE X (.Subscript e (.Slice none none (some (.Constant (.int k) kk p1)) p3) pos) (tStepS k te) := ⟨fun pins s σ H Q I h => by
  refine Subscript_ (thn (he.run pins s σ H _ I h) fun v s1 k1 => ?_)
  obtain ⟨x, H1, I1, r1, z, ex, hz, q⟩ := k1
  subst ex
  obtain ⟨tz, rfl⟩ := r1
  have hst : PO X (some (.Constant (.int k) kk p1)) (tPart (tC (.int k))) := po_some pe_int
  refine wpAny_Slice (thn (po_none.run pins s1 σ H1 (fun o H2 => o = none ∧ H2 = H1) I1 ⟨rfl, rfl⟩) fun vl s2 k2 => ?_)
  obtain ⟨l, H2, I2, pl, el, e2⟩ := k2
  subst el e2
  refine thn (po_none.run pins s2 σ H2 (fun o H3 => o = none ∧ H3 = H2) I2 ⟨rfl, rfl⟩) fun vu s3 k3 => ?_
  obtain ⟨u, H3, I3, pu, eu, e3⟩ := k3
  subst eu e3
  refine thn (hst.run pins s3 σ H3 (fun o H4 => o = some (k : Int) ∧ H4 = H3) I3 ⟨(k : Int), rfl, rfl, rfl⟩) fun vs s4 k4 => ?_
  obtain ⟨o, H4, I4, ps, eo, e4⟩ := k4
  subst eo e4
  have I5 : Inv X pins σ H4 { s4 with heap := s4.heap.push { cls := .type "slice", data := .fields #[vl, vu, vs] } } := I4.kept (t' := s4.toks) fun b ob q => Heap.get?_push_of_some _ q
  obtain ⟨a1, rfl, b1⟩ := IsPart.raw pl
  obtain ⟨a2, rfl, b2⟩ := IsPart.raw pu
  obtain ⟨a3, rfl, b3⟩ := IsPart.raw ps
  change wpAny (model X.prog X.w) X.A (subscriptTail e (.Slice none none (some (.Constant (.int k) kk p1)) p3) (.str (sL z) tz) (.ref s4.heap.objs.size)) (EP X pins σ Q) X.xe { s4 with heap := s4.heap.push { cls := .type "slice", data := .fields #[partValue a1, partValue a2, partValue a3] } }
  refine tail_any (ops := [.str (sL z) tz, .ref s4.heap.objs.size]) (typeIs_str _ _ _) (F.slot_str_getitem.lookup) ?_ (by with_unfolding_all rfl)
  refine wpAny_getItem_str_slice (l := a1) (u := a2) (st := a3) ⟨_, Heap.get?_push_size _ rfl, rfl, rfl⟩ (by rw [b3]; show (((k : Nat) : Int) == 0) = false; exact beq_eq_false_iff_ne.mpr (by omega)) ?_
  have el : (sL z).length = z.length := sL_len z
  show Made.post (if ((a3.map (·.1)).getD 1 == 1 && (Builtin.Str.strSliceIndices (a1.map (·.1)) (a2.map (·.1)) ((a3.map (·.1)).getD 1) (sL z).length).length == (sL z).length) = true then Made.val (.str (sL z) tz)
    else Made.str ⟨((Builtin.Str.strSliceIndices (a1.map (·.1)) (a2.map (·.1)) ((a3.map (·.1)).getD 1) (sL z).length).filterMap ((sL z).cps[·]?)).toArray⟩) (EP X pins σ Q) _
  rw [b1, b2, b3, show (some (k : Int)).getD 1 = (k : Int) from rfl, if_neg (by
    rw [Bool.and_eq_true]
    rintro ⟨h1, _⟩
    have := beq_iff_eq.mp h1
    omega), el, step_range z.length k (by omega)]
  have ez : (((List.range ((z.length + k - 1) / k)).map fun i => k * i).filterMap ((sL z).cps[·]?)) = stepL z k := by
    unfold stepL
    rw [List.filterMap_map]
    refine fm_congr fun i _ => ?_
    show (sL z).cps[k * i]? = z[k * i]?
    unfold sL
    simp
  rw [ez]
  have hl : (stepL z k).length ≤ sizeLine := by
    unfold stepL
    refine Nat.le_trans (List.length_filterMap_le _ _) ?_
    rw [List.length_range]
    have h4 : (z.length + k - 1) / k * k ≤ z.length + k - 1 := Nat.div_mul_le_self _ _
    have h5 : (z.length + k - 1) / k * 2 ≤ (z.length + k - 1) / k * k := Nat.mul_le_mul_left _ hk
    rcases Nat.lt_or_ge z.length k with y | y
    · rcases Nat.eq_zero_or_pos z.length with y2 | y2
      · rw [y2, Nat.div_eq_of_lt (by omega)]
        exact Nat.zero_le _
      · rw [show z.length + k - 1 = z.length - 1 + k by omega, Nat.add_div_right _ (by omega), Nat.div_eq_of_lt (by omega)]
        omega
    · omega
  refine ⟨?_, .str (sL (stepL z k)), H4, I5.tok _, ⟨_, rfl⟩, q⟩
  show (sL (stepL z k)).length ≤ sizeLine
  rw [sL_len]
  exact hl⟩
end Pk
/-! ## a generator method with *v -/
namespace Pk
open PySem PySem.Spec PyProof.Rows L2 GenW
section
variable {P : Program} {w : World} {K : PySem.W.Frag} {mg : Str → Option Value} {base : Heap} {k : Nat} {f : Addr} {name qual : Str} {params : Arguments} {body : List Stmt} {scope : Scope} {dV kV doc pm cdv ct oc : Value} {an od : Option Addr}
  {osl : Array (Option Value)} {N ps : List Str} {A : Around} {outer : List Env} {s s1 : Shared} {H : Hp} {us : List Value} {vs : List V} {Q : List V → Hp → Prop} {E : XK}
/-- behind the frame: the object that the call gives -/
theorem gen_made (S : GScope N ps scope) (hd : A.handled = none) (e0 : Env0 P w K mg base A outer s H) (hl : vs.length = ps.length) (r : Vals vs us)
    (hbody : ∀ (B : Around) (pn : List (Addr × Obj)), Room k (B.deeper (envOfC qual scope s.heap.objs.size f cdv)) → ∃ t, GSs (gcxOf P w K mg base N qual scope f cdv B outer s H E pn) body t ∧ t { nx := fun ys _ H' => Q ys H', rt := fun ys v H' => v = .non ∧ Q ys H' } [] (start N vs) H)
    (x : InCallC s s.heap.objs.size (bindL (envOfC qual scope s.heap.objs.size f cdv).kindOf (ps.zip us) fun _ => none) (cellsFrom (s.heap.objs.size + 1) scope.names []) (bindC (envOfC qual scope s.heap.objs.size f cdv).kindOf (ps.zip us) fun _ => none) s1)
    (go : Obj) (nm qn : Value) (tk2 : Nat) (g1 : go.cls = .type "generator") (g2 : go.data = .fields #[.int s1.gens.size 0, nm, qn]) (g3 : go.slots = #[]) (g4 : go.isFreed = false) :
    s1.heap.NoLimit ∧ GMade P w (k + 1) outer H s [] Q E (.ref s1.heap.objs.size) { s1 with gens := s1.gens.push (.fresh (.func body (envOfC qual scope s.heap.objs.size f cdv))), toks := tk2, heap := s1.heap.push go } := by
  have lim : s.heap.NoLimit := e0.mod.nolimit.keeps fun b o e => (e0.bs b o e).1
  obtain ⟨hx, tk, es, hk⟩ := x.done
  have kp : ∀ b o, s.heap.get? b = some o → s1.heap.get? b = some o := x.toInCall.keep
  have lim1 : s1.heap.NoLimit := lim.keeps kp
  have os1 : s1.os = s.os := by rw [es]
  have gn1 : s1.gens = s.gens := by rw [es]
  have lt : s.heap.objs.size < s1.heap.objs.size := x.toInCall.ns.lt
  have isG : ∀ h : Heap, h.get? s1.heap.objs.size = some go → h.IsGen s1.heap.objs.size s1.gens.size := fun h e => ⟨go, nm, qn, e, g1, g2, g3⟩
  have at1 : (s1.heap.push go).get? s1.heap.objs.size = some go := Heap.get?_push_size _ g4
  have noC : ∀ v, go.data ≠ .cell v := fun v q => by rw [g2] at q; cases q
  refine ⟨lim1, s1.heap.objs.size, s1.gens.size, _, rfl, Nat.le_of_lt lt, by show _ < (s1.heap.push go).objs.size; rw [Heap.size_push]; exact Nat.lt_succ_self _, isG _ at1, Array.getElem?_push_size .., os1, AllBare.push (by rw [gn1]; exact e0.bare) rfl,
    lim1.keeps fun b o e => Heap.get?_push_of_some _ e, fun b o e => Heap.get?_push_of_some _ (kp b o e), fun B T s2 hrB frB hT keep hTl hos hba => ?_⟩
  obtain ⟨t, gt, tq⟩ := hbody B [(s1.heap.objs.size, go)] (hrB.deeper _)
  have J1 : Inv (gcxOf P w K mg base N qual scope f cdv B outer s H E []) [] (start N vs) H s1 := inv_startG S hrB.hd ⟨frB, e0.mod, e0.bs, e0.bsz, e0.funs, e0.frf, e0.hok, e0.bare⟩ hl r x
  have kp2 : ∀ b o, s1.heap.get? b = some o → s2.heap.get? b = some o := fun b o e => keep b o (Heap.get?_push_of_some _ e)
  have J2 := J1.call' (ch := []) (hos.trans os1.symm) (Un.kept kp2) (J1.hok.kept kp2) hba fun b z => by simp at z
  have hT2 : s1.heap.objs.size < T := by
    have z : (s1.heap.push go).objs.size ≤ T := hT
    rw [Heap.size_push] at z
    exact z
  obtain ⟨cT, eT⟩ := hTl
  have at2 : s2.heap.get? s1.heap.objs.size = some go := keep _ go at1
  have late : ∀ b, s1.heap.objs.size ≤ b → H b = none ∧ b ≠ s.heap.objs.size ∧ b ∉ frs outer ∧ s.heap.objs.size ≤ b ∧ ∀ y c, (cellsFrom (s.heap.objs.size + 1) scope.names []).lookup y = some c → c ≠ b := fun b hb => by
    refine ⟨J1.hok.fresh hb, Nat.ne_of_gt (Nat.lt_of_lt_of_le lt hb), J1.nofs hb, Nat.le_trans (Nat.le_of_lt lt) hb, fun y c e z => ?_⟩
    obtain ⟨_, _, ho, _⟩ := J1.cell y c e
    exact absurd (Nat.lt_of_lt_of_le (z ▸ Heap.lt_size ho) hb) (Nat.lt_irrefl _)
  obtain ⟨a1, a2, a3, _, _⟩ := late s1.heap.objs.size (Nat.le_refl _)
  obtain ⟨b1, b2, b3, b4, b5⟩ := late T (Nat.le_of_lt hT2)
  have start0 : GI (gcxOf P w K mg base N qual scope f cdv B outer s H E [(s1.heap.objs.size, go)]) T [] [] (start N vs) H s2 := ⟨#[], cT, .nil, Inv.pinnedG J2 fun p hp => by
    have hp2 : p = (s1.heap.objs.size, go) ∨ p = (T, lstObj #[] cT) := by simpa using hp
    rcases hp2 with rfl | rfl
    · exact ⟨at2, a1, a2, a3, noC⟩
    · exact ⟨eT, b1, b2, b3, fun v q => by cases q⟩⟩
  have isG2 : ∀ {ip : List (Addr × Obj)} {ys : List V} {s' : Shared} {σ' : L2.St} {H' : Hp}, GI (gcxOf P w K mg base N qual scope f cdv B outer s H E [(s1.heap.objs.size, go)]) T ip ys σ' H' s' → s'.heap.IsGen s1.heap.objs.size s1.gens.size := fun ⟨_, _, _, J⟩ => isG _ (J.pin (s1.heap.objs.size, go) (List.mem_append_left _ (List.mem_singleton.mpr rfl))).1
  refine seg_func (seg_imp (R := GR (gcxOf P w K mg base N qual scope f cdv B outer s H E [(s1.heap.objs.size, go)]) T (fun ys v H' => v = .non ∧ Q ys H') fun e s' => CX P w outer H s E e s' ∧ ∀ p ∈ [(s1.heap.objs.size, go)], s'.heap.get? p.1 = some p.2)
    (Y := GY (gcxOf P w K mg base N qual scope f cdv B outer s H E [(s1.heap.objs.size, go)]) T) (fun n z1 r z2 hR => ?_) (fun n z1 v z2 kap kap' hkk hY => ?_) sizeLine ?_)
  · match r, hR with
    | .error e, hR => exact .inr ⟨e, rfl, hR.1, isG _ (hR.2 _ (List.mem_singleton.mpr rfl))⟩
    | .ok (.ret u), ⟨ys, v, ip, σ', H', hn, hI, rv, ev, hQ⟩ =>
      subst ev
      obtain rfl : u = Value.none := rv
      obtain ⟨y1, _, _, acc, cc, ra, ea⟩ := hI.at
      obtain ⟨_, _, _, J⟩ := hI
      exact .inl ⟨.inl rfl, H', ys, acc, cc, J.os, J.bare, J.base, J.hok, y1, ea, ra, by omega, hQ⟩
  · obtain ⟨ys, xx, ip, σ', H', hn, y2, hI, y3⟩ := hY
    obtain ⟨_, _, _, acc, cc, ra, ea⟩ := hI.at
    have hg := isG2 hI
    obtain ⟨_, _, _, J⟩ := hI
    have hsz : acc.size = ys.length := by
      have e1 := ra.length
      rw [Array.length_toList] at e1
      exact e1.symm
    exact ⟨J.os, J.bare, J.nolimit, hg, ⟨acc, cc, ea, by rw [hsz]; exact hn⟩, fun s' z => hkk _ _ (y3 s' z)⟩
  · refine gt.run B T [] _ sizeLine [] s2 _ [] _ _ id id s2 (start N vs) H _ ⟨fun p hp => by rw [List.mem_singleton.mp hp]; exact Nat.ne_of_lt hT2, fun p hp => by simp at hp, ⟨b4, b2, b5⟩, over_func, rfl, rfl, rfl⟩ (Nat.add_zero _) ⟨fun n ys z1 s' fl hn hs => ?_, fun n z1 e s' hx => ?_⟩ start0 tq
    · match fl, hs with
      | .next, ⟨σ', H', hI, hQ⟩ => exact seg_end (.ok (.ret .none)) ⟨ys, .non, [], σ', H', hn, hI, rfl, rfl, hQ⟩
      | .brk, ⟨_, _, _, q⟩ => exact False.elim q
      | .cont, ⟨_, _, _, q⟩ => exact False.elim q
      | .ret u, ⟨v, σ', H', hI, rv, ev, hQ⟩ => exact seg_end (.ok (.ret u)) ⟨ys, v, [], σ', H', hn, hI, rv, ev, hQ⟩
    · refine seg_wrap ?_
      rw [over_func]
      refine wpAny_mono (show wpAny (model P w) (B.deeper (envOfC qual scope s.heap.objs.size f cdv)) (leaving (envOfC qual scope s.heap.objs.size f cdv) e) (fun _ s'' => CX P w outer H s E e s'' ∧ ∀ p ∈ [(s1.heap.objs.size, go)], s''.heap.get? p.1 = some p.2) (fun _ _ => False) s' from hx) (fun _ s'' q => seg_end (.error e) q) fun _ s'' q => q.elim
end
/-- a generator def f(self, *v) keeps sp (of self and the tuple) -/
def GpS (P : Program) (w : World) (K : PySem.W.Frag) (mg : Str → Option Value) (base : Heap) (k : Nat) (f : Addr) (sp : SpG) : Prop :=
  ∀ (A : Around) (outer : List Env) (s : Shared) (H : Hp) (u : Value) (us : List Value) (v : V) (vs : List V) (Q : List V → Hp → Prop) (E : XK), Room k A → Env0 P w K mg base A outer s H → RelV v u → Vals vs us → vs.length ≤ sizeLine →
    sp [v, .ref s.heap.objs.size] (upd H s.heap.objs.size (.tup vs)) Q E →
    codeAny (model P w) A (.call (.ref f) ⟨u :: us, []⟩) (fun r s' => match r with | .ok (.ret x) => GMade P w k outer (upd H s.heap.objs.size (.tup vs)) { s with heap := s.heap.push { cls := .type "tuple", data := .seq us.toArray } } [] Q E x s' | _ => False) s
section
variable {P : Program} {w : World} {K : PySem.W.Frag} {mg : Str → Option Value} {base : Heap} {k : Nat} {f : Addr} {name qual : Str} {params : Arguments} {body : List Stmt} {scope : Scope} {dV kV doc pm cdv ct oc : Value} {an od : Option Addr}
  {osl : Array (Option Value)} {N : List Str} {sp : SpG}
theorem gpS_of {p1 pv : Str} (lk : K.lookup f = some ⟨oc, od, .func (PySem.W.fnOf name qual params body scope dV kV doc pm an cdv ct), osl⟩) (hcd : PySem.W.codeIn K cdv qual = true) (S : GScope N [p1, pv] scope)
    (hb : ∀ us rest : List Value, us.length = [p1].length → bindArgs (PySem.W.fnOf name qual params body scope dV kV doc pm an cdv ct) ⟨us ++ rest, []⟩ = (newTuple rest >>= fun t => pure ([p1].zip us ++ [(pv, t)])))
    (hbody : ∀ (A : Around) (outer : List Env) (s : Shared) (H : Hp) (vs : List V) (Q : List V → Hp → Prop) (E : XK) (pn : List (Addr × Obj)), Room k (A.deeper (envOfC qual scope s.heap.objs.size f cdv)) → sp vs H Q E →
      ∃ t, GSs (gcxOf P w K mg base N qual scope f cdv A outer s H E pn) body t ∧ t { nx := fun ys _ H' => Q ys H', rt := fun ys v H' => v = .non ∧ Q ys H' } [] (start N vs) H) : GpS P w K mg base (k + 1) f sp := by
  intro A outer s H u us v vs Q E hr e0 rv r hz hsp
  have KX : K.In s.heap := e0.mod.kin.keeps fun b o e => (e0.bs b o e).1
  have hz2 : us.length ≤ sizeLine := by rw [← r.length]; exact hz
  refine codeAny_call_generator hr.depth (KX _ _ lk) rfl S.co S.gen rfl (PySem.W.codeRec_of KX hcd) ?_
  rw [show (⟨u :: us, []⟩ : Args) = ⟨[u] ++ us, []⟩ from rfl, hb [u] us rfl]
  refine wpAny_bind (wpAny_newTuple (wpAny_pure ?_) hz2)
  have hn : H s.heap.objs.size = none := e0.hok.fresh (Nat.le_refl _)
  have new : ObjOk P w (upd H s.heap.objs.size (.tup vs)) (s.heap.push ({ cls := .type "tuple", data := .seq us.toArray } : Obj)) s.heap.objs.size (.tup vs) := ⟨hz, us, r, ⟨_, Heap.get?_push_size _ rfl, rfl, _, rfl⟩⟩
  have e2 := StX.env0_laid e0 new
  have hkind : ∀ y ∈ [(p1, u), (pv, Value.ref s.heap.objs.size)], scope.names.lookup y.1 = some .local ∨ (scope.names.lookup y.1 = some .cell ∧ ((cellsFrom ((s.heap.push ({ cls := .type "tuple", data := .seq us.toArray } : Obj)).objs.size + 1) scope.names []).lookup y.1).isSome = true) := fun y hy => by
    have hy2 : y.1 ∈ [p1, pv] := by
      rcases List.mem_cons.mp hy with rfl | h
      · exact List.mem_cons_self
      · rw [List.mem_singleton.mp h]
        exact List.mem_cons_of_mem _ List.mem_cons_self
    rcases S.par y.1 hy2 with q | q
    · exact .inl q
    · exact .inr ⟨q, PySem.W.cellsFrom_some _ _ _ (.inl q)⟩
  refine wpAny_newFunctionEnv_cells S.kind hkind fun env he s1 x => ?_
  subst he
  exact gen_made (ps := [p1, pv]) (us := [u, .ref s.heap.objs.size]) (vs := [v, .ref s.heap.objs.size]) S hr.hd e2 rfl (.cons rv (.cons rfl .nil)) (fun B pn hB => hbody B outer _ _ _ Q E pn hB hsp) x _ _ _ _ rfl rfl rfl rfl
end
section
variable {X : Cx} {k : Nat} {f C : Addr} {sp : SpG} {m : Str} {pos' apos : Pos} {o : Expr} {ta : TE}
def tMethGS (C : Addr) (m : Str) (sp : SpG) (E : XK) (ta : TE) (t : TA) : TGen := fun σ H cont => ta σ H fun x H1 => ∃ a dx fs, x = .ref a ∧ H1 a = some (.ins C dx fs) ∧ fs.lookup m = none ∧
  t σ H1 fun vs H2 => vs.length ≤ sizeLine ∧ ∀ p, H2 p = none → sp [x, .ref p] (upd H2 p (.tup vs)) cont E
/-- o.m(e, ..), m(self, *v) a generator method -/
theorem pgen_methS {E : XK} {pl : Sem Bool} {e : Expr} {es : List Expr} {t : TA} (he : PE X o ta) (c : Cls X.K C) (hm : Meth X.K C m f) (F : GpS X.prog X.w X.K X.mg X.base k f sp) (hr : Room k X.A) (ha : PA X (e :: es) t)
    (hst : starEach (e :: es) X.env = (false, eval e X.env) :: starEach es X.env := by rfl) (hpl : (backTo pos' (starEach es X.env)).any (·.1) = false := by rfl)
    (ht : eval (.Call (.Attribute o m apos) (e :: es) [] pos') X.env = (do
      let ov ← eval o X.env
      standAt apos.atName
      let (f, first) ← holding [ov] (getMethod ov m pl)
      callWith pos' f first (backTo pos' (starEach (e :: es) X.env)) (backToKw pos' (keywordEach [] X.env))) := by rfl) :
    PGen X k (.Call (.Attribute o m apos) (e :: es) [] pos') (tMethGS C m sp E ta t) E := by
  refine ⟨fun pins s σ H cont I h => ?_⟩
  refine PySem.W.methodCall_KW (pl := pl) (thn (he.run pins s σ H _ I h) fun u s1 ⟨x, H1, I1, rx, a, dx, fs, ex, ea, l, q⟩ => ?_) ht
  subst ex
  obtain rfl : u = Value.ref a := rx
  refine getmeth_ok I1 ea c hm l ?_
  refine PySem.W.callWith_K (first := [.ref a]) (h₀ := X.base) I.ok.mod.kin hm.kp (thn (ha.run pos' pins s1 σ H1 _ I1 q) fun us s2 ⟨vs, H2, I2, r, hz, q2⟩ => ⟨I2.kIn, ?_⟩) hst hpl
  have hn : H2 s2.heap.objs.size = none := I2.hok.fresh (Nat.le_refl _)
  have new : ObjOk X.prog X.w (upd H2 s2.heap.objs.size (.tup vs)) (s2.heap.push ({ cls := .type "tuple", data := .seq us.toArray } : Obj)) s2.heap.objs.size (.tup vs) := ⟨hz, us, r, ⟨_, Heap.get?_push_size _ rfl, rfl, _, rfl⟩⟩
  refine wpAny_call (codeAny_mono (F X.A X.stack s2 H2 (.ref a) us (.ref a) vs cont E hr I2.env0 rfl r hz (q2 _ hn)) fun r s' hq => ?_)
  match r, hq with
  | .ok (.ret u), hq => exact ⟨_, _, [], I2.laid (t' := s2.toks) (fun b ob z => Heap.get?_push_of_some _ z) (Nat.le_refl _) new, .nil, hq⟩
/-- list(o.m(e)), m(self, *v) a generator method -/
theorem pe_listGS {pl : Sem Bool} {e : Expr} {es : List Expr} {t : TA} {p pos : Pos} (he : PE X o ta) (c : Cls X.K C) (hm : Meth X.K C m f) (F : GpS X.prog X.w X.K X.mg X.base k f sp) (hr : Room (k + 3) X.A) (ha : PA X (e :: es) t) (hl : X.mg ("list" : Str) = none)
    (hgl : Gl X "list" := by rfl) (hst : starEach (e :: es) X.env = (false, eval e X.env) :: starEach es X.env := by rfl) (hpl : (backTo pos' (starEach es X.env)).any (·.1) = false := by rfl)
    (ht : eval (.Call (.Attribute o m apos) (e :: es) [] pos') X.env = (do
      let ov ← eval o X.env
      standAt apos.atName
      let (f, first) ← holding [ov] (getMethod ov m pl)
      callWith pos' f first (backTo pos' (starEach (e :: es) X.env)) (backToKw pos' (keywordEach [] X.env))) := by rfl)
    (he2 : starEach [.Call (.Attribute o m apos) (e :: es) [] pos'] X.env = (false, eval (.Call (.Attribute o m apos) (e :: es) [] pos') X.env) :: starEach [] X.env := by rfl) :
    PE X (.Call (.Name "list" p) [.Call (.Attribute o m apos) (e :: es) [] pos'] [] pos) (tListG (tMethGS C m sp E0 ta t)) :=
  pe_listG (pgen_methS he c hm F (hr.mono (by omega)) ha hst hpl ht) passL (fun _ _ _ h => h.elim) hr hgl hl b_list (by decide) (by decide) he2
end
end Pk
/-! ## text.find of one letter -/
namespace Pk
open PySem PySem.Spec PyProof.Rows L2 PySem.StrLaws Builtin Builtin.Str
theorem occ_full (s sub : Str) (hi : Nat) (z : Array Nat) (hz : 1 ≤ z.size) : ∀ (l : List Nat) (f : Nat), (forIn l (z, f) (occBody s sub hi 1)).run.fst = z
  | [], f => rfl
  | a :: l, f => by
    rw [List.forIn_cons]
    unfold occBody
    rw [if_neg (by intro h; have := h.1.1.1; simp only at this; omega)]
    exact occ_full s sub hi z hz l f
theorem occ_one (s sub : Str) (hi i : Nat) (hc : i + sub.length ≤ hi ∧ subAt s sub i = true) : ∀ (n a f : Nat), f ≤ a → a ≤ i → i < a + n → (∀ j, a ≤ j → j < i → ¬ (j + sub.length ≤ hi ∧ subAt s sub j = true)) →
    (forIn (List.range' a n) ((#[] : Array Nat), f) (occBody s sub hi 1)).run.fst = #[i]
  | 0, a, f, h1, h2, h3, h4 => by omega
  | n + 1, a, f, h1, h2, h3, h4 => by
    rw [List.range'_succ, List.forIn_cons]
    unfold occBody
    by_cases e : a = i
    · subst e
      rw [if_pos ⟨⟨⟨by simp, h1⟩, hc.1⟩, hc.2⟩]
      exact occ_full s sub hi #[a] (by simp) _ _
    · have h5 := h4 a (Nat.le_refl _) (by omega)
      rw [if_neg (fun z => h5 ⟨z.1.2, z.2⟩)]
      exact occ_one s sub hi i hc n (a + 1) f (by omega) (by omega) (by omega) fun j z1 z2 => h4 j (by omega) z2
theorem find_sL {l : List Nat} {c i : Nat} (h : l[i]? = some c) (hn : ∀ j, j < i → l[j]? ≠ some c) : Txt.find (sL l) (sL [c]) = (i : Int) := by
  have e : occurrences (sL l) (sL [c]) 0 (sL l).length 1 = [i] := by
    rw [occ_eq]
    have hl := (List.getElem?_eq_some_iff.mp h).1
    rw [occ_one (sL l) (sL [c]) (sL l).length i ((subAt_one (sL l) c i).mpr (by simpa [sL] using h)) _ 0 0 (Nat.le_refl _) (Nat.zero_le _) (by rw [sL_len]; omega) fun j _ z hh => hn j z (by simpa [sL] using (subAt_one (sL l) c j).mp hh)]
  unfold Txt.find
  rw [e]
end Pk
/-! ## One more paste -/
namespace Pk
def pas (st : List Stp) (f l t : Nat) : List Stp := st ++ [.pa f l t]
variable {st : List Stp} {f l t : Nat}
theorem pas_goes (h : Goes most 0 st) (h1 : f ≤ l) (h2 : l < sz st) (h3 : 1 ≤ t) (h4 : t ≤ 1000000000) (h5 : sz st + (l + 1 - f) * t ≤ most) : Goes most 0 (pas st f l t) := by
  refine goes_app.mpr ⟨h, ?_, ?_, trivial⟩
  · simp [Stp.ok]
    omega
  · rw [Nat.zero_add]
    exact h5
theorem pas_sz : sz (pas st f l t) = sz st + (l + 1 - f) * t := by
  unfold pas
  rw [sz_app, sz_cons]
  rfl
theorem pas_nk : nk (pas st f l t) = nk st := by
  unfold pas
  rw [nk_app]
  rfl
theorem pas_typed : typed (pas st f l t) = typed st := by
  unfold pas
  rw [typed_app]
  show typed st ++ [] = _
  rw [List.append_nil]
theorem pas_len : (pas st f l t).length = st.length + 1 := by
  unfold pas
  rw [List.length_append]
  rfl
theorem pas_at : (pas st f l t)[st.length]? = some (.pa f l t) := by
  unfold pas
  rw [List.getElem?_append_right (Nat.le_refl _), Nat.sub_self]
  rfl
theorem pas_take : (pas st f l t).take st.length = st := by
  unfold pas
  rw [List.take_left]
theorem pas_take1 : (pas st f l t).take (st.length + 1) = pas st f l t := List.take_of_length_le (by rw [pas_len]; exact Nat.le_refl _)
theorem pas_pre (hg : Goes most 0 (pas st f l t)) : ∃ F, ex (pas st f l t) = ex st ++ F ∧ (ex st).length = sz st := by
  obtain ⟨A, F, h1, _, _, h4⟩ := ex_split hg pas_at
  rw [pas_take] at h1 h4
  exact ⟨A ++ F, h1, h4⟩
theorem pas_low (hg : Goes most 0 (pas st f l t)) (P : Nat → Bool) {p : Nat} (hp : p ≤ sz st) : cntP (pas st f l t) P p = cntP st P p := by
  obtain ⟨F, h1, h2⟩ := pas_pre hg
  unfold cntP
  rw [h1, List.take_append_of_le_length (by omega)]
theorem pas_ex (hg : Goes most 0 (pas st f l t)) {p : Nat} (hp : p < sz st) : (ex (pas st f l t))[p]? = (ex st)[p]? := by
  obtain ⟨F, h1, h2⟩ := pas_pre hg
  rw [h1, List.getElem?_append_left (by omega)]
theorem pas_ok (hg : Goes most 0 (pas st f l t)) : f ≤ l ∧ l < sz st ∧ 1 ≤ t ∧ t ≤ 1000000000 := by
  have h := (goes_at hg pas_at).1
  rw [pas_take] at h
  simp only [Stp.ok, Bool.and_eq_true, decide_eq_true_eq] at h
  exact ⟨h.1.1.1, h.1.1.2, h.1.2, h.2⟩
theorem pas_exU (hg : Goes most 0 (pas st f l t)) {u : Nat} (hu : u < (l + 1 - f) * t) : (ex (pas st f l t))[sz st + u]? = (ex st)[f + u % (l + 1 - f)]? := by
  obtain ⟨o1, o2, o3, o4⟩ := pas_ok hg
  have h := (ex_pa hg pas_at (p := sz st + u) (by rw [pas_take]; omega) (by rw [pas_take1, pas_sz]; omega)).1
  rw [pas_take, Nat.add_sub_cancel_left] at h
  have hm := Nat.mod_lt u (show 0 < l + 1 - f by omega)
  rw [h, pas_ex hg (by omega)]
theorem pas_cnt (hg : Goes most 0 (pas st f l t)) (P : Nat → Bool) {u : Nat} (hu : u ≤ (l + 1 - f) * t) :
    (cntP (pas st f l t) P (sz st + u) : Int) = (cntP st P (sz st) : Int) + ((u / (l + 1 - f) : Nat) : Int) * ((cntP st P (l + 1) : Int) - (cntP st P f : Int)) + ((cntP st P (f + u % (l + 1 - f)) : Int) - (cntP st P f : Int)) := by
  obtain ⟨o1, o2, o3, o4⟩ := pas_ok hg
  have h := cntP_paI hg pas_at P u hu
  have hm := Nat.mod_lt u (show 0 < l + 1 - f by omega)
  rw [pas_take, pas_low hg P (Nat.le_refl _), pas_low hg P (show l + 1 ≤ sz st by omega), pas_low hg P (show f ≤ sz st by omega), pas_low hg P (show f + u % (l + 1 - f) ≤ sz st by omega)] at h
  rw [h]
  omega
theorem pas_all (hg : Goes most 0 (pas st f l t)) (P : Nat → Bool) :
    (cntP (pas st f l t) P (sz (pas st f l t)) : Int) = (cntP st P (sz st) : Int) + (t : Int) * ((cntP st P (l + 1) : Int) - (cntP st P f : Int)) := by
  obtain ⟨o1, o2, o3, o4⟩ := pas_ok hg
  have h := pas_cnt hg P (Nat.le_refl ((l + 1 - f) * t))
  rw [Nat.mul_div_cancel_left t (by omega), Nat.mul_mod_right, show f + 0 = f from rfl] at h
  rw [pas_sz, h]
  omega
theorem pas_occ (hg : Goes most 0 (pas st f l t)) {P : Nat → Bool} {u : Nat} (hu : u < t * (cntP st P (l + 1) - cntP st P f)) :
    ∃ q, (occ st P)[cntP st P f + u % (cntP st P (l + 1) - cntP st P f)]? = some q ∧ f ≤ q ∧ q ≤ l ∧ (occ (pas st f l t) P)[cntP st P (sz st) + u]? = some (sz st + (u / (cntP st P (l + 1) - cntP st P f)) * (l + 1 - f) + (q - f)) := by
  obtain ⟨o1, o2, o3, o4⟩ := pas_ok hg
  have hm := cntP_mono st P (show f ≤ l + 1 by omega)
  have ha := pas_all hg P
  have e1 := pas_low hg P (Nat.le_refl (sz st))
  have e2 := pas_low hg P (show l + 1 ≤ sz st by omega)
  have e3 := pas_low hg P (show f ≤ sz st by omega)
  have hz : cntP (pas st f l t) P (sz (pas st f l t)) = cntP st P (sz st) + t * (cntP st P (l + 1) - cntP st P f) := by
    have e : ((t * (cntP st P (l + 1) - cntP st P f) : Nat) : Int) = (t : Int) * ((cntP st P (l + 1) : Int) - (cntP st P f : Int)) := by rw [Int.natCast_mul, Int.ofNat_sub hm]
    omega
  obtain ⟨_, _, q, h1, h2, h3, h4⟩ := occ_pa hg pas_at (P := P) (n := cntP st P (sz st) + u) (u := u) (by rw [pas_take, e1]) (by rw [pas_take1, hz]; omega)
  rw [e2, e3] at h1 h4
  rw [pas_take] at h4
  refine ⟨q, ?_, h2, h3, h4⟩
  obtain ⟨k, g1, g2, g3⟩ := occ_get.mp h1
  rw [pas_ex hg (by omega)] at g1
  rw [pas_low hg P (by omega)] at g3
  exact occ_get.mpr ⟨k, g1, g2, g3⟩
theorem pasK_low (hg : Goes most 0 (pas st f l t)) (k : Nat) {p : Nat} (hp : p ≤ sz st) : cnt (pas st f l t) k p = cnt st k p := by
  rw [← cnt_in, ← cnt_in]
  exact pas_low hg _ hp
theorem pasK_cnt (hg : Goes most 0 (pas st f l t)) (k : Nat) {u : Nat} (hu : u ≤ (l + 1 - f) * t) :
    (cnt (pas st f l t) k (sz st + u) : Int) - (cnt (pas st f l t) k (sz st) : Int) = ((u / (l + 1 - f) : Nat) : Int) * ((cnt st k (l + 1) : Int) - (cnt st k f : Int)) + ((cnt st k (f + u % (l + 1 - f)) : Int) - (cnt st k f : Int)) := by
  have h := pas_cnt hg (isIn [k]) hu
  rw [cnt_in, cnt_in, cnt_in, cnt_in, cnt_in] at h
  have e := pasK_low hg k (Nat.le_refl (sz st))
  rw [h, e]
  omega
theorem pasK_all (hg : Goes most 0 (pas st f l t)) (k : Nat) :
    (cnt (pas st f l t) k (sz (pas st f l t)) : Int) - (cnt (pas st f l t) k (sz st) : Int) = (t : Int) * ((cnt st k (l + 1) : Int) - (cnt st k f : Int)) := by
  have h := pas_all hg (isIn [k])
  rw [cnt_in, cnt_in, cnt_in, cnt_in] at h
  have e := pasK_low hg k (Nat.le_refl (sz st))
  rw [h, e]
  omega
/-- ascending lists of the same numbers are one -/
theorem asc_one : ∀ {xs ys : List Int}, xs.Pairwise (· < ·) → ys.Pairwise (· < ·) → (∀ k, k ∈ xs ↔ k ∈ ys) → xs = ys
  | [], [], _, _, _ => rfl
  | [], y :: r, _, _, h => absurd ((h y).mpr List.mem_cons_self) (by simp)
  | x :: r, [], _, _, h => absurd ((h x).mp List.mem_cons_self) (by simp)
  | x :: r, y :: s, hx, hy, h => by
    rw [List.pairwise_cons] at hx hy
    have e : x = y := by
      rcases List.mem_cons.mp ((h x).mp List.mem_cons_self) with e | e
      · exact e
      · rcases List.mem_cons.mp ((h y).mpr List.mem_cons_self) with e2 | e2
        · exact e2.symm
        · have a1 := hx.1 y e2
          have a2 := hy.1 x e
          omega
    subst e
    congr 1
    refine asc_one hx.2 hy.2 fun k => ⟨fun z => ?_, fun z => ?_⟩
    · rcases List.mem_cons.mp ((h k).mp (List.mem_cons_of_mem _ z)) with e | e
      · have := hx.1 k z
        omega
      · exact e
    · rcases List.mem_cons.mp ((h k).mpr (List.mem_cons_of_mem _ z)) with e | e
      · have := hy.1 k z
        omega
      · exact e
theorem occ_asc (st : List Stp) (P : Nat → Bool) : (occ st P).Pairwise (· < ·) := List.Pairwise.filter _ List.pairwise_lt_range
theorem ints_asc {l : List Nat} (h : l.Pairwise (· < ·)) : (l.map fun i : Nat => (i : Int)).Pairwise (· < ·) := List.pairwise_map.mpr (h.imp fun {a b} z => by omega)
theorem cntP_gap (st : List Stp) (P : Nat → Bool) {p q : Nat} (h : p ≤ q) : cntP st P q ≤ cntP st P p + (q - p) := by
  rw [cntP_split st P h]
  have h1 := List.countP_le_length (l := ((ex st).take q).drop p) (p := P)
  rw [List.length_drop, List.length_take] at h1
  omega
/-- a key that stands in a range -/
theorem key_in {st : List Stp} {a b j k : Nat} (h : (ex st)[a + j]? = some k) (hj : a + j ≤ b) : cnt st k a < cnt st k (b + 1) ∧ cnt st k (b + 1) ≤ cnt st k a + (b + 1 - a) ∧ cnt st k (b + 1) ≤ b + 1 := by
  have hkk : isIn [k] k = true := by rw [isIn_one]; exact decide_eq_true rfl
  have f1 := cntP_succ (P := isIn [k]) h
  have f2 := cntP_mono st (isIn [k]) (show a ≤ a + j by omega)
  have f3 := cntP_mono st (isIn [k]) (show a + j + 1 ≤ b + 1 by omega)
  have f4 := cntP_gap st (isIn [k]) (show a ≤ b + 1 by omega)
  have f5 := cntP_le st (isIn [k]) (b + 1)
  rw [if_pos hkk] at f1
  rw [cnt_in, cnt_in] at f1 f2 f3 f4
  rw [cnt_in] at f5
  omega
/-! ### the letters of a range are its places -/
theorem sum_filter (p : Nat → Bool) (g : Nat → Int) (hz : ∀ c, p c = false → g c = 0) : ∀ l : List Nat, ((l.filter p).map g).sum = (l.map g).sum
  | [] => rfl
  | c :: r => by
    have ih := sum_filter p g hz r
    by_cases h : p c = true
    · rw [List.filter_cons, if_pos h, List.map_cons, List.map_cons, List.sum_cons, List.sum_cons, ih]
    · rw [List.filter_cons, if_neg h, List.map_cons, List.sum_cons, ih, hz c (by simpa using h), Int.zero_add]
theorem sum_let1 (st : List Stp) (k : Nat) (h : isLet (ltr st k) = true) : ((List.range' 97 26).map fun c => if lP st c k = true then (1 : Int) else 0).sum = 1 := by
  have e : (fun c => if lP st c k = true then (1 : Int) else 0) = fun c => if ltr st k = c then (1 : Int) else 0 := by
    funext c
    by_cases h : ltr st k = c
    · rw [if_pos h, if_pos (lP_is h)]
    · rw [if_neg h, if_neg (by rw [lP_not h]; exact Bool.false_ne_true)]
  have hc : (List.range' 97 26).count (ltr st k) = 1 := nd_count List.nodup_range' (let_iff.mp h)
  rw [e, sum_ones, hc]
  rfl
theorem sum_lets (st : List Stp) : ∀ E : List Nat, (∀ k ∈ E, isLet (ltr st k) = true) → ((List.range' 97 26).map fun c => (E.countP (lP st c) : Int)).sum = (E.length : Nat)
  | [], _ => by
    have : (fun c => (([] : List Nat).countP (lP st c) : Int)) = fun _ => 0 := by funext c; simp
    rw [this, sum_zero]
    rfl
  | k :: r, h => by
    have e : (fun c => ((k :: r).countP (lP st c) : Int)) = fun c => (r.countP (lP st c) : Int) + if lP st c k = true then 1 else 0 := by
      funext c
      rw [List.countP_cons]
      split <;> simp
    rw [e, sum_add, sum_lets st r (fun x hx => h x (List.mem_cons_of_mem _ hx)), sum_let1 st k (h k List.mem_cons_self), List.length_cons]
    omega
theorem sum_lcD {st : List Stp} {m : Nat} (h : Goes m 0 st) (hlet : (typed st).all isLet = true) {a e : Nat} (hae : a ≤ e) (he : e ≤ sz st) : ((lcD st a e).map (·.2)).sum = (e : Int) - (a : Int) := by
  have h1 : ((lcD st a e).map (·.2)).sum = ((List.range' 97 26).map fun c => (cntP st (lP st c) e : Int) - (cntP st (lP st c) a : Int)).sum := by
    unfold lcD lcs
    rw [List.map_map]
    refine sum_filter _ _ (fun c hc => ?_) _
    have h2 := cntP_mono st (lP st c) hae
    have h3 := of_decide_eq_false hc
    show (cntP st (lP st c) e : Int) - (cntP st (lP st c) a : Int) = 0
    omega
  have hs : ∀ p, p ≤ sz st → ((List.range' 97 26).map fun c => (cntP st (lP st c) p : Int)).sum = (p : Nat) := fun p hp => by
    have h4 := sum_lets st ((ex st).take p) fun k hk => ltr_let hlet (ex_lt st k (List.mem_of_mem_take hk))
    rw [List.length_take, ex_len st h, Nat.min_eq_left hp] at h4
    exact h4
  rw [h1, sum_sub, hs e he, hs a (by omega)]
end Pk
/-! ## Texts written out -/
namespace Pk
def chunk (ls : List Nat) (m : Nat) : List Stp := (List.range m).map fun i => .wr ((ls.drop (20 * i)).take 20)
/-- the same letters without pasting -/
def plainT (ls : List Nat) : List Stp := chunk ls ((ls.length + 19) / 20)
theorem chunk_succ (ls : List Nat) (m : Nat) : chunk ls (m + 1) = chunk ls m ++ [.wr ((ls.drop (20 * m)).take 20)] := by
  unfold chunk
  rw [List.range_succ, List.map_append]
  rfl
theorem chunk_len (ls : List Nat) (m : Nat) : (chunk ls m).length = m := by
  unfold chunk
  rw [List.length_map, List.length_range]
theorem chunk_typed (ls : List Nat) : ∀ m, typed (chunk ls m) = ls.take (20 * m)
  | 0 => by simp [chunk, typed]
  | m + 1 => by
    rw [chunk_succ, typed_app, chunk_typed ls m, Nat.mul_add, Nat.mul_one, List.take_add]
    congr 1
    unfold typed
    rw [List.flatMap_cons, List.flatMap_nil, List.append_nil]
    rfl
theorem chunk_sz (ls : List Nat) : ∀ m, sz (chunk ls m) = (ls.take (20 * m)).length
  | 0 => by simp [chunk, sz]
  | m + 1 => by
    rw [chunk_succ, sz_app, chunk_sz ls m, Nat.mul_add, Nat.mul_one, List.take_add, List.length_append]
    rfl
theorem chunk_goes {ls : List Nat} (hal : ls.all isLet = true) (hm : ls.length ≤ most) : ∀ m, m ≤ (ls.length + 19) / 20 → Goes most 0 (chunk ls m)
  | 0, _ => trivial
  | m + 1, h => by
    rw [chunk_succ]
    have h20 : 20 * m < ls.length := by omega
    have hz := chunk_sz ls m
    rw [List.length_take] at hz
    refine goes_app.mpr ⟨chunk_goes hal hm m (by omega), ?_, ?_, trivial⟩
    · show (decide (1 ≤ ((ls.drop (20 * m)).take 20).length) && decide (((ls.drop (20 * m)).take 20).length ≤ 20) && ((ls.drop (20 * m)).take 20).all isLet) = true
      have hd : 1 ≤ ((ls.drop (20 * m)).take 20).length := by rw [List.length_take, List.length_drop]; omega
      have hd2 : ((ls.drop (20 * m)).take 20).length ≤ 20 := by rw [List.length_take]; omega
      have hd3 : ((ls.drop (20 * m)).take 20).all isLet = true := by
        rw [List.all_eq_true] at hal ⊢
        exact fun x hx => hal x (List.mem_of_mem_drop (List.mem_of_mem_take hx))
      rw [decide_eq_true hd, decide_eq_true hd2, hd3]
      rfl
    · show 0 + sz (chunk ls m) + ((ls.drop (20 * m)).take 20).length ≤ most
      rw [List.length_take, List.length_drop]
      omega
theorem exF_wr (ls : List Nat) : ∀ m (E : List Nat) (n : Nat), True → exF E n (chunk ls m) = E ++ List.range' n (nk (chunk ls m)) := by
  have h : ∀ (st : List Stp) (E : List Nat) (n : Nat), (∀ x ∈ st, ∃ w, x = .wr w) → exF E n st = E ++ List.range' n (nk st) := by
    intro st
    induction st with
    | nil => intro E n _; simp [exF, nk]
    | cons x r ih =>
      intro E n hx
      obtain ⟨w, rfl⟩ := hx x List.mem_cons_self
      show exF (E ++ List.range' n w.length) (n + w.length) r = _
      rw [ih _ _ fun y hy => hx y (List.mem_cons_of_mem _ hy), List.append_assoc]
      congr 1
      have e : nk (.wr w :: r) = w.length + nk r := by simp [nk, Stp.ks]
      rw [e, ← List.range'_append_1]
  intro m E n _
  refine h _ E n fun x hx => ?_
  obtain ⟨i, _, rfl⟩ := List.mem_map.mp hx
  exact ⟨_, rfl⟩
theorem plain_typed (ls : List Nat) : typed (plainT ls) = ls := by
  unfold plainT
  rw [chunk_typed, List.take_of_length_le (by omega)]
theorem plain_nk (ls : List Nat) : nk (plainT ls) = ls.length := by rw [← typed_len, plain_typed]
theorem plain_sz (ls : List Nat) : sz (plainT ls) = ls.length := by
  unfold plainT
  rw [chunk_sz, List.take_of_length_le (by omega)]
theorem plain_goes {ls : List Nat} (hal : ls.all isLet = true) (hm : ls.length ≤ most) : Goes most 0 (plainT ls) := chunk_goes hal hm _ (Nat.le_refl _)
theorem plain_len {ls : List Nat} (h : ls.length ≤ 600) : (plainT ls).length ≤ 30 := by
  unfold plainT
  rw [chunk_len]
  omega
theorem plain_ex (ls : List Nat) : ex (plainT ls) = List.range ls.length := by
  unfold ex
  have h := exF_wr ls ((ls.length + 19) / 20) [] 0 trivial
  have e := plain_nk ls
  unfold plainT at e ⊢
  rw [h, e, List.nil_append, List.range_eq_range']
theorem plain_lts (ls : List Nat) : lts (plainT ls) = ls := by
  unfold lts
  rw [plain_ex]
  refine List.ext_getElem (by simp) fun i h1 h2 => ?_
  simp only [List.getElem_map, List.getElem_range]
  unfold ltr
  rw [plain_typed, List.getD_eq_getElem?_getD, List.getElem?_eq_getElem h2]
  rfl
/-! ### what letters alone tell -/
theorem cntP_lts (st : List Stp) (c p : Nat) : cntP st (lP st c) p = ((lts st).take p).countP (· == c) := by
  unfold cntP lts
  rw [← List.map_take, List.countP_map]
  rfl
theorem cntP_alike {a b : List Stp} (h : lts a = lts b) (c p : Nat) : cntP a (lP a c) p = cntP b (lP b c) p := by rw [cntP_lts, cntP_lts, h]
theorem lcD_alike {a b : List Stp} (h : lts a = lts b) (x y : Nat) : lcD a x y = lcD b x y := by
  unfold lcD lcs
  simp only [cntP_alike h]
theorem occ_alike {a b : List Stp} (h : lts a = lts b) (c : Nat) : occ a (lP a c) = occ b (lP b c) := by
  have hl : (ex a).length = (ex b).length := by rw [← lts_len, ← lts_len, h]
  unfold occ occL
  rw [hl]
  refine List.filter_congr fun p hp => ?_
  rw [List.mem_range] at hp
  have g : ∀ st : List Stp, p < (ex st).length → lP st c ((ex st).getD p 0) = ((lts st)[p]? == some c) := fun st hs => by
    rw [lts_at (List.getElem?_eq_getElem hs), List.getD_eq_getElem?_getD, List.getElem?_eq_getElem hs]
    unfold lP ltr
    simp
  rw [g a (by omega), g b hp, h]
theorem has_alike {a b : List Stp} {m n : Nat} (ha : Goes m 0 a) (hb : Goes n 0 b) (h : lts a = lts b) {c : Nat} (hc : isLet c = true) : c ∈ typed a ↔ c ∈ typed b := by
  have hl : sz a = sz b := by rw [← ex_len a ha, ← ex_len b hb, ← lts_len, ← lts_len, h]
  rw [let_counted ha hc, let_counted hb hc, hl, cntP_alike h]
/-! ### the first place that isn't new -/
theorem ord_fst : ∀ {l : List Nat} {p k : Nat}, InOrd 0 l → l.take p = List.range p → l[p]? = some k → k ≤ p := by
  intro l p k h ht hk
  have h1 := (ord_at h hk).1
  rw [ht, List.range_eq_range', (ord_range p 0).2] at h1
  omega
theorem pre_range {l : List Nat} {p : Nat} (hp : p ≤ l.length) (hq : ∀ q, q < p → l.getD q 0 = q) : l.take p = List.range p := by
  refine List.ext_getElem (by simp; omega) fun i h1 h2 => ?_
  simp only [List.length_range] at h2
  have := hq i h2
  rw [List.getD_eq_getElem?_getD, List.getElem?_eq_getElem (by omega)] at this
  simpa using this
/-- places whose number isn't theirs; the first of them is the first key that stood before -/
theorem fst_due {l : List Nat} (h : InOrd 0 l) : ((List.range l.length).filter fun p => decide (l.getD p 0 ∈ l.take p)).head? = ((List.range l.length).filter fun p => decide (l.getD p 0 ≠ p)).head? ∧
    ((List.range l.length).filter fun p => decide (l.getD p 0 ≠ p)).head? = ((List.range l.length).find? fun p => decide (l.getD p 0 ≠ p)) := by
  have hf : ∀ (P : Nat → Bool), ((List.range l.length).filter P).head? = (List.range l.length).find? P := fun P => List.head?_filter
  rw [hf, hf]
  refine ⟨?_, rfl⟩
  have pre : ∀ p, p ≤ l.length → (∀ q, q < p → l.getD q 0 = q) → l.take p = List.range p := fun p hp hq => by
    refine List.ext_getElem (by simp; omega) fun i h1 h2 => ?_
    simp only [List.length_range] at h2
    have := hq i h2
    rw [List.getD_eq_getElem?_getD, List.getElem?_eq_getElem (by omega)] at this
    simpa using this
  cases hd : (List.range l.length).find? fun p => decide (l.getD p 0 ≠ p) with
  | none =>
    rw [List.find?_eq_none] at hd ⊢
    intro p hp
    rw [List.mem_range] at hp
    have hall : ∀ q, q < l.length → l.getD q 0 = q := fun q hq => by
      have := hd q (List.mem_range.mpr hq)
      simpa using this
    rw [pre p (by omega) fun q hq => hall q (by omega), hall p hp, decide_eq_true_eq, List.mem_range]
    omega
  | some p =>
    obtain ⟨h1, h2, h3⟩ := List.find?_range_eq_some.mp hd
    rw [List.mem_range] at h2
    have hq : ∀ q, q < p → l.getD q 0 = q := fun q hq => by
      have := h3 q hq
      simpa using this
    have ht := pre p (by omega) hq
    have hk : l[p]? = some (l.getD p 0) := by
      rw [List.getD_eq_getElem?_getD, List.getElem?_eq_getElem h2]
      rfl
    have hle := ord_fst h ht hk
    have hne := of_decide_eq_true h1
    rw [List.find?_range_eq_some]
    refine ⟨?_, List.mem_range.mpr h2, fun j hj => ?_⟩
    · rw [ht, decide_eq_true_eq, List.mem_range]
      omega
    · rw [pre j (by omega) fun q hq2 => hq q (by omega), hq j hj]
      simp
end Pk
namespace Pk
open PySem PySem.W PySem.Calls PyProof.Rows He He5
/-! ### a hook that tells of written dicts besides -/
abbrev TabQ : Type := (Frag → Addr) × List PySem.Str
abbrev AlQ : Type := AlM × List (Option (List (Option (PySem.Str × Int))))
def obsQ (fa : List Fa) (fn : List DefA) (ex : Frag → Bool) (ts : List TabQ) (K : Frag) : AlQ := (obsM fa fn ex K, ts.map fun t => dicW K (t.1 K))
def valQ (fn : List DefA) (ts : List TabQ) (w : World) : AlQ := (valM fn, ts.map fun t => some (keysIn w.params t.2))
structure SaysQ (fa : List Fa) (fn : List DefA) (ex : Frag → Bool) (ts : List TabQ) (w : World) (K : Frag) : Prop where
  m : SaysM fa fn ex K
  tab : ∀ (i : Nat) (t : TabQ), ts[i]? = some t → ∃ es n, L2.KDict K w (t.1 K) es n
theorem saysQ_of {fa : List Fa} {fn : List DefA} {ex : Frag → Bool} {ts : List TabQ} {w : World} {K : Frag} (h : obsQ fa fn ex ts K = valQ fn ts w) : SaysQ fa fn ex ts w K := by
  refine ⟨saysM_of (congrArg Prod.fst h), fun i t ht => ?_⟩
  have e1 : (ts.map fun t => dicW K (t.1 K)) = ts.map fun t => some (keysIn w.params t.2) := congrArg Prod.snd h
  have e2 := congrArg (fun l => l[i]?) e1
  simp only [List.getElem?_map, ht, Option.map_some, Option.some.injEq] at e2
  exact dicW_ok e2
def obsQG (n : Nat) (fa : List Fa) (fn : List DefA) (ex : Frag → Bool) (ts : List TabQ) (g : Addr → Option Obj) : AlQ := obsQ fa fn ex ts (frG g (asA g n))
def hookQ (n : Nat) (fa : List Fa) (fn : List DefA) (ex : Frag → Bool) (ts : List TabQ) : PySem.W.Hook where
  α := AlQ
  obs := fun s => obsQG n fa fn ex ts s.heap.get?
  val := fun w => valQ fn ts w
  says := fun w h => ∃ K : Frag, K.In h ∧ SaysQ fa fn ex ts w K
  of := fun _ _ e => ⟨_, frG_in, saysQ_of e⟩
  keeps := fun _ _ _ ⟨K, hK, c⟩ k => ⟨K, Frag.In.keeps hK k, c⟩
theorem obsQG_eq {n : Nat} {fa : List Fa} {fn : List DefA} {ex : Frag → Bool} {ts : List TabQ} {g : Addr → Option Obj} {s : Shared} (h : ∀ a, g a = s.heap.get? a) : obsQG n fa fn ex ts g = (hookQ n fa fn ex ts).obs s := by
  have e : g = s.heap.get? := funext h
  rw [e] <;> rfl
/-- the number at a key of a written dict -/
def nsIntB (K : Frag) (a : Addr) (x : PySem.Str) (i : Int) : Bool := match nsIn K a x with
  | some (some (.int j _)) => decide (j = i)
  | _ => false
theorem nsInt_ok {K : Frag} {a : Addr} {x : PySem.Str} {i : Int} (h : nsIntB K a x i = true) : ∃ u, nsIn K a x = some (some u) ∧ L2.RelV (.int i) u := by
  unfold nsIntB at h
  cases e : nsIn K a x with
  | none => rw [e] at h; cases h
  | some r =>
    rw [e] at h
    cases r with
    | none => cases h
    | some u =>
      cases u with
      | int j t =>
        have ej : j = i := of_decide_eq_true h
        subst ej
        exact ⟨_, rfl, t, rfl⟩
      | _ => cases h
/-- a method that can be taken as a value -/
def bmB (K : Frag) (C : Addr) (m : PySem.Str) : Bool := eqO (specialIn K (.ref (ma K C m)) "__get__") (some (some (.builtin "function.__get__"))) && (decide (takesIn K (.ref (ma K C m)) = some false) && (decide (copiedNames.contains m = false) && fnIn K (ma K C m)))
theorem bm_ok {K : Frag} {C : Addr} {m : PySem.Str} (h0 : L2.Meth K C m (ma K C m)) (h : bmB K C m = true) : L2.BMeth K C m (ma K C m) := by
  obtain ⟨h1, h⟩ := ba h
  obtain ⟨h2, h⟩ := ba h
  obtain ⟨h3, h4⟩ := ba h
  exact ⟨h0, eqO_ok h1, of_decide_eq_true h2, of_decide_eq_true h3, h4⟩
end Pk
namespace KL
open PySem PySem.Spec PyProof.Rows L2 Pk He
def top (i : Nat) : Stmt := PySem.Challenge.pw_pastekeys_k15_whole_readers_keep_the_tru.main.body.getD i (.Pass ⟨0, 0, 0, 0⟩)
abbrev Df (K : Fr) (x q : Str) (st : Stmt) (f : Addr) : Prop := ∃ fd, FunD K x q (defArgs st) (defBody st) (defScope st) [] [] f fd
abbrev CS (K : Fr) : Addr := ga K "Span"
abbrev CT (K : Fr) : Addr := ga K "Text"
structure Tc (w : World) (K : Fr) (mg : Str → Option Value) : Prop where
  isi : mg "isinstance" = none
  int : mg "int" = none
  bool : mg "bool" = none
  str : mg "str" = none
  tup : mg "tuple" = none
  lst : mg "list" = none
  len : mg "len" = none
  all : mg "all" = none
  rng : mg "range" = none
  enu : mg "enumerate" = none
  zip : mg "zip" = none
  min : mg "min" = none
  max : mg "max" = none
  srt : mg "sorted" = none
  set_ : mg "set" = none
  dict_ : mg "dict" = none
  dm : mg "divmod" = none
  ValueError : mg "ValueError" = none
  TypeError : mg "TypeError" = none
  super : mg "super" = none
  NotImplemented : mg "NotImplemented" = none
  letters : ∃ t, mg "LETTERS" = some (.str "abcdefghijklmnopqrstuvwxyz" t)
  longest : ∃ t, mg "LONGEST_WORD" = some (.int 20 t)
  mostSteps : ∃ t, mg "MOST_STEPS" = some (.int 30 t)
  mostTimes : ∃ t, mg "MOST_TIMES" = some (.int 1000000000 t)
  c_MOST_LETTERS : ∃ t, mg "MOST_LETTERS" = some (.int 1000 t)
  gIsNumber : mg "is_number" = some (.ref (ga K "is_number"))
  gIsLetter : mg "is_letter" = some (.ref (ga K "is_letter"))
  gIsWord : mg "is_word" = some (.ref (ga K "is_word"))
  gIsStep : mg "is_step" = some (.ref (ga K "is_step"))
  gSpanOf : mg "span_of" = some (.ref (ga K "span_of"))
  gSpansOf : mg "spans_of" = some (.ref (ga K "spans_of"))
  gKeyAt : mg "key_at" = some (.ref (ga K "key_at"))
  g_written_place : mg "written_place" = some (.ref (ga K "written_place"))
  gMoved : mg "moved_step" = some (.ref (ga K "moved_step"))
  g_letters_between : mg "letters_between" = some (.ref (ga K "letters_between"))
  gCheckRange : mg "_check_range" = some (.ref (ga K "_check_range"))
  gTaken : mg "_law_taken" = some (.ref (ga K "_law_taken"))
  gWord : mg "_law_word" = some (.ref (ga K "_law_word"))
  gSteps : mg "_law_steps" = some (.ref (ga K "_law_steps"))
  g_law_is_told : mg "_law_is_told" = some (.ref (ga K "_law_is_told"))
  g_law_power : mg "_law_power" = some (.ref (ga K "_law_power"))
  g_law_is_seen : mg "_law_is_seen" = some (.ref (ga K "_law_is_seen"))
  g_law : mg "law" = some (.ref (ga K "law"))
  g_TextError : mg "TextError" = some (.ref (ga K "TextError"))
  g_InvalidStep : mg "InvalidStep" = some (.ref (ga K "InvalidStep"))
  g_TooLong : mg "TooLong" = some (.ref (ga K "TooLong"))
  g_InvalidPlace : mg "InvalidPlace" = some (.ref (ga K "InvalidPlace"))
  g_InvalidLetter : mg "InvalidLetter" = some (.ref (ga K "InvalidLetter"))
  g_InvalidNumber : mg "InvalidNumber" = some (.ref (ga K "InvalidNumber"))
  g_Contradiction : mg "Contradiction" = some (.ref (ga K "Contradiction"))
  gSpan : mg "Span" = some (.ref (ga K "Span"))
  clS : Cls K (ga K "Span")
  mkS : Mk K (ga K "Span") (ma K (ga K "Span") "__init__")
  nS1 : NoAttr K (ga K "Span") "begin"
  nS2 : NoAttr K (ga K "Span") "end"
  nS3 : NoAttr K (ga K "Span") "key"
  nS4 : NoAttr K (ga K "Span") "source"
  nS5 : NoAttr K (ga K "Span") "width"
  g_KeyReader : mg "KeyReader" = some (.ref (ga K "KeyReader"))
  clKeyReader : Cls K (ga K "KeyReader")
  mkKeyReader : Mk K (ga K "KeyReader") (ma K (ga K "KeyReader") "__init__")
  n_KeyReader_text : NoAttr K (ga K "KeyReader") "_text"
  n_KeyReader_groups : NoAttr K (ga K "KeyReader") "_groups"
  n_KeyReader_letters : NoAttr K (ga K "KeyReader") "_letters"
  n_KeyReader_accepted : NoAttr K (ga K "KeyReader") "_accepted"
  p_KeyReader_known_letters : PropOf K (ga K "KeyReader") "known_letters" (ma K (ga K "KeyReader") "known_letters") (pgA K (ga K "KeyReader") "known_letters")
  o_KeyReader_getitem : OpF K (ga K "KeyReader") "__getitem__" (ma K (ga K "KeyReader") "__getitem__")
  o_KeyReader_iter : OpF K (ga K "KeyReader") "__iter__" (ma K (ga K "KeyReader") "__iter__")
  m_KeyReader_see : Meth K (ga K "KeyReader") "see" (ma K (ga K "KeyReader") "see")
  m_KeyReader_see_word : Meth K (ga K "KeyReader") "see_word" (ma K (ga K "KeyReader") "see_word")
  m_KeyReader_learn : Meth K (ga K "KeyReader") "_learn" (ma K (ga K "KeyReader") "_learn")
  m_KeyReader_hear_alike : Meth K (ga K "KeyReader") "hear_alike" (ma K (ga K "KeyReader") "hear_alike")
  m_KeyReader_count_texts : Meth K (ga K "KeyReader") "count_texts" (ma K (ga K "KeyReader") "count_texts")
  m_KeyReader_is_surely_alike : Meth K (ga K "KeyReader") "is_surely_alike" (ma K (ga K "KeyReader") "is_surely_alike")
  m_KeyReader_fewest_places : Meth K (ga K "KeyReader") "fewest_places" (ma K (ga K "KeyReader") "fewest_places")
  m_KeyReader_text_with : Meth K (ga K "KeyReader") "text_with" (ma K (ga K "KeyReader") "text_with")
  m_KeyReader_group_of : Meth K (ga K "KeyReader") "_group_of" (ma K (ga K "KeyReader") "_group_of")
  m_KeyReader_open_groups : Meth K (ga K "KeyReader") "_open_groups" (ma K (ga K "KeyReader") "_open_groups")
  gText : mg "Text" = some (.ref (ga K "Text"))
  clT : Cls K (ga K "Text")
  mkT : Mk K (ga K "Text") (ma K (ga K "Text") "__init__")
  nT1 : NoAttr K (ga K "Text") "_steps"
  nT2 : NoAttr K (ga K "Text") "spans"
  nT3 : NoAttr K (ga K "Text") "_size"
  nT4 : NoAttr K (ga K "Text") "_typed"
  cmOf : ClX.CMet K (ga K "Text") (.type "type") "of_steps" (ma K (ga K "Text") "of_steps") (He5.wf K (ga K "Text") "classmethod" "of_steps")
  pSteps : PropOf K (ga K "Text") "steps" (ma K (ga K "Text") "steps") (pgA K (ga K "Text") "steps")
  pTyped : PropOf K (ga K "Text") "typed_keys" (ma K (ga K "Text") "typed_keys") (pgA K (ga K "Text") "typed_keys")
  pSize : PropOf K (ga K "Text") "size" (ma K (ga K "Text") "size") (pgA K (ga K "Text") "size")
  callO : StX.CallO K (ga K "Text") (ma K (ga K "Text") "__call__")
  oGet : OpF K (ga K "Text") "__getitem__" (ma K (ga K "Text") "__getitem__")
  mCheck : Meth K (ga K "Text") "_check_place" (ma K (ga K "Text") "_check_place")
  o_Text_iter : OpF K (ga K "Text") "__iter__" (ma K (ga K "Text") "__iter__")
  oHas : OpF K (ga K "Text") "__contains__" (ma K (ga K "Text") "__contains__")
  oEq : OpF K (ga K "Text") "__eq__" (ma K (ga K "Text") "__eq__")
  oAdd : OpF K (ga K "Text") "__add__" (ma K (ga K "Text") "__add__")
  oMul : OpF K (ga K "Text") "__mul__" (ma K (ga K "Text") "__mul__")
  mWith : Meth K (ga K "Text") "with_letters" (ma K (ga K "Text") "with_letters")
  maxSize : ∃ t, ClX.CVal K (ga K "Text") (.type "type") "MAX_SIZE" (.int 1000000000000000000) (.int 1000000000000000000 t)
  rd : ClX.CRead K (ga K "Text") (.type "type")
  ne_Span_KeyReader : ga K "Span" ≠ ga K "KeyReader"
  ne_Span_Text : ga K "Span" ≠ ga K "Text"
  ne_KeyReader_Text : ga K "KeyReader" ≠ ga K "Text"
  tMul : OpT K (ga K "Text") "mul" "int"
  first : PySem.W.selfFirst K (ga K "Text") = true
  insT : C8.InsC K (ga K "Text")
  csct : ga K "Span" ≠ ga K "Text"
  subT : PySem.W.subIn K (.type "tuple") (.ref (ga K "Text")) = some false
  neT : PySem.W.findIn K (.ref (ga K "Text")) "__ne__" = some (some (.builtin "object.__ne__"))
  tupT : PySem.W.kitOne K (.type "tuple") (.ref (ga K "Text")) = some false
abbrev sIsNumber : Stmt := top 4
abbrev sIsLetter : Stmt := top 5
abbrev sIsWord : Stmt := top 6
abbrev sIsStep : Stmt := top 19
abbrev sSpanOf : Stmt := top 20
abbrev sSpansOf : Stmt := top 21
abbrev sKeyAt : Stmt := top 22
abbrev s_written_place : Stmt := top 23
abbrev sMoved : Stmt := top 24
abbrev s_letters_between : Stmt := top 29
abbrev sCheckRange : Stmt := top 30
abbrev sTaken : Stmt := top 34
abbrev sWord : Stmt := top 35
abbrev sSteps : Stmt := top 36
abbrev s_law_is_told : Stmt := top 37
abbrev s_law_power : Stmt := top 38
abbrev s_law_is_seen : Stmt := top 39
abbrev sLaw : Stmt := top 40
abbrev s_InvalidStep_init : Stmt := inClass (top 9) 0
abbrev sSpanInit : Stmt := inClass (top 18) 0
abbrev s_KeyReader_init : Stmt := inClass (top 26) 0
abbrev s_KeyReader_known_letters : Stmt := inClass (top 26) 2
abbrev s_KeyReader_getitem : Stmt := inClass (top 26) 4
abbrev s_KeyReader_iter : Stmt := inClass (top 26) 5
abbrev s_KeyReader_see : Stmt := inClass (top 26) 6
abbrev s_KeyReader_see_word : Stmt := inClass (top 26) 7
abbrev s_KeyReader_learn : Stmt := inClass (top 26) 8
abbrev s_KeyReader_hear_alike : Stmt := inClass (top 26) 9
abbrev s_KeyReader_count_texts : Stmt := inClass (top 26) 10
abbrev s_KeyReader_is_surely_alike : Stmt := inClass (top 26) 11
abbrev s_KeyReader_fewest_places : Stmt := inClass (top 26) 12
abbrev s_KeyReader_text_with : Stmt := inClass (top 26) 13
abbrev s_KeyReader_group_of : Stmt := inClass (top 26) 14
abbrev s_KeyReader_open_groups : Stmt := inClass (top 26) 15
abbrev sInit : Stmt := inClass (top 32) 1
abbrev sOf : Stmt := inClass (top 32) 3
abbrev sStepsP : Stmt := inClass (top 32) 4
abbrev sTyped : Stmt := inClass (top 32) 5
abbrev sSize : Stmt := inClass (top 32) 6
abbrev sCall : Stmt := inClass (top 32) 7
abbrev sGet : Stmt := inClass (top 32) 8
abbrev sCheck : Stmt := inClass (top 32) 9
abbrev s_Text_iter : Stmt := inClass (top 32) 10
abbrev sHas : Stmt := inClass (top 32) 11
abbrev sEq : Stmt := inClass (top 32) 12
abbrev sAdd : Stmt := inClass (top 32) 13
abbrev sMul : Stmt := inClass (top 32) 14
abbrev sWith : Stmt := inClass (top 32) 16
theorem sc_is_number : FnScope ["value", "low", "high"] ["value", "low", "high"] (defScope sIsNumber) := ⟨rfl, rfl, rfl, by decide +kernel, rfl, by decide +kernel, by decide +kernel⟩
theorem sc_is_letter : FnScope ["value"] ["value"] (defScope sIsLetter) := ⟨rfl, rfl, rfl, by decide +kernel, rfl, by decide +kernel, by decide +kernel⟩
theorem sc_is_word : FnScope ["value", "sign"] ["value"] (defScope sIsWord) := ⟨rfl, rfl, rfl, by decide +kernel, rfl, by decide +kernel, by decide +kernel⟩
theorem sc_is_step : FnScope ["value", "size", "first", "last", "times"] ["value", "size"] (defScope sIsStep) := ⟨rfl, rfl, rfl, by decide +kernel, rfl, by decide +kernel, by decide +kernel⟩
theorem sc_span_of : FnScope ["step", "begin", "key", "width"] ["step", "begin", "key"] (defScope sSpanOf) := ⟨rfl, rfl, rfl, by decide +kernel, rfl, by decide +kernel, by decide +kernel⟩
theorem sc_spans_of : FnScope ["steps", "max_size", "spans", "size", "key", "index", "step", "span"] ["steps", "max_size"] (defScope sSpansOf) := ⟨rfl, rfl, rfl, by decide +kernel, rfl, by decide +kernel, by decide +kernel⟩
theorem sc_key_at : FnScope ["spans", "place", "at", "_", "rest"] ["spans", "place"] (defScope sKeyAt) := ⟨rfl, rfl, rfl, by decide +kernel, rfl, by decide +kernel, by decide +kernel⟩
theorem sc_written_place : FnScope ["spans", "key", "written", "span"] ["spans", "key"] (defScope s_written_place) := ⟨rfl, rfl, rfl, by decide +kernel, rfl, by decide +kernel, by decide +kernel⟩
theorem sc_moved_step : FnScope ["step", "shift"] ["step", "shift"] (defScope sMoved) := ⟨rfl, rfl, rfl, by decide +kernel, rfl, by decide +kernel, by decide +kernel⟩
theorem sc_letters_between : FnScope ["text", "first", "last", "place"] ["text", "first", "last"] (defScope s_letters_between) := ⟨rfl, rfl, rfl, by decide +kernel, rfl, by decide +kernel, by decide +kernel⟩
theorem sc_check_range : FnScope ["text", "first", "last"] ["text", "first", "last"] (defScope sCheckRange) := ⟨rfl, rfl, rfl, by decide +kernel, rfl, by decide +kernel, by decide +kernel⟩
theorem sc_law_taken : FnScope ["_law_row", "_law_many", "_law_found", "_law_cell"] ["_law_row", "_law_many"] (defScope sTaken) := ⟨rfl, rfl, rfl, by decide +kernel, rfl, by decide +kernel, by decide +kernel⟩
theorem sc_law_word : FnScope ["_law_row", "_law_most", "_law_word_here", "_law_k"] ["_law_row", "_law_most"] (defScope sWord) := ⟨rfl, rfl, rfl, by decide +kernel, rfl, by decide +kernel, by decide +kernel⟩
theorem sc_law_steps : FnScope ["_law_row", "_law_count", "_law_most", "_law_steps_here", "_law_size", "_law_k", "_law_word_here", "_law_first", "_law_last", "_law_times"] ["_law_row", "_law_count", "_law_most"] (defScope sSteps) := ⟨rfl, rfl, rfl, by decide +kernel, rfl, by decide +kernel, by decide +kernel⟩
theorem sc_law_is_told : FnScope ["_law_reader", "_law_text", "_law_tied", "_law_known", "_law_keys", "_law_count", "_law_place", "_law_key"] ["_law_reader", "_law_text", "_law_tied"] (defScope s_law_is_told) := ⟨rfl, rfl, rfl, by decide +kernel, rfl, by decide +kernel, by decide +kernel⟩
theorem sc_law_power : FnScope ["_law_base", "_law_count", "_law_found", "_law_turn"] ["_law_base", "_law_count"] (defScope s_law_power) := ⟨rfl, rfl, rfl, by decide +kernel, rfl, by decide +kernel, by decide +kernel⟩
theorem sc_law_is_seen : FnScope ["_law_row", "_law_reader", "_law_text", "_law_tied", "_law_place", "_law_other", "_law_word_here", "_law_count", "_law_last", "_law_low", "_law_high", "_law_head"] ["_law_row", "_law_reader", "_law_text", "_law_tied"] (defScope s_law_is_seen) := ⟨rfl, rfl, rfl, by decide +kernel, rfl, by decide +kernel, by decide +kernel⟩
theorem sc_law : FnScope ["_law_script", "_law_row", "_law_turn", "_law_text", "_law_reader", "_law_tied", "_law_again", "_law_other", "_law_known", "_law_places", "_law_place", "_law_key"] ["_law_script"] (defScope sLaw) := ⟨rfl, rfl, rfl, by decide +kernel, rfl, by decide +kernel, by decide +kernel⟩
theorem sc_Span_init : FnScope ["self", "begin", "end", "key", "source", "width"] ["self", "begin", "end", "key", "source", "width"] (defScope sSpanInit) := ⟨rfl, rfl, rfl, by decide +kernel, rfl, by decide +kernel, by decide +kernel⟩
theorem sc_KeyReader_init : FnScope ["self", "text"] ["self", "text"] (defScope s_KeyReader_init) := ⟨rfl, rfl, rfl, by decide +kernel, rfl, by decide +kernel, by decide +kernel⟩
theorem sc_KeyReader_known_letters : FnScope ["self", "known", "key", "group"] ["self"] (defScope s_KeyReader_known_letters) := ⟨rfl, rfl, rfl, by decide +kernel, rfl, by decide +kernel, by decide +kernel⟩
theorem sc_KeyReader_getitem : FnScope ["self", "at"] ["self", "at"] (defScope s_KeyReader_getitem) := ⟨rfl, rfl, rfl, by decide +kernel, rfl, by decide +kernel, by decide +kernel⟩
theorem sc_KeyReader_iter : FnScope ["self"] ["self"] (defScope s_KeyReader_iter) := ⟨rfl, rfl, rfl, by decide +kernel, rfl, by decide +kernel, by decide +kernel⟩
theorem sc_KeyReader_see : FnScope ["self", "place", "letter", "group"] ["self", "place", "letter"] (defScope s_KeyReader_see) := ⟨rfl, rfl, rfl, by decide +kernel, rfl, by decide +kernel, by decide +kernel⟩
theorem sc_KeyReader_see_word : FnScope ["self", "first", "word", "groups", "at"] ["self", "first", "word"] (defScope s_KeyReader_see_word) := ⟨rfl, rfl, rfl, by decide +kernel, rfl, by decide +kernel, by decide +kernel⟩
theorem sc_KeyReader_learn : FnScope ["self", "groups", "word", "letters", "group", "letter"] ["self", "groups", "word"] (defScope s_KeyReader_learn) := ⟨rfl, rfl, rfl, by decide +kernel, rfl, by decide +kernel, by decide +kernel⟩
theorem sc_KeyReader_hear_alike : FnScope ["self", "place", "other", "least", "gone", "letter", "group"] ["self", "place", "other"] (defScope s_KeyReader_hear_alike) := ⟨rfl, rfl, rfl, by decide +kernel, rfl, by decide +kernel, by decide +kernel⟩
theorem sc_KeyReader_count_texts : FnScope ["self", "count", "_"] ["self"] (defScope s_KeyReader_count_texts) := ⟨rfl, rfl, rfl, by decide +kernel, rfl, by decide +kernel, by decide +kernel⟩
theorem sc_KeyReader_is_surely_alike : FnScope ["self", "place", "other", "one", "two"] ["self", "place", "other"] (defScope s_KeyReader_is_surely_alike) := ⟨rfl, rfl, rfl, by decide +kernel, rfl, by decide +kernel, by decide +kernel⟩
theorem sc_KeyReader_fewest_places : FnScope ["self", "key"] ["self"] (defScope s_KeyReader_fewest_places) := ⟨rfl, rfl, rfl, by decide +kernel, rfl, by decide +kernel, by decide +kernel⟩
theorem sc_KeyReader_text_with : FnScope ["self", "letter", "letters", "group"] ["self", "letter"] (defScope s_KeyReader_text_with) := ⟨rfl, rfl, rfl, by decide +kernel, rfl, by decide +kernel, by decide +kernel⟩
theorem sc_KeyReader_group_of : FnScope ["self", "place"] ["self", "place"] (defScope s_KeyReader_group_of) := ⟨rfl, rfl, rfl, by decide +kernel, rfl, by decide +kernel, by decide +kernel⟩
theorem sc_KeyReader_open_groups : FnScope ["self", "named", "key", "group"] ["self"] (defScope s_KeyReader_open_groups) := ⟨rfl, rfl, rfl, by decide +kernel, rfl, by decide +kernel, by decide +kernel⟩
theorem sc_Text_init : FnScope ["self", "steps", "step"] ["self", "steps"] (defScope sInit) := ⟨rfl, rfl, rfl, by decide +kernel, rfl, by decide +kernel, by decide +kernel⟩
theorem sc_Text_of_steps : FnScope ["cls", "steps"] ["cls", "steps"] (defScope sOf) := ⟨rfl, rfl, rfl, by decide +kernel, rfl, by decide +kernel, by decide +kernel⟩
theorem sc_Text_steps : FnScope ["self"] ["self"] (defScope sStepsP) := ⟨rfl, rfl, rfl, by decide +kernel, rfl, by decide +kernel, by decide +kernel⟩
theorem sc_Text_typed_keys : FnScope ["self"] ["self"] (defScope sTyped) := ⟨rfl, rfl, rfl, by decide +kernel, rfl, by decide +kernel, by decide +kernel⟩
theorem sc_Text_size : FnScope ["self"] ["self"] (defScope sSize) := ⟨rfl, rfl, rfl, by decide +kernel, rfl, by decide +kernel, by decide +kernel⟩
theorem sc_Text_call : FnScope ["self", "place"] ["self", "place"] (defScope sCall) := ⟨rfl, rfl, rfl, by decide +kernel, rfl, by decide +kernel, by decide +kernel⟩
theorem sc_Text_getitem : FnScope ["self", "at"] ["self", "at"] (defScope sGet) := ⟨rfl, rfl, rfl, by decide +kernel, rfl, by decide +kernel, by decide +kernel⟩
theorem sc_Text_check_place : FnScope ["self", "place"] ["self", "place"] (defScope sCheck) := ⟨rfl, rfl, rfl, by decide +kernel, rfl, by decide +kernel, by decide +kernel⟩
theorem sc_Text_iter : FnScope ["self"] ["self"] (defScope s_Text_iter) := ⟨rfl, rfl, rfl, by decide +kernel, rfl, by decide +kernel, by decide +kernel⟩
theorem sc_Text_contains : FnScope ["self", "x"] ["self", "x"] (defScope sHas) := ⟨rfl, rfl, rfl, by decide +kernel, rfl, by decide +kernel, by decide +kernel⟩
theorem sc_Text_eq : FnScope ["self", "other"] ["self", "other"] (defScope sEq) := ⟨rfl, rfl, rfl, by decide +kernel, rfl, by decide +kernel, by decide +kernel⟩
theorem sc_Text_add : FnScope ["self", "other", "moved", "steps", "step"] ["self", "other"] (defScope sAdd) := ⟨rfl, rfl, rfl, by decide +kernel, rfl, by decide +kernel, by decide +kernel⟩
theorem sc_Text_mul : FnScope ["self", "other", "steps"] ["self", "other"] (defScope sMul) := ⟨rfl, rfl, rfl, by decide +kernel, rfl, by decide +kernel, by decide +kernel⟩
theorem sc_Text_with_letters : FnScope ["self", "letters", "steps", "step", "span"] ["self", "letters"] (defScope sWith) := ⟨rfl, rfl, rfl, by decide +kernel, rfl, by decide +kernel, by decide +kernel⟩
end KL
namespace KL
open PySem PySem.Spec PyProof.Rows L2 Pk He
/-! ### what the top has written, as far as the core of the program asks -/
/-! ### checks -/
/-- flat values, their types -/
def tyF : V → String
  | .non => "NoneType"
  | .bl _ => "bool"
  | .int _ => "int"
  | .str _ => "str"
  | _ => ""
theorem tyF_ok {K : Fr} {H : Hp} {v : V} (h : flatV v = true) : TyX K H v (.type (tyF v)) := by
  cases v with
  | non => exact .base .non
  | bl b => exact .base (.bl b)
  | int i => exact .base (.int i)
  | str x => exact .base (.str x)
  | _ => cases h
def isNum : V → Int → Int → Bool
  | .int i, lo, hi => decide (lo ≤ i) && decide (i ≤ hi)
  | _, _, _ => false
def isLetV : V → Bool
  | .str z => (match z.cps.toList with
    | [c] => isLet c
    | _ => false)
  | _ => false
def isWordV : V → Bool
  | .str z => decide (1 ≤ z.length) && decide (z.length ≤ 20) && z.cps.toList.all isLet
  | _ => false
theorem letters_are : (PySem.Str.ofString "abcdefghijklmnopqrstuvwxyz").cps.toList = List.range' 97 26 := by decide +kernel
theorem mem_letters (c : Nat) : decide (c ∈ (PySem.Str.ofString "abcdefghijklmnopqrstuvwxyz").cps.toList) = isLet c := by
  rw [letters_are]
  unfold isLet
  rw [Bool.eq_iff_iff]
  simp only [decide_eq_true_eq, List.mem_range'_1, Bool.and_eq_true]
  omega
def spIsNumber : Sp := fun vs H Q _ => ∃ v lo hi, vs = [v, .int lo, .int hi] ∧ flatV v = true ∧ Q (.bl (isNum v lo hi)) H
/-- texts are not too long -/
def fitV : V → Prop
  | .str z => z.length ≤ sizeLine
  | _ => True
def spIsLetter : Sp := fun vs H Q _ => ∃ v, vs = [v] ∧ flatV v = true ∧ fitV v ∧ Q (.bl (isLetV v)) H
def spIsWord : Sp := fun vs H Q _ => ∃ v, vs = [v] ∧ flatV v = true ∧ fitV v ∧ ∀ H2, Same H H2 → Q (.bl (isWordV v)) H2
section
variable {P : Program} {w : World} {K : Fr} {mg : Str → Option Value} {base : Heap} {f : Addr}
theorem scIsNumber : FnScope ["value", "low", "high"] ["value", "low", "high"] (defScope sIsNumber) := ⟨rfl, rfl, rfl, by decide +kernel, rfl, by decide +kernel, by decide +kernel⟩
theorem ok_is_number (D : Df K "is_number" "is_number" sIsNumber f) (T : Tc w K mg) : Kp P w K mg base 1 f spIsNumber := by
  refine kp_of D scIsNumber (fun _ _ _ _ _ _ us hl => match us, hl with | [_, _, _], _ => rfl) ?_ (fun cdv A outer s H vs Q E hr h => ?_)
  · rintro vs H Q E ⟨v, lo, hi, rfl, _⟩
    rfl
  · obtain ⟨v, lo, hi, rfl, fl, q⟩ := h
    refine ⟨_, pss_one (ps_ret (pe_and (pe_isi (pv 0) T.isi T.int b_int) (pe_and (pe_not (pe_isi (pv 0) T.isi T.bool b_bool)) (pe_one (pe_chain op_le op_le (pv 1) (pv 0) (pv 2)))))), ?_⟩
    refine ⟨_, rfl, _, _, _, decide (tyF v = "int" ∨ tyF v = "bool"), rfl, tyF_ok fl, ?_, _, rfl, ?_⟩
    · cases v <;> first | rfl | cases fl
    cases v with
    | non => exact q
    | str x => exact q
    | bl b => exact ⟨_, rfl, _, _, _, true, rfl, tyF_ok (v := .bl b) rfl, rfl, _, rfl, _, rfl, q⟩
    | int i =>
      refine ⟨_, rfl, _, _, _, false, rfl, tyF_ok (v := .int i) rfl, rfl, _, rfl, _, rfl, ?_⟩
      refine ⟨_, rfl, _, rfl, _, _, rfl, rfl, _, rfl, ?_⟩
      have q1 : Q (.bl (decide (lo ≤ i) && decide (i ≤ hi))) H := q
      refine ite2 (fun h1 => ?_) fun h1 => ?_
      · rw [h1] at q1
        exact ⟨_, rfl, _, _, rfl, rfl, q1⟩
      · rw [Bool.eq_false_iff.mpr h1] at q1
        exact q1
    | _ => cases fl
theorem scIsLetter : FnScope ["value"] ["value"] (defScope sIsLetter) := ⟨rfl, rfl, rfl, by decide +kernel, rfl, by decide +kernel, by decide +kernel⟩
theorem one_sign {z : Str} (h : (z.length : Int) = 1) : ∃ c, z = ⟨#[c]⟩ ∧ z.cps.toList = [c] := by
  obtain ⟨⟨l⟩⟩ := z
  have h1 : l.length = 1 := by
    have : ((l.length : Nat) : Int) = 1 := h
    omega
  match l, h1 with
  | [c], _ => exact ⟨c, rfl, rfl⟩
theorem ok_is_letter (D : Df K "is_letter" "is_letter" sIsLetter f) (T : Tc w K mg) : Kp P w K mg base 1 f spIsLetter := by
  refine kp_of D scIsLetter (fun _ _ _ _ _ _ us hl => match us, hl with | [_], _ => rfl) ?_ (fun cdv A outer s H vs Q E hr h => ?_)
  · rintro vs H Q E ⟨v, rfl, _⟩
    rfl
  · obtain ⟨v, rfl, fl, ft, q⟩ := h
    obtain ⟨tl, hL⟩ := T.letters
    refine ⟨_, pss_one (ps_ret (pe_and (pe_isi (pv 0) T.isi T.str b_str) (pe_and (pe_cmpR op_eq (pk_b1 call_len_str T.len b_len (pv 0)) pe_int (nomark _)) (pe_one (pe_cmpR op_in_sign (pv 0) (pe_gS hL) rfl))))), ?_⟩
    refine ⟨_, rfl, _, _, _, decide (tyF v = "str"), rfl, tyF_ok fl, ?_, _, rfl, ?_⟩
    · cases v <;> first | rfl | cases fl
    cases v with
    | non => exact q
    | bl b => exact q
    | int i => exact q
    | str z =>
      refine ⟨_, rfl, _, rfl, ft, rfl, _, rfl, ?_⟩
      refine ite2 (fun h1 => ?_) fun h1 => ?_
      · obtain ⟨c, e1, e2⟩ := one_sign (z := z) (by simpa using h1)
        refine ⟨_, rfl, c, _, by rw [e1], rfl, ?_⟩
        rw [mem_letters]
        have e3 : isLetV (.str z) = isLet c := by
          show (match z.cps.toList with
            | [c] => isLet c
            | _ => false) = isLet c
          rw [e2]
        rw [← e3]
        exact q
      · have e3 : isLetV (.str z) = false := by
          show (match z.cps.toList with
            | [c] => isLet c
            | _ => false) = false
          split
          · rename_i c e
            exact absurd (by
              have : z.cps.size = 1 := by rw [← Array.length_toList, e]; rfl
              simp [Str.length, this]) h1
          · rfl
        rw [e3] at q
        have e4 : decide (V.int (z.length : Int) = V.int 1) = false := Bool.eq_false_iff.mpr h1
        show Q (.bl false) H
        exact q
    | _ => cases fl
theorem scIsWord : FnScope ["value", "sign"] ["value"] (defScope sIsWord) := ⟨rfl, rfl, rfl, by decide +kernel, rfl, by decide +kernel, by decide +kernel⟩
theorem ok_is_word (D : Df K "is_word" "is_word" sIsWord f) (T : Tc w K mg) : Kp P w K mg base 1 f spIsWord := by
  refine kp_of D scIsWord (fun _ _ _ _ _ _ us hl => match us, hl with | [_], _ => rfl) ?_ (fun cdv A outer s H vs Q E hr h => ?_)
  · rintro vs H Q E ⟨v, rfl, _⟩
    rfl
  · obtain ⟨v, rfl, fl, ft, q⟩ := h
    obtain ⟨tl, hL⟩ := T.letters
    obtain ⟨tw, hW⟩ := T.longest
    refine ⟨_, pss_cons (ps_if (pw_or (pt_not (pt_val (pe_isi (pv 0) T.isi T.str b_str))) (pw_or1 (pt_not (pt_chain op_le op_le pe_int (pk_b1 call_len_str T.len b_len (pv 0)) (pe_gI hW))))).pt (pss_one (ps_ret pe_bl)) pss_nil)
      (pss_one (ps_ret (pk_b1 (cr_all rfl) T.all b_all (pe_lc (own := [("sign", 1)]) (g := gName 1) (tt := tYes) rfl scIsWord.nd (pi_str (pv 0)) (blkOk_by (N := ["value", "sign"]) (sc := defScope sIsWord) (by decide +kernel)) (fun _ _ _ _ _ => pg_name (i := 1) scIsWord.nd rfl (Or.inl rfl)) (fun _ _ _ _ _ => pts_nil)
        (fun _ _ _ _ _ => pe_cmpR op_in_sign (pv 1) (pe_gS hL) rfl))))), ?_⟩
    have two : ∀ b : Bool, b = isWordV v → ∀ H2, Same H H2 → Q (.bl b) H2 := fun b e => by rw [e]; exact q
    refine ⟨_, rfl, _, _, _, decide (tyF v = "str"), rfl, tyF_ok fl, ?_, _, rfl, ?_⟩
    · cases v <;> first | rfl | cases fl
    cases v with
    | non => exact q H (Same.refl H)
    | bl b => exact q H (Same.refl H)
    | int i => exact q H (Same.refl H)
    | str z =>
      refine iteF ?_
      refine ⟨_, rfl, _, rfl, ft, _, _, rfl, rfl, _, rfl, ?_⟩
      refine ite2 (fun h1 => ?_) fun h1 => ?_
      · refine ⟨_, _, rfl, rfl, _, rfl, ?_⟩
        refine ite2 (fun h2 => ?_) fun h2 => ?_
        · refine two false ?_ H (Same.refl H)
          have h3 : ¬ (z.length ≤ 20) := by
            intro h4
            have h5 : decide ((z.length : Int) ≤ 20) = true := decide_eq_true (by omega)
            rw [h5] at h2
            cases h2
          show false = (decide (1 ≤ z.length) && decide (z.length ≤ 20) && z.cps.toList.all isLet)
          rw [decide_eq_false h3]
          simp
        · have h3 : z.length ≤ 20 := by
            rcases Nat.lt_or_ge 20 z.length with h4 | h4
            · have h5 : decide ((z.length : Int) ≤ 20) = false := decide_eq_false (by omega)
              rw [h5] at h2
              exact absurd rfl h2
            · exact h4
          have h0 : 1 ≤ z.length := by
            have := of_decide_eq_true h1
            omega
          refine ⟨_, rfl, _, rfl, fun D hD => ?_⟩
          refine lc_map walk_str hD (fun i => .bl (isLet (z.cps.getD i 0))) (Nat.le_trans (show z.cps.size ≤ 20 from h3) (by decide)) (fun _ _ => trivial) ?_ ?_
          · rintro i x H3 H4 N hi s3 ⟨e4, c, ec, ex⟩ hN
            subst e4 ex
            refine ⟨rfl, _, rfl, c, _, rfl, rfl, ?_⟩
            rw [mem_letters]
            have e5 : z.cps.getD i 0 = c := by
              rw [Array.getD_eq_getD_getElem?, ec]
              rfl
            rw [← e5]
            exact hN _ (Same.refl _)
          · intro H3 s3 h3D
            refine ⟨D, (List.range z.cps.size).map fun i => isLet (z.cps.getD i 0), rfl, SqL.of (by rw [List.map_map]; exact h3D), ?_⟩
            refine two _ ?_ _ s3
            show _ = (decide (1 ≤ z.length) && decide (z.length ≤ 20) && z.cps.toList.all isLet)
            rw [decide_eq_true h0, decide_eq_true h3]
            have e6 : (List.range z.cps.size).map (fun i => isLet (z.cps.getD i 0)) = z.cps.toList.map isLet := by
              apply List.ext_getElem
              · simp
              · intro i h7 h8
                simp at h7
                simp [h7]
            rw [e6, List.all_map]
            rfl
      · refine ⟨_, rfl, ?_⟩
        refine two false ?_ H (Same.refl H)
        have h3 : ¬ (1 ≤ z.length) := fun h4 => h1 (decide_eq_true (by omega))
        show false = (decide (1 ≤ z.length) && decide (z.length ≤ 20) && z.cps.toList.all isLet)
        rw [decide_eq_false h3]
        rfl
    | _ => cases fl
end
end KL
namespace KL
open PySem PySem.Spec PyProof.Rows L2 Pk He
theorem sqT_ty {K : Fr} {H : Hp} {a : Addr} {xs : List V} (h : SqT K H a xs) : TyX K H (.ref a) (.type "tuple") := by
  rcases h with (h | ⟨o, h⟩) | ⟨o, its, n, h1, h2, _⟩
  · exact .base (.tup h)
  · exact .fTuple h
  · exact .kTuple h1 h2
def numAfter (b c : V) (s : Int) : Bool := match b with
  | .int i => isNum c i s
  | _ => false
def isStepT (xs : List V) (s : Int) : Bool := match xs with
  | [a, b] => decide (a = .str "write") && isWordV b
  | [a, b, c, d] => decide (a = .str "paste") && (isNum b 0 (s - 1) && numAfter b c (s - 1) && isNum d 1 1000000000)
  | _ => false
/-- what may be asked whether it is a step -/
def StepArg (K : Fr) (H : Hp) (v : V) (s : Int) (r : Bool) : Prop :=
  (flatV v = true ∧ r = false) ∨ (TyX K H v (.type "list") ∧ r = false) ∨
  ∃ a xs, v = .ref a ∧ SqT K H a xs ∧ xs.all flatV = true ∧ (∀ x ∈ xs, fitV x) ∧ (∀ x, xs[0]? = some x → ∃ z, x = .str z) ∧ r = isStepT xs s
def spIsStep (K : Fr) : Sp := fun vs H Q _ => ∃ v s r, vs = [v, .int s] ∧ StepArg K H v s r ∧ ∀ H2, Same H H2 → Q (.bl r) H2
section
variable {P : Program} {w : World} {K : Fr} {mg : Str → Option Value} {base : Heap} {f : Addr}
theorem scIsStep : FnScope ["value", "size", "first", "last", "times"] ["value", "size"] (defScope sIsStep) := ⟨rfl, rfl, rfl, by decide +kernel, rfl, by decide +kernel, by decide +kernel⟩
theorem ok_is_step (D : Df K "is_step" "is_step" sIsStep f) (T : Tc w K mg) (GW : Kp P w K mg base 1 (ga K "is_word") spIsWord) (GN : Kp P w K mg base 1 (ga K "is_number") spIsNumber) : Kp P w K mg base 2 f (spIsStep K) := by
  refine kp_of D scIsStep (fun _ _ _ _ _ _ us hl => match us, hl with | [_, _], _ => rfl) ?_ (fun cdv A outer s H vs Q E hr h => ?_)
  · rintro vs H Q E ⟨v, s, r, rfl, _⟩
    rfl
  · obtain ⟨v, sz, r, rfl, arg, q⟩ := h
    obtain ⟨tm, hM⟩ := T.mostTimes
    refine ⟨_, pss_cons (ps_if (pt_not (pt_val (pe_isi (pv 0) T.isi T.tup b_tuple))) (pss_one (ps_ret pe_bl)) pss_nil)
      (pss_cons (ps_if (pt_cmpR op_eq (pk_b1 call_len_seq T.len b_len (pv 0)) pe_int (nomark _)) (pss_one (ps_ret (pe_and (pe_cmpR op_eq (pe_ix ix_tup (pv 0) pe_int (fun _ _ => rfl)) pe_str (nomark _)) (pe_one (pk_call GW hr T.gIsWord (pa_cons (pe_ix ix_tup (pv 0) pe_int (fun _ _ => rfl)) pa_nil)))))) pss_nil)
      (pss_cons (ps_if (pw_or (pt_cmpR op_ne (pk_b1 call_len_seq T.len b_len (pv 0)) pe_int (nomark _)) (pw_or1 (pt_cmpR op_ne (pe_ix ix_tup (pv 0) pe_int (fun _ _ => rfl)) pe_str (nomark _)))).pt (pss_one (ps_ret pe_bl)) pss_nil)
      (pss_cons (ps_asg (pe_slice sl_tup (pv 0) (po_some pe_int) po_none) (pg_tup rfl (pgs_cons (pg_name (i := 2) scIsStep.nd rfl (Or.inl rfl)) (pgs_cons (pg_name (i := 3) scIsStep.nd rfl (Or.inl rfl)) (pgs_cons (pg_name (i := 4) scIsStep.nd rfl (Or.inl rfl)) pgs_nil)))))
      (pss_one (ps_ret (pe_and (pk_call GN hr T.gIsNumber (pa_cons (pv 2) (pa_cons pe_int (pa_cons (pe_op op_sub (pv 1) pe_int) pa_nil)))) (pe_and (pk_call GN hr T.gIsNumber (pa_cons (pv 3) (pa_cons (pv 2) (pa_cons (pe_op op_sub (pv 1) pe_int) pa_nil))))
        (pe_one (pk_call GN hr T.gIsNumber (pa_cons (pv 4) (pa_cons pe_int (pa_cons (pe_gI hM) pa_nil)))))))))))), ?_⟩
    rcases arg with ⟨fl, e⟩ | ⟨ty, e⟩ | ⟨a, xs, rfl, hx, flx, ftx, hd, e⟩
    · subst e
      exact ⟨_, rfl, v, "tuple", tyF v, false, rfl, tyF_ok fl, (by cases v <;> first | rfl | cases fl), false, rfl, q H (Same.refl H)⟩
    · subst e
      exact ⟨_, rfl, v, "tuple", "list", false, rfl, ty, rfl, false, rfl, q H (Same.refl H)⟩
    · subst e
      have ty := sqT_ty hx
      have one : ∀ (i : Nat) (x : V), xs[i]? = some x → atI xs (i : Int) = some x := fun i x e => atI_nat e
      have flat : ∀ x ∈ xs, flatV x = true := fun x hx => List.all_eq_true.mp flx x hx
      refine ⟨_, rfl, _, _, _, true, rfl, ty, rfl, _, rfl, ?_⟩
      refine iteF ?_
      refine ⟨_, rfl, a, xs, rfl, .inr hx, rfl, _, rfl, ?_⟩
      match xs, hx, ftx, hd, q, one, flat with
      | [], hx, ftx, hd, q, one, flat =>
        refine iteF ?_
        refine ⟨_, rfl, a, [], rfl, .inr hx, rfl, _, rfl, ?_⟩
        exact q H (Same.refl H)
      | [x0], hx, ftx, hd, q, one, flat =>
        refine iteF ?_
        refine ⟨_, rfl, a, [x0], rfl, .inr hx, rfl, _, rfl, ?_⟩
        exact q H (Same.refl H)
      | [x0, x1], hx, ftx, hd, q, one, flat =>
        obtain ⟨z, ez⟩ := hd x0 rfl
        subst ez
        refine iteT ?_
        refine ⟨_, rfl, a, _, _, _, rfl, rfl, hx, one 0 _ rfl, rfl, _, rfl, ?_⟩
        refine ite2 (fun h1 => ?_) fun h1 => ?_
        · refine ⟨_, rfl, a, _, _, _, rfl, rfl, hx, one 1 _ rfl, x1, rfl, flat x1 (by simp), ftx x1 (by simp), fun H2 s2 => ?_⟩
          have e : isStepT [.str z, x1] sz = isWordV x1 := by
            show (decide (V.str z = V.str "write") && isWordV x1) = _
            rw [h1, Bool.true_and]
          rw [← e]
          exact q H2 s2
        · have e : isStepT [.str z, x1] sz = false := by
            show (decide (V.str z = V.str "write") && isWordV x1) = _
            rw [Bool.eq_false_iff.mpr h1, Bool.false_and]
          rw [e] at q
          exact q H (Same.refl H)
      | [x0, x1, x2], hx, ftx, hd, q, one, flat =>
        refine iteF ?_
        refine ⟨_, rfl, a, [x0, x1, x2], rfl, .inr hx, rfl, _, rfl, ?_⟩
        exact q H (Same.refl H)
      | [x0, x1, x2, x3], hx, ftx, hd, q, one, flat =>
        obtain ⟨z, ez⟩ := hd x0 rfl
        subst ez
        refine iteF ?_
        refine ⟨_, rfl, a, _, rfl, .inr hx, rfl, _, rfl, ?_⟩
        refine iteF ?_
        refine ⟨_, rfl, a, _, _, _, rfl, rfl, hx, one 0 _ rfl, rfl, _, rfl, ?_⟩
        have e : isStepT [.str z, x1, x2, x3] sz = (decide (V.str z = V.str "paste") && (isNum x1 0 (sz - 1) && numAfter x1 x2 (sz - 1) && isNum x3 1 1000000000)) := rfl
        rw [e] at q
        by_cases h1 : V.str z = V.str "paste"
        · rw [decide_eq_true h1, Bool.true_and] at q
          have h2 : (!decide (V.str z = V.str "paste")) = false := by rw [decide_eq_true h1]; rfl
          rw [h2]
          refine iteF ?_
          refine ⟨_, rfl, 1, rfl, a, _, rfl, hx, fun z => absurd z.1 (show ¬ ((1 : Nat) = 0) by decide), fun p hp => ?_⟩
          have hp2 : upd H p (.tup [x1, x2, x3]) p = some (.tup [x1, x2, x3]) := upd_same
          refine ⟨p, _, rfl, .inl (.inl hp2), rfl, _, _, rfl, _, _, rfl, _, _, rfl, rfl, ?_⟩
          refine ⟨_, rfl, _, rfl, _, _, rfl, rfl, x1, 0, _, rfl, flat x1 (by simp), _, rfl, ?_⟩
          cases hb : isNum x1 0 (sz - 1) with
          | false =>
            rw [hb] at q
            exact q _ (same_upd hp)
          | true =>
            rw [hb] at q
            cases x1 with
            | int i1 =>
              refine ⟨_, rfl, _, rfl, _, rfl, _, _, rfl, rfl, x2, _, _, rfl, flat x2 (by simp), _, rfl, ?_⟩
              have q1 : ∀ H2, Same H H2 → Q (.bl (isNum x2 i1 (sz - 1) && isNum x3 1 1000000000)) H2 := q
              cases hc : isNum x2 i1 (sz - 1) with
              | false =>
                rw [hc] at q1
                exact q1 _ (same_upd hp)
              | true =>
                rw [hc] at q1
                have q := q1
                exact ⟨_, rfl, x3, 1, _, rfl, flat x3 (by simp), q _ (same_upd hp)⟩
            | _ => cases hb
        · rw [decide_eq_false h1, Bool.false_and] at q
          have h2 : (!decide (V.str z = V.str "paste")) = true := by rw [decide_eq_false h1]; rfl
          rw [h2]
          exact q H (Same.refl H)
      | x0 :: x1 :: x2 :: x3 :: x4 :: r, hx, ftx, hd, q, one, flat =>
        have h2 : decide (V.int ((x0 :: x1 :: x2 :: x3 :: x4 :: r).length : Int) = V.int 2) = false := decide_eq_false (fun z => by injection z with z; simp at z; omega)
        rw [h2]
        refine iteF ?_
        refine ⟨_, rfl, a, _, rfl, .inr hx, rfl, _, rfl, ?_⟩
        have h4 : (!decide (V.int ((x0 :: x1 :: x2 :: x3 :: x4 :: r).length : Int) = V.int 4)) = true := by
          rw [decide_eq_false (fun z => by injection z with z; simp at z; omega)]
          rfl
        rw [h4]
        exact q H (Same.refl H)
end
end KL
namespace KL
open PySem PySem.Spec PyProof.Rows L2 Pk He
theorem putF_new {f : Str} {v : V} : ∀ {fs : List (Str × V)} {ns : List Str}, fs.map (·.1) = ns → (ns.all fun g => decide (g ≠ f)) = true → putF f v fs = fs ++ [(f, v)]
  | [], _, _, _ => rfl
  | (g, x) :: r, _, e, h => by
    subst e
    have h1 := Bool.and_eq_true_iff.mp (show (decide (g ≠ f) && (r.map (·.1)).all fun g => decide (g ≠ f)) = true from h)
    show (if g = f then (g, v) :: r else (g, x) :: putF f v r) = _
    rw [if_neg (of_decide_eq_true h1.1), putF_new rfl h1.2]
    rfl
def fresh5 (b e k s w : V) : List (Str × V) := [("begin", b), ("end", e), ("key", k), ("source", s), ("width", w)]
def spSpanInit (C : Addr) : Sp := fun vs H Q _ => ∃ p dx b e k s w, vs = [.ref p, b, e, k, s, w] ∧ H p = some (.ins C dx []) ∧ Q .non (upd H p (.ins C dx (fresh5 b e k s w)))
def spSpanOf (K : Fr) : Sp := fun vs H Q _ => ∃ (a : Addr) (x : Stp) (s n : Nat), vs = [.ref a, .int s, .int n] ∧ SqT K H a (stV x) ∧ x.ok s = true ∧ ∀ p dx H2, H p = none → Same H H2 → H2 p = some (.ins (CS K) dx (spF x s n)) → Q (.ref p) H2
section
variable {P : Program} {w : World} {K : Fr} {mg : Str → Option Value} {base : Heap} {f : Addr}
theorem scSpanInit : FnScope ["self", "begin", "end", "key", "source", "width"] ["self", "begin", "end", "key", "source", "width"] (defScope sSpanInit) := ⟨rfl, rfl, rfl, by decide +kernel, rfl, by decide +kernel, by decide +kernel⟩
theorem ok_span_init (D : Df K "__init__" "Span.__init__" sSpanInit f) (T : Tc w K mg) : Kp P w K mg base 1 f (spSpanInit (CS K)) := by
  refine kp_of D scSpanInit (fun _ _ _ _ _ _ us hl => match us, hl with | [_, _, _, _, _, _], _ => rfl) ?_ (fun cdv A outer s H vs Q E hr h => ?_)
  · rintro vs H Q E ⟨p, dx, b, e, k, s, w, rfl, _⟩
    rfl
  · obtain ⟨p, dx, b, e, k, sr, wd, rfl, hp, q⟩ := h
    refine ⟨_, pss_cons (ps_fld (pv 0) (pv 1) rfl) (pss_cons (ps_fld (pv 0) (pv 2) rfl) (pss_cons (ps_fld (pv 0) (pv 3) rfl) (pss_cons (ps_fld (pv 0) (pv 4) rfl) (pss_one (ps_fld (pv 0) (pv 5) rfl))))), ?_⟩
    refine ⟨_, rfl, _, rfl, p, _, dx, _, rfl, hp, T.clS, T.nS1, (by decide), ?_⟩
    have e1 : putF "begin" b ([] : List (Str × V)) = [(("begin" : Str), b)] := rfl
    rw [e1]
    refine ⟨_, rfl, _, rfl, p, _, dx, _, rfl, upd_same, T.clS, T.nS2, (by show 1 < 1000; decide), ?_⟩
    rw [putF_new (f := "end") (ns := ["begin"]) rfl (by decide +kernel), upd_upd]
    refine ⟨_, rfl, _, rfl, p, _, dx, _, rfl, upd_same, T.clS, T.nS3, (by show 2 < 1000; decide), ?_⟩
    rw [putF_new (f := "key") (ns := ["begin", "end"]) rfl (by decide +kernel), upd_upd]
    refine ⟨_, rfl, _, rfl, p, _, dx, _, rfl, upd_same, T.clS, T.nS4, (by show 3 < 1000; decide), ?_⟩
    rw [putF_new (f := "source") (ns := ["begin", "end", "key"]) rfl (by decide +kernel), upd_upd]
    refine ⟨_, rfl, _, rfl, p, _, dx, _, rfl, upd_same, T.clS, T.nS5, (by show 4 < 1000; decide), ?_⟩
    rw [putF_new (f := "width") (ns := ["begin", "end", "key", "source"]) rfl (by decide +kernel), upd_upd]
    exact q
theorem scSpanOf : FnScope ["step", "begin", "key", "width"] ["step", "begin", "key"] (defScope sSpanOf) := ⟨rfl, rfl, rfl, by decide +kernel, rfl, by decide +kernel, by decide +kernel⟩
theorem wr_ne_pa : (V.str "write") ≠ V.str "paste" := by decide +kernel
theorem ok_span_of (D : Df K "span_of" "span_of" sSpanOf f) (T : Tc w K mg) (GI : Kp P w K mg base 1 (ma K (CS K) "__init__") (spSpanInit (CS K))) : Kp P w K mg base 3 f (spSpanOf K) := by
  refine kp_of D scSpanOf (fun _ _ _ _ _ _ us hl => match us, hl with | [_, _, _], _ => rfl) ?_ (fun cdv A outer s H vs Q E hr h => ?_)
  · rintro vs H Q E ⟨a, x, s, n, rfl, _⟩
    rfl
  · obtain ⟨a, x, s0, n, rfl, hx, ok, q⟩ := h
    refine ⟨_, pss_cons (ps_if (pt_cmpR op_eq (pe_ix ix_tup (pv 0) pe_int (fun _ _ => rfl)) pe_str (nomark _))
        (pss_one (ps_ret (StX.pe_makeR T.mkS GI.fnR hr rfl T.gSpan pass0 (pa_cons (pv 1) (pa_cons (pe_op op_add (pv 1) (pk_b1 call_len_str T.len b_len (pe_ix ix_tup (pv 0) pe_int (fun _ _ => rfl)))) (pa_cons (pv 2) (pa_cons pe_int (pa_cons pe_int pa_nil)))))))) pss_nil)
      (pss_cons (ps_set (i := 3) scSpanOf.nd rfl (Or.inl rfl) (pe_op op_add (pe_op op_sub (pe_ix ix_tup (pv 0) pe_int (fun _ _ => rfl)) (pe_ix ix_tup (pv 0) pe_int (fun _ _ => rfl))) pe_int))
      (pss_one (ps_ret (StX.pe_makeR T.mkS GI.fnR hr rfl T.gSpan pass0 (pa_cons (pv 1) (pa_cons (pe_op op_add (pv 1) (pe_op op_mul (pv 3) (pe_ix ix_tup (pv 0) pe_int (fun _ _ => rfl)))) (pa_cons pe_non (pa_cons (pe_ix ix_tup (pv 0) pe_int (fun _ _ => rfl)) (pa_cons (pv 3) pa_nil))))))))), ?_⟩
    have fin : ∀ (H1 : Hp) (p dx : Addr) (e k sr wd : V), Same H H1 → H1 p = none → H1 dx = none → dx ≠ p → fresh5 (.int s0) e k sr wd = spF x s0 n →
        Q (.ref p) (upd (upd (upd H1 dx (.own p)) p (.ins (CS K) dx [])) p (.ins (CS K) dx (fresh5 (.int s0) e k sr wd))) := by
      intro H1 p dx e k sr wd s1 hp hdx hne ee
      rw [upd_upd]
      refine q p dx _ (s1.free hp) (s1.trans ((same_upd hdx).trans (same_upd ?_))) (by rw [upd_same, ee])
      rw [upd_ne hne.symm]
      exact hp
    cases x with
    | wr w =>
      have hl : (sL w).length ≤ sizeLine := by
        rw [sL_len]
        simp [Stp.ok] at ok
        exact Nat.le_trans ok.1.2 (by decide)
      refine ⟨_, rfl, a, _, _, _, rfl, rfl, hx, atI_nat (j := 0) rfl, rfl, _, rfl, ?_⟩
      refine iteT ?_
      refine ⟨_, rfl, _, rfl, _, rfl, a, _, _, _, rfl, rfl, hx, atI_nat (j := 1) rfl, _, rfl, hl, _, _, rfl, rfl, _, rfl, fun p dx hp hdx hne => ?_⟩
      refine ⟨p, dx, _, _, _, _, _, rfl, upd_same, rfl, ?_⟩
      refine fin H p dx _ _ _ _ (Same.refl H) hp hdx hne ?_
      rw [sL_len]
      rfl
    | pa f0 l t =>
      simp [Stp.ok] at ok
      have hb : decide (V.str "paste" = V.str "write") = false := decide_eq_false wr_ne_pa.symm
      refine ⟨_, rfl, a, _, _, _, rfl, rfl, hx, atI_nat (j := 0) rfl, rfl, _, rfl, ?_⟩
      rw [hb]
      refine iteF ?_
      refine ⟨_, rfl, a, _, _, _, rfl, rfl, hx, atI_nat (j := 2) rfl, _, rfl, a, _, _, _, rfl, rfl, hx, atI_nat (j := 1) rfl, _, _, rfl, rfl, _, _, rfl, rfl, ?_⟩
      have ew : ((l : Int) - (f0 : Int) + 1) = ((l + 1 - f0 : Nat) : Int) := by omega
      rw [show ((fun i j : Int => V.int (i + j)) ((l : Int) - (f0 : Int)) 1) = V.int ((l + 1 - f0 : Nat) : Int) from congrArg V.int ew]
      refine ⟨_, rfl, _, rfl, _, rfl, _, rfl, a, _, _, _, rfl, rfl, hx, atI_nat (j := 3) rfl, _, _, rfl, rfl, .inr ⟨by omega, by omega⟩, _, _, rfl, rfl, _, rfl, a, _, _, _, rfl, rfl, hx, atI_nat (j := 1) rfl, _, rfl, fun p dx hp hdx hne => ?_⟩
      refine ⟨p, dx, _, _, _, _, _, rfl, upd_same, rfl, ?_⟩
      refine fin H p dx _ _ _ _ (Same.refl H) hp hdx hne ?_
      show fresh5 _ _ _ _ _ = [_, _, _, _, _]
      rw [← Int.natCast_mul]
      rfl
end
end KL
namespace KL
open PySem PySem.Spec PyProof.Rows L2 Pk He
theorem map_at {as : List Addr} {i : Nat} {a : Addr} {y : V} (ha : as[i]? = some a) (e : (as.map V.ref)[i]? = some y) : y = .ref a := by
  rw [List.getElem?_map, ha] at e
  exact (Option.some.inj e).symm
def spSpansOf (K : Fr) : Sp := fun vs H Q _ => ∃ (ts : Addr) (as : List Addr) (st : List Stp), vs = [.ref ts, .int most] ∧ SqT K H ts (as.map V.ref) ∧ StepsAt K H as st ∧ Goes most 0 st ∧ st.length ≤ 30 ∧
  ∀ p ss H2, Same H H2 → SqT K H2 p (ss.map V.ref) → SpansAt (CS K) H2 ss st → Q (.ref p) H2
theorem stepArg_of {K : Fr} {H : Hp} {a : Addr} {x : Stp} {s : Nat} (hx : SqT K H a (stV x)) (ok : x.ok s = true) : StepArg K H (.ref a) (s : Int) true := by
  refine .inr (.inr ⟨a, stV x, rfl, hx, by cases x <;> rfl, ?_, ?_, ?_⟩)
  · cases x with
    | wr w =>
      simp [Stp.ok] at ok
      intro v hv
      have hv2 : v = .str "write" ∨ v = .str (sL w) := by simpa [stV] using hv
      rcases hv2 with rfl | rfl
      · show (Str.ofString "write").length ≤ sizeLine
        decide +kernel
      · show (sL w).length ≤ sizeLine
        rw [sL_len]
        exact Nat.le_trans ok.1.2 (by decide)
    | pa f l t =>
      intro v hv
      have hv2 : v = .str "paste" ∨ v = .int f ∨ v = .int l ∨ v = .int t := by simpa [stV] using hv
      rcases hv2 with rfl | rfl | rfl | rfl
      · show (Str.ofString "paste").length ≤ sizeLine
        decide +kernel
      all_goals trivial
  · cases x <;> (intro v hv; exact ⟨_, (Option.some.inj hv).symm⟩)
  · cases x with
    | wr w =>
      simp [Stp.ok] at ok
      show true = (decide (V.str "write" = V.str "write") && (decide (1 ≤ (sL w).length) && decide ((sL w).length ≤ 20) && (sL w).cps.toList.all isLet))
      rw [sL_len, decide_eq_true rfl, decide_eq_true ok.1.1, decide_eq_true ok.1.2]
      symm
      simpa [sL] using ok.2
    | pa f l t =>
      simp [Stp.ok] at ok
      show true = (decide (V.str "paste" = V.str "paste") && ((decide ((0 : Int) ≤ f) && decide ((f : Int) ≤ s - 1)) && (decide ((f : Int) ≤ l) && decide ((l : Int) ≤ s - 1)) && (decide ((1 : Int) ≤ t) && decide ((t : Int) ≤ 1000000000))))
      rw [decide_eq_true rfl, decide_eq_true (show (0 : Int) ≤ f by omega), decide_eq_true (show (f : Int) ≤ s - 1 by omega), decide_eq_true (show (f : Int) ≤ l by omega), decide_eq_true (show (l : Int) ≤ s - 1 by omega), decide_eq_true (show (1 : Int) ≤ t by omega), decide_eq_true (show (t : Int) ≤ 1000000000 by omega)]
      rfl
theorem spF_end (x : Stp) (s n : Nat) : (spF x s n).lookup ("end" : Str) = some (.int (s + x.gr : Nat)) := by
  cases x <;> rfl
theorem spF_begin (x : Stp) (s n : Nat) : (spF x s n).lookup ("begin" : Str) = some (.int s) := by
  cases x <;> rfl
def keyV (x : Stp) (n : Nat) : V := match x with
  | .wr _ => .int n
  | .pa _ _ _ => .non
theorem spF_key (x : Stp) (s n : Nat) : (spF x s n).lookup ("key" : Str) = some (keyV x n) := by
  cases x <;> rfl
section
variable {P : Program} {w : World} {K : Fr} {mg : Str → Option Value} {base : Heap} {f : Addr}
abbrev nSpansOf : List Str := ["steps", "max_size", "spans", "size", "key", "index", "step", "span"]
theorem scSpansOf : FnScope nSpansOf ["steps", "max_size"] (defScope sSpansOf) := ⟨rfl, rfl, rfl, by decide +kernel, rfl, by decide +kernel, by decide +kernel⟩
theorem ok_spans_of (D : Df K "spans_of" "spans_of" sSpansOf f) (T : Tc w K mg) (GS : Kp P w K mg base 2 (ga K "is_step") (spIsStep K)) (GO : Kp P w K mg base 3 (ga K "span_of") (spSpanOf K)) : Kp P w K mg base 4 f (spSpansOf K) := by
  refine kp_of D scSpansOf (fun _ _ _ _ _ _ us hl => match us, hl with | [_, _], _ => rfl) ?_ (fun cdv A outer s H vs Q E hr h => ?_)
  · rintro vs H Q E ⟨ts, as, st, rfl, _⟩
    rfl
  · obtain ⟨ts, as, st, rfl, hts, hst, good, few, q⟩ := h
    obtain ⟨tk, hMS⟩ := T.mostSteps
    refine ⟨_, (pss_cons (ps_set (i := 2) scSpansOf.nd rfl (Or.inl rfl) (pe_lst pa_nil)) (pss_cons (ps_set (i := 3) scSpansOf.nd rfl (Or.inl rfl) pe_int) (pss_cons (ps_set (i := 4) scSpansOf.nd rfl (Or.inl rfl) pe_int) (pss_cons (ps_for PassesOwn.never rfl (pi_enumT (by rfl) T.enu (pa_cons (pv 0) pa_nil)) (pg_tup rfl (pgs_cons (pg_name (i := 5) scSpansOf.nd rfl (Or.inl rfl)) (pgs_cons (pg_name (i := 6) scSpansOf.nd rfl (Or.inl rfl)) pgs_nil))) (pss_cons (ps_if (pw_or (pt_cmpR op_ge (pv 5) (pe_gI hMS) (nomark _)) (pw_or1 (pt_not (pt_val (pk_call GS (hr.mono (by decide)) T.gIsStep (pa_cons (pv 6) (pa_cons (pv 3) pa_nil))))))).pt pss_never pss_nil) (pss_cons (ps_set (i := 7) scSpansOf.nd rfl (Or.inl rfl) (pk_call GO hr T.gSpanOf (pa_cons (pv 6) (pa_cons (pv 3) (pa_cons (pv 4) pa_nil))))) (pss_cons (ps_if (pt_cmpR op_gt (pe_fld (pv 7) rfl) (pv 1) (nomark _)) pss_never pss_nil) (pss_cons (ps_if (pt_cmp (pc_notN (pe_fld (pv 7) rfl))) (pss_one (ps_set (i := 4) scSpansOf.nd rfl (Or.inl rfl) (pe_op op_sub (pe_op op_add (pv 4) (pe_fld (pv 7) rfl)) (pe_fld (pv 7) rfl)))) pss_nil) (pss_cons (ps_set (i := 3) scSpansOf.nd rfl (Or.inl rfl) (pe_fld (pv 7) rfl)) (pss_one (ps_expr (pe_bm PySem.F.plainAttrs_list PySem.F.slot_list_append PySem.F.type_list_append mt_append (pv 2) (pa_cons (pv 7) pa_nil)))))))))) (pss_one (ps_ret (pk_t1 call_tuple_of T.tup b_tuple (pv 2)))))))), ?_⟩
    refine ⟨Nat.zero_le _, fun L hL => ?_⟩
    have s1 : Same H (upd H L (.lst [])) := same_upd hL
    refine ⟨_, rfl, ts, as.map V.ref, rfl, same_sqT s1 hts, ?_⟩
    have hn : (as.map V.ref).length = st.length := by rw [List.length_map, hst.len]
    refine for_it (walk_enumT (xs := as.map V.ref)) (fun i σ H2 => ∃ (ss : List Addr) (v5 v6 v7 : Option V), σ = [some (.ref ts), some (.int most), some (.ref L), some (.int (sz (st.take i))), some (.int (nk (st.take i))), v5, v6, v7] ∧
      Same H H2 ∧ H2 L = some (.lst (ss.map V.ref)) ∧ SpansAt (CS K) H2 ss (st.take i)) ⟨[], none, none, none, rfl, s1, upd_same, SpansAt.nil⟩ ?_ ?_ ?_
    · rintro i σ H2 _ ⟨ss, v5, v6, v7, _, s2, _⟩
      exact same_sqT s2 hts
    · rintro i v σ H2 H3 hi ⟨ss, v5, v6, v7, rfl, s2, hL2, sp⟩ ⟨TT, x0, y0, rfl, hT, rfl, e0, e1⟩
      rw [hn] at hi
      obtain ⟨x, hx⟩ : ∃ x, st[i]? = some x := ⟨st[i], List.getElem?_eq_getElem hi⟩
      obtain ⟨a, ha, hst2⟩ := hst.at_ i x hx
      obtain ⟨ok, lim⟩ := goes_at good hx
      have ex0 : x0 = .int (i : Nat) := (Option.some.inj e0).symm
      have ey0 : y0 = .ref a := map_at ha e1
      subst ex0 ey0
      have s3 := s2.trans (same_upd (o := .tup [.int (i : Nat), .ref a]) hT)
      refine ⟨TT, [.int (i : Nat), .ref a], rfl, .inl (.inl upd_same), rfl, _, _, rfl, _, _, rfl, rfl, ?_⟩
      have hi30 : i < 30 := by omega
      refine ⟨_, rfl, _, _, rfl, rfl, _, rfl, ?_⟩
      refine ite2 (fun h => absurd (of_decide_eq_true h) (by omega)) fun _ => ?_
      refine ⟨_, rfl, _, rfl, _, _, true, rfl, stepArg_of (same_sqT s3 hst2) ok, fun H4 s4 => ⟨true, rfl, ?_⟩⟩
      refine iteF ?_
      have s34 := s3.trans s4
      refine ⟨_, rfl, _, rfl, _, rfl, a, x, _, _, rfl, same_sqT s34 hst2, ok, fun p dx H5 hp s5 e5 => ?_⟩
      have s25 : Same H2 H5 := (same_upd (o := .tup [.int (i : Nat), .ref a]) hT).trans (s4.trans s5)
      refine ⟨_, rfl, p, _, dx, _, _, rfl, e5, T.clS, T.nS2, spF_end _ _ _, _, rfl, _, _, rfl, rfl, _, rfl, ?_⟩
      refine ite2 (fun h => absurd (of_decide_eq_true h) (by omega)) fun _ => ?_
      refine ⟨_, rfl, p, _, dx, _, _, rfl, e5, T.clS, T.nS3, spF_key _ _ _, _, rfl, ?_⟩
      have ez : sz (st.take (i + 1)) = sz (st.take i) + x.gr := by rw [take_succ hx, sz_app, sz_cons]; rfl
      have en : nk (st.take (i + 1)) = nk (st.take i) + x.ks := by rw [take_succ hx, nk_app]; simp [nk]
      have hL5 : H5 L = some (.lst (ss.map V.ref)) := s25 _ _ hL2
      have hz : (ss.map V.ref).length < sizeLine := by
        rw [List.length_map, sp.len, List.length_take]
        exact Nat.lt_of_le_of_lt (Nat.le_trans (Nat.min_le_left _ _) (Nat.le_of_lt hi30)) (by decide)
      have fin : ∃ (ss2 : List Addr) (v5 v6 v7 : Option V), ([some (.ref ts), some (.int most), some (.ref L), some (.int (sz (st.take (i + 1)))), some (.int (nk (st.take (i + 1)))), some (.int (i : Nat)), some (.ref a), some (.ref p)] : L2.St) =
          [some (.ref ts), some (.int most), some (.ref L), some (.int (sz (st.take (i + 1)))), some (.int (nk (st.take (i + 1)))), v5, v6, v7] ∧
          Same H (upd H5 L (.lst (ss.map V.ref ++ [.ref p]))) ∧ (upd H5 L (.lst (ss.map V.ref ++ [.ref p]))) L = some (.lst (ss2.map V.ref)) ∧ SpansAt (CS K) (upd H5 L (.lst (ss.map V.ref ++ [.ref p]))) ss2 (st.take (i + 1)) := by
        refine ⟨ss ++ [p], _, _, _, rfl, fun b o e => ?_, by rw [upd_same, List.map_append]; rfl, ?_⟩
        · rw [upd_ne (ne_of_none e hL)]
          exact s25 _ _ (s2 _ _ e)
        · have keep : ∀ b C d fs, H5 b = some (.ins C d fs) → (upd H5 L (.lst (ss.map V.ref ++ [.ref p]))) b = some (.ins C d fs) := fun b C d fs e => by
            rw [upd_ne (ne_of e hL5 (by intro z; cases z))]
            exact e
          have sp5 := sp.same s25
          have sp6 : SpansAt (CS K) (upd H5 L (.lst (ss.map V.ref ++ [.ref p]))) ss (st.take i) := ⟨sp5.len, fun j y hy => let ⟨b, d, h1, h2⟩ := sp5.at_ j y hy; ⟨b, d, h1, keep _ _ _ _ h2⟩⟩
          rw [take_succ hx]
          exact sp6.snoc (keep _ _ _ _ e5)
      obtain ⟨ss2, _, _, _, _, b1, b2, b3⟩ := fin
      have st2 : ∀ (s k : Int), s = (sz (st.take (i + 1)) : Nat) → k = (nk (st.take (i + 1)) : Nat) → ([some (.ref ts), some (.int most), some (.ref L), some (.int s), some (.int k), some (.int (i : Nat)), some (.ref a), some (.ref p)] : L2.St) =
          [some (.ref ts), some (.int most), some (.ref L), some (.int (sz (st.take (i + 1)))), some (.int (nk (st.take (i + 1)))), some (.int (i : Nat)), some (.ref a), some (.ref p)] := fun s k e1 e2 => by rw [e1, e2]
      cases x with
      | wr w =>
        refine ⟨_, rfl, _, rfl, p, _, dx, _, _, rfl, e5, T.clS, T.nS2, spF_end _ _ _, _, _, rfl, rfl, _, rfl, p, _, dx, _, _, rfl, e5, T.clS, T.nS1, spF_begin _ _ _, _, _, rfl, rfl, ?_⟩
        refine ⟨_, rfl, p, _, dx, _, _, rfl, e5, T.clS, T.nS2, spF_end _ _ _, ?_⟩
        refine ⟨_, rfl, .inl ⟨rfl, _, SqL.of hL5⟩, _, rfl, L, _, _, rfl, rfl, hL5, hz, ?_⟩
        refine ⟨ss2, _, _, _, st2 _ _ (by rw [ez]) ?_, b1, b2, b3⟩
        rw [en]
        simp only [Stp.ks, Stp.gr]
        omega
      | pa f0 l t =>
        refine ⟨_, rfl, p, _, dx, _, _, rfl, e5, T.clS, T.nS2, spF_end _ _ _, ?_⟩
        refine ⟨_, rfl, .inl ⟨rfl, _, SqL.of hL5⟩, _, rfl, L, _, _, rfl, rfl, hL5, hz, ?_⟩
        exact ⟨ss2, _, _, _, st2 _ _ (by rw [ez]) (by rw [en]; rfl), b1, b2, b3⟩
    · rintro σ H2 ⟨ss, v5, v6, v7, rfl, s2, hL2, sp⟩
      rw [hn, List.take_length] at sp
      refine ⟨_, rfl, L, _, rfl, .inl ⟨SqL.of hL2, fun p hp => ?_⟩⟩
      exact q p ss _ (s2.trans (same_upd hp)) (.inl (.inl upd_same)) (sp.same (same_upd hp))
end
end KL
namespace KL
open PySem PySem.Spec PyProof.Rows L2 Pk He
def spKeyAt (K : Fr) : Sp := fun vs H Q _ => ∃ (sp : Addr) (p : Nat) (ss : List Addr) (st : List Stp), vs = [.ref sp, .int p] ∧ SqT K H sp (ss.map V.ref) ∧ SpansAt (CS K) H ss st ∧ Goes most 0 st ∧ p < sz st ∧ ∀ (k : Nat) H2, Same H H2 → (ex st)[p]? = some k → Q (.int k) H2
def srcOf : Stp → Nat
  | .wr _ => 0
  | .pa f _ _ => f
def widOf : Stp → Nat
  | .wr _ => 0
  | .pa f l _ => l + 1 - f
theorem spF_source (x : Stp) (s n : Nat) : (spF x s n).lookup ("source" : Str) = some (.int (srcOf x : Nat)) := by
  cases x <;> rfl
theorem spF_width (x : Stp) (s n : Nat) : (spF x s n).lookup ("width" : Str) = some (.int (widOf x : Nat)) := by
  cases x <;> rfl
theorem map_get {ss : List Addr} {i : Nat} {a : Addr} (h : ss[i]? = some a) : (ss.map V.ref)[i]? = some (.ref a) := by
  rw [List.getElem?_map, h]
  rfl
section
variable {P : Program} {w : World} {K : Fr} {mg : Str → Option Value} {base : Heap} {f : Addr}
theorem scKeyAt : FnScope ["spans", "place", "at", "_", "rest"] ["spans", "place"] (defScope sKeyAt) := ⟨rfl, rfl, rfl, by decide +kernel, rfl, by decide +kernel, by decide +kernel⟩
theorem ok_key_at (D : Df K "key_at" "key_at" sKeyAt f) (T : Tc w K mg) : Kp P w K mg base 1 f (spKeyAt K) := by
  refine kp_of D scKeyAt (fun _ _ _ _ _ _ us hl => match us, hl with | [_, _], _ => rfl) ?_ (fun cdv A outer s H vs Q E hr h => ?_)
  · rintro vs H Q E ⟨sp, p, ss, st, rfl, _⟩
    rfl
  · obtain ⟨sp, p, ss, st, rfl, hsp, hss, good, hp, q⟩ := h
    have hlen : 0 < st.length := by
      rcases st with _ | ⟨x, r⟩
      · exact absurd hp (Nat.not_lt_zero _)
      · exact Nat.succ_pos _
    refine ⟨_, (pss_cons (ps_set (i := 2) scKeyAt.nd rfl (Or.inl rfl) (pe_op op_sub (pk_b1 call_len_seq T.len b_len (pv 0)) pe_int)) (pss_cons (ps_while PassesOwn.never (pw_or (pt_cmpR op_lt (pv 1) (pe_fld (pe_ix ix_tup (pv 0) (pv 2) (fun _ _ => rfl)) rfl) (nomark _)) (pw_or1 (pt_cmp (pc_isN (pe_fld (pe_ix ix_tup (pv 0) (pv 2) (fun _ _ => rfl)) rfl))))).pt (pss_cons (ps_if (pt_cmpR op_ge (pv 1) (pe_fld (pe_ix ix_tup (pv 0) (pv 2) (fun _ _ => rfl)) rfl) (nomark _)) (pss_cons (ps_asg (pe_callB call_divmodW (by rfl) T.dm b_divmod (pa_cons (pe_op op_sub (pv 1) (pe_fld (pe_ix ix_tup (pv 0) (pv 2) (fun _ _ => rfl)) rfl)) (pa_cons (pe_fld (pe_ix ix_tup (pv 0) (pv 2) (fun _ _ => rfl)) rfl) pa_nil))) (pg_tup rfl (pgs_cons (pg_name (i := 3) scKeyAt.nd rfl (Or.inl rfl)) (pgs_cons (pg_name (i := 4) scKeyAt.nd rfl (Or.inl rfl)) pgs_nil)))) (pss_one (ps_set (i := 1) scKeyAt.nd rfl (Or.inl rfl) (pe_op op_add (pe_fld (pe_ix ix_tup (pv 0) (pv 2) (fun _ _ => rfl)) rfl) (pv 4))))) pss_nil) (pss_one (ps_set (i := 2) scKeyAt.nd rfl (Or.inl rfl) (pe_op op_sub (pv 2) pe_int))))) (pss_one (ps_ret (pe_op op_sub (pe_op op_add (pe_fld (pe_ix ix_tup (pv 0) (pv 2) (fun _ _ => rfl)) rfl) (pv 1)) (pe_fld (pe_ix ix_tup (pv 0) (pv 2) (fun _ _ => rfl)) rfl)))))), ?_⟩
    refine ⟨_, rfl, _, _, rfl, (.inr (same_sqT (Same.refl _) hsp)), _, _, rfl, rfl, ?_⟩
    refine ⟨fun m σ H2 => ∃ (pl : Nat) (v3 v4 : Option V), Same H H2 ∧ σ = [some (.ref sp), some (.int pl), some (.int m), v3, v4] ∧ m < st.length ∧ pl < sz (st.take (m + 1)) ∧ (ex st)[pl]? = (ex st)[p]?, ⟨st.length - 1, p, none, none, Same.refl _, ?_, by omega, ?_, rfl⟩, ?_⟩
    · show ([some (.ref sp), some (.int p), some (.int (((ss.map V.ref).length : Int) - 1)), none, none] : L2.St) = _
      rw [List.length_map, hss.len, show ((st.length : Int) - 1) = ((st.length - 1 : Nat) : Int) by omega]
    · rw [show st.length - 1 + 1 = st.length by omega, List.take_length]
      exact hp
    · rintro m σ H2 ⟨pl, v3, v4, s2, rfl, ha, hpl, he⟩
      obtain ⟨x, hx⟩ : ∃ x, st[m]? = some x := ⟨st[m], List.getElem?_eq_getElem ha⟩
      obtain ⟨ok, lim⟩ := goes_at good hx
      obtain ⟨b, dx, hb, e5⟩ := hss.at_ m x hx
      have hix : atI (ss.map V.ref) (m : Int) = some (.ref b) := atI_nat (map_get hb)
      have down : 0 < m → ∀ (σ' : L2.St) (H' : Hp), (∃ (pl : Nat) (v3 v4 : Option V), Same H H' ∧ σ' = [some (.ref sp), some (.int pl), some (.int (m - 1 : Nat)), v3, v4] ∧ pl < sz (st.take m) ∧ (ex st)[pl]? = (ex st)[p]?) →
          ∃ m', m' < m ∧ ∃ (pl : Nat) (v3 v4 : Option V), Same H H' ∧ σ' = [some (.ref sp), some (.int pl), some (.int m'), v3, v4] ∧ m' < st.length ∧ pl < sz (st.take (m' + 1)) ∧ (ex st)[pl]? = (ex st)[p]? := by
        rintro h0 σ' H' ⟨pl2, v3, v4, s3, rfl, h2, h3⟩
        refine ⟨m - 1, by omega, pl2, v3, v4, s3, rfl, by omega, ?_, h3⟩
        rw [show m - 1 + 1 = m by omega]
        exact h2
      have st3 : 0 < m → ∀ (z : Nat) (v3 v4 : Option V), ([some (.ref sp), some (.int z), some (.int ((m : Int) - 1)), v3, v4] : L2.St) = [some (.ref sp), some (.int z), some (.int (m - 1 : Nat)), v3, v4] := fun h0 z _ _ => by rw [show ((m : Int) - 1) = ((m - 1 : Nat) : Int) by omega]
      refine ⟨_, rfl, _, rfl, _, rfl, _, _, _, _, rfl, rfl, (same_sqT s2 hsp), hix, _, _, _, _, _, rfl, (s2 _ _ e5), T.clS, T.nS1, (spF_begin _ _ _), _, _, rfl, rfl, _, rfl, ?_⟩
      refine iB (fun h1 => ?_) fun h1 => ?_
      · have h0 : 0 < m := by
          rcases Nat.eq_zero_or_pos m with e | e
          · rw [e] at h1
            exact absurd h1 (by show ¬ ((pl : Int) < ((0 : Nat) : Int)); omega)
          · exact e
        refine iteT ?_
        refine ⟨_, down h0, ?_⟩
        refine ⟨_, rfl, _, rfl, _, rfl, _, _, _, _, rfl, rfl, (same_sqT s2 hsp), hix, _, _, _, _, _, rfl, (s2 _ _ e5), T.clS, T.nS1, (spF_begin _ _ _), _, _, rfl, rfl, _, rfl, ?_⟩
        refine iF (dF (by omega)) ?_
        refine ⟨_, rfl, _, _, rfl, rfl, ?_⟩
        exact ⟨pl, _, _, s2, st3 h0 pl _ _, by omega, he⟩
      · have h1 : sz (st.take m) ≤ pl := by omega
        cases x with
        | wr w =>
          refine ⟨_, rfl, _, rfl, _, _, _, _, rfl, rfl, (same_sqT s2 hsp), hix, _, _, _, _, _, rfl, (s2 _ _ e5), T.clS, T.nS3, rfl, _, rfl, ?_⟩
          refine iF (dF (by intro z; cases z)) ?_
          refine ⟨_, rfl, _, rfl, _, _, _, _, rfl, rfl, (same_sqT s2 hsp), hix, _, _, _, _, _, rfl, (s2 _ _ e5), T.clS, T.nS3, rfl, _, rfl, _, _, rfl, rfl, _, rfl, _, rfl, _, _, _, _, rfl, rfl, (same_sqT s2 hsp), hix, _, _, _, _, _, rfl, (s2 _ _ e5), T.clS, T.nS1, rfl, _, _, rfl, rfl, ?_⟩
          have e8 := ex_wr good hx h1 hpl
          rw [he] at e8
          have q2 := q _ _ s2 e8
          rw [show ((nk (st.take m) + (pl - sz (st.take m)) : Nat) : Int) = ((nk (st.take m) : Int) + (pl : Int)) - (sz (st.take m) : Int) by omega] at q2
          exact q2
        | pa f0 l t =>
          have okn := ok
          simp [Stp.ok] at okn
          have hz := sz_most good
          have hmost : most = 1000000000000000000 := rfl
          have hzi : sz (st.take (m + 1)) ≤ sz st := by have z := sz_app (st.take (m + 1)) (st.drop (m + 1)); rw [List.take_append_drop] at z; omega
          have h0 : 0 < m := by
            rcases Nat.eq_zero_or_pos m with e | e
            · rw [e] at okn
              exact absurd okn.1.1.2 (Nat.not_lt_zero _)
            · exact e
          obtain ⟨e8, e9⟩ := ex_pa good hx h1 hpl
          have hl18 : l < 1000000000000000000 := by omega
          refine ⟨_, rfl, _, rfl, _, _, _, _, rfl, rfl, (same_sqT s2 hsp), hix, _, _, _, _, _, rfl, (s2 _ _ e5), T.clS, T.nS3, rfl, _, rfl, ?_⟩
          refine iT (dT rfl) ?_
          refine ⟨_, down h0, ?_⟩
          refine ⟨_, rfl, _, rfl, _, rfl, _, _, _, _, rfl, rfl, (same_sqT s2 hsp), hix, _, _, _, _, _, rfl, (s2 _ _ e5), T.clS, T.nS1, rfl, _, _, rfl, rfl, _, rfl, ?_⟩
          refine iT (dT (by omega)) ?_
          refine ⟨_, rfl, _, rfl, _, rfl, _, _, _, _, rfl, rfl, (same_sqT s2 hsp), hix, _, _, _, _, _, rfl, (s2 _ _ e5), T.clS, T.nS1, rfl, _, _, rfl, rfl, _, rfl, _, rfl, _, _, _, _, rfl, rfl, (same_sqT s2 hsp), hix, _, _, _, _, _, rfl, (s2 _ _ e5), T.clS, T.nS5, rfl, _, _, rfl, (by exact divp (by omega) (by omega)), fun tp n => ?_⟩
          refine ⟨_, _, rfl, (SqT.of upd_same), rfl, _, _, rfl, _, _, rfl, rfl, _, rfl, _, rfl, _, _, _, _, rfl, rfl, (same_sqT (same_own s2 (s2.free n)) hsp), hix, _, _, _, _, _, rfl, (same_upd n _ _ (s2 _ _ e5)), T.clS, T.nS4, rfl, _, rfl, _, _, rfl, rfl, _, rfl, _, _, rfl, rfl, ?_⟩
          have e10 : ((f0 : Int) + ((pl : Int) - (sz (st.take m) : Int)) % ((l + 1 - f0 : Nat) : Int)) = ((f0 + (pl - sz (st.take m)) % (l + 1 - f0) : Nat) : Int) := by
            rw [show ((pl : Int) - (sz (st.take m) : Int)) = ((pl - sz (st.take m) : Nat) : Int) by omega]
            rfl
          have e11 : ∀ a c : Option V, ([some (.ref sp), some (.int ((f0 : Int) + ((pl : Int) - (sz (st.take m) : Int)) % ((l + 1 - f0 : Nat) : Int))), some (.int ((m : Int) - 1)), a, c] : L2.St) = [some (.ref sp), some (.int (f0 + (pl - sz (st.take m)) % (l + 1 - f0) : Nat)), some (.int (m - 1 : Nat)), a, c] := fun a c => by
            rw [e10]
            exact st3 h0 _ _ _
          exact ⟨_, _, _, s2.trans (same_upd n), e11 _ _, e9, e8.symm.trans he⟩
end
end KL
namespace KL
open PySem PySem.Spec PyProof.Rows L2 Pk He
def mv (s : Nat) : Stp → Stp
  | .wr w => .wr w
  | .pa f l t => .pa (f + s) (l + s) t
def spMoved (K : Fr) : Sp := fun vs H Q _ => ∃ (a : Addr) (x : Stp) (s : Nat), vs = [.ref a, .int s] ∧ SqT K H a (stV x) ∧ ∀ b H2, Same H H2 → SqT K H2 b (stV (mv s x)) → Q (.ref b) H2
/-- the words of the steps that write -/
def wrs (st : List Stp) : List (List Nat) := st.filterMap fun x => match x with
  | .wr w => some w
  | .pa _ _ _ => none
theorem wrs_flat (st : List Stp) : (wrs st).flatten = typed st := by
  induction st with
  | nil => rfl
  | cons x r ih =>
    cases x with
    | wr w =>
      show (w :: wrs r).flatten = w ++ typed r
      rw [List.flatten_cons, ih]
    | pa f l t => exact ih
def isWr (st : List Stp) (i : Nat) : Bool := match st[i]? with
  | some (.wr _) => true
  | _ => false
def wrV (st : List Stp) (i : Nat) : V := match st[i]? with
  | some (.wr w) => .str (sL w)
  | _ => .non
theorem keeps_wrs (st : List Stp) : ∀ n, n ≤ st.length → keeps n (isWr st) (wrV st) = ((wrs (st.take n)).map sL).map V.str
  | 0, _ => rfl
  | n + 1, h => by
    have ih := keeps_wrs st n (by omega)
    have e : st[n]? = some (st[n]'(by omega)) := List.getElem?_eq_getElem (by omega)
    rw [keeps_succ, ih, take_succ e]
    generalize st[n]'(by omega) = x at e
    unfold isWr wrV wrs
    rw [e, List.filterMap_append]
    cases x with
    | wr w => simp
    | pa f l t => simp
theorem join_is (y : Str) (p : List Str) : Txt.join y p = Str.join y p := StrLaws.glued_eq_join y p
theorem join0 : ∀ ws : List (List Nat), Txt.join (Str.ofString "") (ws.map sL) = sL ws.flatten
  | [] => rfl
  | [w] => by
    rw [join_is]
    show sL w = sL ([w].flatten)
    simp
  | w :: x :: r => by
    have ih := join0 (x :: r)
    rw [join_is] at ih ⊢
    show sL w ++ Str.ofString "" ++ Str.join (Str.ofString "") ((x :: r).map sL) = _
    rw [ih, show (Str.ofString "") = sL [] from rfl, sL_app, sL_app, List.append_nil, List.flatten_cons (l := w)]
def spTextInit (K : Fr) : Sp := fun vs H Q _ => ∃ (x dx ts : Addr) (as : List Addr) (st : List Stp), vs = [.ref x, .ref ts] ∧ H x = some (.ins (CT K) dx []) ∧ SqT K H ts (as.map V.ref) ∧ StepsAt K H as st ∧ Goes most 0 st ∧ st.length ≤ 30 ∧
  ∀ H2 sp ss, (∀ b o, b ≠ x → H b = some o → H2 b = some o) → H2 x = some (.ins (CT K) dx (txF ts sp st)) → SqT K H2 sp (ss.map V.ref) → SpansAt (CS K) H2 ss st → Q .non H2
theorem sqT_but {K : Fr} {H H2 : Hp} {r a C d : Addr} {fs : List (Str × V)} {xs : List V} (hr : H r = some (.ins C d fs)) (b : But r H H2) (h : SqT K H a xs) : SqT K H2 a xs := by
  rcases h with (h | ⟨o, h⟩) | h
  · exact .inl (.inl (b _ _ (ne_of h hr (by intro z; cases z)) h))
  · exact .inl (.inr ⟨o, b _ _ (ne_of h hr (by intro z; cases z)) h⟩)
  · exact .inr h
theorem steps_but {K : Fr} {H H2 : Hp} {r C d : Addr} {fs : List (Str × V)} {as : List Addr} {st : List Stp} (hr : H r = some (.ins C d fs)) (b : But r H H2) (h : StepsAt K H as st) : StepsAt K H2 as st :=
  ⟨h.len, fun i x hx => let ⟨a, h1, h2⟩ := h.at_ i x hx; ⟨a, h1, sqT_but hr b h2⟩⟩
theorem spans_but {CS : Addr} {H H2 : Hp} {r C d : Addr} {fs : List (Str × V)} {ss : List Addr} {st : List Stp} (hne : CS ≠ C) (hr : H r = some (.ins C d fs)) (b : But r H H2) (h : SpansAt CS H ss st) : SpansAt CS H2 ss st :=
  ⟨h.len, fun i x hx => let ⟨a, dx, h1, h2⟩ := h.at_ i x hx; ⟨a, dx, h1, b _ _ (ne_of h2 hr (by intro z; injection z with z; exact hne z)) h2⟩⟩
theorem but_upd {H : Hp} {r : Addr} {o : HO} : But r H (upd H r o) := fun b u hn e => by
  rw [upd_ne hn]
  exact e
theorem ite_same {k : Bool} {ta tb : TE} {σ : L2.St} {H : Hp} {Q : VK} (v : V) (h : Q v H) (h1 : k = true → Q v H → ta σ H Q) (h2 : k = false → Q v H → tb σ H Q) : if k = true then ta σ H Q else tb σ H Q := by
  cases k with
  | true => exact iteT (h1 rfl h)
  | false => exact iteF (h2 rfl h)
theorem put2 (a v : V) : putF "spans" v ([("_steps", a)] : List (Str × V)) = ([("_steps", a), ("spans", v)] : List (Str × V)) := (putF_new (f := "spans") (ns := ["_steps"]) rfl (by decide +kernel)).trans rfl
theorem put3 (a b v : V) : putF "_size" v ([("_steps", a), ("spans", b)] : List (Str × V)) = ([("_steps", a), ("spans", b), ("_size", v)] : List (Str × V)) := (putF_new (f := "_size") (ns := ["_steps", "spans"]) rfl (by decide +kernel)).trans rfl
theorem put4 (a b c v : V) : putF "_typed" v ([("_steps", a), ("spans", b), ("_size", c)] : List (Str × V)) = ([("_steps", a), ("spans", b), ("_size", c), ("_typed", v)] : List (Str × V)) := (putF_new (f := "_typed") (ns := ["_steps", "spans", "_size"]) rfl (by decide +kernel)).trans rfl
theorem snoc_of {α : Type} {l : List α} (h : l ≠ []) : ∃ r y, l = r ++ [y] := ⟨l.dropLast, l.getLast h, (List.dropLast_concat_getLast h).symm⟩
theorem atI_last {α : Type} {xs : List α} {y : α} : atI (xs ++ [y]) (-1) = some y := by
  unfold atI ixN
  rw [if_neg (by omega), if_pos (by simp; omega)]
  show (xs ++ [y])[((-1 : Int) + ((xs ++ [y]).length : Int)).toNat]? = some y
  have e : ((-1 : Int) + ((xs ++ [y]).length : Int)).toNat = xs.length := by
    rw [List.length_append]
    simp
    omega
  rw [e, List.getElem?_append_right (Nat.le_refl _), Nat.sub_self]
  rfl
section
variable {P : Program} {w : World} {K : Fr} {mg : Str → Option Value} {base : Heap} {f : Addr}
theorem scMoved : FnScope ["step", "shift"] ["step", "shift"] (defScope sMoved) := ⟨rfl, rfl, rfl, by decide +kernel, rfl, by decide +kernel, by decide +kernel⟩
theorem ok_moved (D : Df K "moved_step" "moved_step" sMoved f) (T : Tc w K mg) : Kp P w K mg base 1 f (spMoved K) := by
  refine kp_of D scMoved (fun _ _ _ _ _ _ us hl => match us, hl with | [_, _], _ => rfl) ?_ (fun cdv A outer s H vs Q E hr h => ?_)
  · rintro vs H Q E ⟨a, x, s, rfl, _⟩
    rfl
  · obtain ⟨a, x, s, rfl, hx, q⟩ := h
    refine ⟨_, (pss_cons (ps_if (pt_cmpR op_eq (pe_ix ix_tup (pv 0) pe_int (fun _ _ => rfl)) pe_str (nomark _)) (pss_one (ps_ret (pv 0))) pss_nil) (pss_one (ps_ret (pe_tup (pa_cons pe_str (pa_cons (pe_op op_add (pe_ix ix_tup (pv 0) pe_int (fun _ _ => rfl)) (pv 1)) (pa_cons (pe_op op_add (pe_ix ix_tup (pv 0) pe_int (fun _ _ => rfl)) (pv 1)) (pa_cons (pe_ix ix_tup (pv 0) pe_int (fun _ _ => rfl)) pa_nil)))))))), ?_⟩
    cases x with
    | wr w =>
      refine ⟨_, rfl, a, _, _, _, rfl, rfl, hx, atI_nat (j := 0) rfl, rfl, _, rfl, ?_⟩
      refine iteT ?_
      exact ⟨_, rfl, q a H (Same.refl H) hx⟩
    | pa f0 l t =>
      have hb : decide (V.str "paste" = V.str "write") = false := decide_eq_false wr_ne_pa.symm
      refine ⟨_, rfl, a, _, _, _, rfl, rfl, hx, atI_nat (j := 0) rfl, rfl, _, rfl, ?_⟩
      rw [hb]
      refine iteF ?_
      refine ⟨_, rfl, a, _, _, _, rfl, rfl, hx, atI_nat (j := 1) rfl, _, rfl, _, _, rfl, rfl, _, rfl, a, _, _, _, rfl, rfl, hx, atI_nat (j := 2) rfl, _, rfl, _, _, rfl, rfl, _, rfl, a, _, _, _, rfl, rfl, hx, atI_nat (j := 3) rfl, (by show 4 ≤ sizeLine; decide), fun p hp => ?_⟩
      exact q p _ (same_upd hp) (.inl (.inl upd_same))
abbrev nInit : List Str := ["self", "steps", "step"]
theorem scInit : FnScope nInit ["self", "steps"] (defScope sInit) := ⟨rfl, rfl, rfl, by decide +kernel, rfl, by decide +kernel, by decide +kernel⟩
theorem ok_init (D : Df K "__init__" "Text.__init__" sInit f) (T : Tc w K mg) (GS : Kp P w K mg base 4 (ga K "spans_of") (spSpansOf K)) :
    FnR P w K mg base CX0 5 f (fun vs H Q E => ∃ ws rest, vs = ws ++ rest ∧ ws.length = (["self"] : List Str).length ∧ rest.length ≤ sizeLine ∧ ∀ p, H p = none → spTextInit K (ws ++ [V.ref p]) (upd H p (.tup rest)) Q E) := by
  obtain ⟨fd, F⟩ := D
  obtain ⟨oc, od, kV, doc, pm, an, cdv, ct, osl, rfl, lk, hcd⟩ := (He5.fun_of F).ex
  refine StX.fn_star (ps := ["self"]) (pv := "steps") (sp := spTextInit K) lk hcd scInit StX.cxUp_none (StX.bind_star1 (B := fun l => bindArgs (PySem.W.fnOf "__init__" "Text.__init__" (defArgs sInit) (defBody sInit) (defScope sInit) .none kV doc pm an cdv ct) ⟨l, []⟩) (p1 := "self") (pv := "steps") (fun _ => rfl) (fun _ _ _ => rfl)) fun A outer s H vs Q E hr h => ?_
  obtain ⟨x, dx, ts, as, st, rfl, hx, hts, hst, good, few, q⟩ := h
  obtain ⟨tk, hMax⟩ := T.maxSize
  refine ⟨_, PSs.nox (pss_cons (ps_fld (pv 0) (pv 1) rfl) (pss_cons (ps_fld (pv 0) (pk_call GS (hr.mono (by decide)) T.gSpansOf (pa_cons (pv 1) (pa_cons (ClX.pe_cval (pe_gR T.gText)) pa_nil))) rfl) (pss_cons (ps_fld (pv 0) (pe_ifExp (pt_truth (pe_fld (pv 0) rfl) (fun _ => rfl)) (pe_fld (pe_ix ix_tup (pe_fld (pv 0) rfl) (pe_un un_neg pe_int) (fun _ _ => rfl)) rfl) pe_int) rfl) (pss_one (ps_fld (pv 0) (pe_join pe_str (pe_lc (own := [("step", 2)]) (g := gName 2) rfl scInit.nd (pi_tup (pv 1)) (blkOk_by (N := ["self", "steps", "step"]) (sc := defScope sInit) (by decide +kernel)) (fun _ _ _ _ _ => (pg_name (i := 2) scInit.nd rfl (Or.inl rfl))) (fun _ _ _ _ _ => (pts_one (pt_cmpR op_eq (pe_ix (ixT K) (pv 2) pe_int (fun _ _ => rfl)) pe_str (nomark _)))) (fun _ _ _ _ _ => (pe_ix (ixT K) (pv 2) pe_int (fun _ _ => rfl))))) rfl))))), ?_⟩
  refine ⟨_, rfl, _, rfl, x, _, dx, _, rfl, hx, T.clT, T.nT1, by decide, ?_⟩
  have e1 : putF "_steps" (.ref ts) ([] : List (Str × V)) = [(("_steps" : Str), .ref ts)] := rfl
  rw [e1]
  have b1 : But x H (upd H x (.ins (CT K) dx [(("_steps" : Str), .ref ts)])) := but_upd
  refine ⟨_, rfl, _, _, _, _, rfl, T.rd, hMax, ts, as, st, rfl, sqT_but hx b1 hts, steps_but hx b1 hst, good, few, fun sp ss H2 s2 hsp hss => ?_⟩
  have x2 : H2 x = some (.ins (CT K) dx [(("_steps" : Str), .ref ts)]) := s2 _ _ upd_same
  refine ⟨_, rfl, x, _, dx, _, rfl, x2, T.clT, T.nT2, (by show 1 < 1000; decide), ?_⟩
  rw [put2]
  have b3 : But x H2 (upd H2 x (.ins (CT K) dx [("_steps", .ref ts), ("spans", .ref sp)])) := but_upd
  generalize hH3 : upd H2 x (.ins (CT K) dx [("_steps", .ref ts), ("spans", .ref sp)]) = H3 at b3
  have x3 : H3 x = some (.ins (CT K) dx [("_steps", .ref ts), ("spans", .ref sp)]) := by
    rw [← hH3, upd_same]
  have hsp3 := sqT_but x2 b3 hsp
  have hss3 := spans_but T.csct x2 b3 hss
  have hts3 : SqT K H3 ts (as.map V.ref) := sqT_but x2 b3 (same_sqT s2 (sqT_but hx b1 hts))
  have hst3 : StepsAt K H3 as st := steps_but x2 b3 ((steps_but hx b1 hst).same s2)
  have bH : But x H H3 := b1.trans ((Same.but s2).trans b3)
  refine ⟨_, rfl, x, _, dx, _, _, rfl, x3, T.clT, T.nT2, rfl, _, .inr (.inl ⟨_, hsp3, rfl⟩), ?_⟩
  refine ite_same (.int (sz st : Nat)) ?_ (fun hk h => ?_) fun hk h => ?_
  · refine ⟨_, rfl, x, _, dx, _, rfl, x3, T.clT, T.nT3, (by show 2 < 1000; decide), ?_⟩
    rw [put3]
    have b4 : But x H3 (upd H3 x (.ins (CT K) dx [("_steps", .ref ts), ("spans", .ref sp), ("_size", .int (sz st : Nat))])) := but_upd
    generalize hH4 : upd H3 x (.ins (CT K) dx [("_steps", .ref ts), ("spans", .ref sp), ("_size", .int (sz st : Nat))]) = H4 at b4
    have x4 : H4 x = some (.ins (CT K) dx [("_steps", .ref ts), ("spans", .ref sp), ("_size", .int (sz st : Nat))]) := by
      rw [← hH4, upd_same]
    have hsp4 := sqT_but x3 b4 hsp3
    have hss4 := spans_but T.csct x3 b4 hss3
    have hts4 := sqT_but x3 b4 hts3
    have hst4 := steps_but x3 b4 hst3
    refine ⟨⟨_, rfl⟩, ⟨_, rfl, ts, rfl, ⟨_, hts4⟩, fun D hD => ?_⟩⟩
    have hn : (as.map V.ref).length = st.length := by rw [List.length_map, hst.len]
    refine lc_keep walk_tup hD (isWr st) (wrV st) (by rw [hn]; exact Nat.le_trans few (by decide)) (fun H5 s5 => same_sqT s5 hts4) ?_ ?_
    · rintro i v H5 H6 N N0 hi s5 ⟨rfl, hv⟩ h1 h2
      rw [hn] at hi
      obtain ⟨y, hy⟩ : ∃ y, st[i]? = some y := ⟨st[i], List.getElem?_eq_getElem hi⟩
      obtain ⟨a, ha, hay⟩ := hst4.at_ i y hy
      have ev : v = .ref a := map_at ha hv
      subst ev
      have hay5 := same_sqT s5 hay
      cases y with
      | wr w =>
        refine ⟨rfl, _, rfl, a, _, _, _, rfl, rfl, hay5, atI_nat (j := 0) rfl, rfl, _, rfl, ?_⟩
        refine iteT ?_
        refine ⟨_, rfl, a, _, _, _, rfl, rfl, hay5, atI_nat (j := 1) rfl, ?_⟩
        have e1 : isWr st i = true := by unfold isWr; rw [hy]
        have e2 : wrV st i = .str (sL w) := by unfold wrV; rw [hy]
        have q1 := h1 e1 _ (Same.refl _)
        rw [e2] at q1
        exact q1
      | pa f0 l t =>
        refine ⟨rfl, _, rfl, a, _, _, _, rfl, rfl, hay5, atI_nat (j := 0) rfl, rfl, _, rfl, ?_⟩
        rw [show decide (V.str "paste" = V.str "write") = false from decide_eq_false wr_ne_pa.symm]
        refine iteF ?_
        have e1 : isWr st i = false := by unfold isWr; rw [hy]
        exact h2 e1 _ (Same.refl _)
    · intro H5 s5 hD5
      rw [hn, keeps_wrs st st.length (Nat.le_refl _), List.take_length] at hD5
      have x5 := s5 _ _ x4
      refine ⟨_, D, (wrs st).map sL, rfl, rfl, .inl (SqL.of hD5), ?_, ?_⟩
      · rw [List.map_map, show ((fun z : Str => z.length) ∘ sL) = List.length from funext fun l => sL_len l, ← List.length_flatten, wrs_flat, typed_len]
        have h1 := nk_le good
        have h2 : (Str.ofString "").length = 0 := rfl
        rw [h2]
        omega
      · rw [join0, wrs_flat]
        refine ⟨_, rfl, x, _, dx, _, rfl, x5, T.clT, T.nT4, (by show 3 < 1000; decide), ?_⟩
        rw [put4]
        have b6 : But x H5 (upd H5 x (.ins (CT K) dx (txF ts sp st))) := but_upd
        refine q _ sp ss (fun b o hb e => b6 _ _ hb (s5 _ _ (b4 _ _ hb (bH _ _ hb e)))) upd_same (sqT_but x5 b6 (same_sqT s5 hsp4)) (spans_but T.csct x5 b6 (hss4.same s5))
  · have hne : st ≠ [] := by
      intro e
      subst e
      have h0 : ss = [] := List.eq_nil_of_length_eq_zero hss.len
      rw [h0] at hk
      cases hk
    obtain ⟨r, y, e⟩ := snoc_of hne
    have hl : st.length = r.length + 1 := by rw [e]; simp
    have hy : st[r.length]? = some y := by rw [e]; simp
    obtain ⟨a, da, ha, e5⟩ := hss3.at_ _ _ hy
    have hsr : (ss.map V.ref) = (ss.map V.ref).dropLast ++ [.ref a] := by
      have h1 : ss.map V.ref ≠ [] := by
        intro z
        have := hss.len
        rw [List.map_eq_nil_iff.mp z] at this
        simp at this
        omega
      have h2 : (ss.map V.ref).getLast h1 = .ref a := by
        have h3 : (ss.map V.ref)[(ss.map V.ref).length - 1]? = some (.ref a) := by
          rw [List.length_map, hss.len, hl, Nat.add_sub_cancel]
          exact map_get ha
        rw [List.getLast_eq_getElem]
        exact (List.getElem?_eq_some_iff.mp h3).2
      rw [← h2]
      exact (List.dropLast_concat_getLast h1).symm
    have hix : atI (ss.map V.ref) (-1) = some (.ref a) := by
      rw [hsr]
      exact atI_last
    have ez : sz st = sz (st.take r.length) + y.gr := by
      have e9 : st = st.take r.length ++ [y] := by
        rw [← take_succ hy, ← hl, List.take_length]
      have e10 := congrArg sz e9
      rw [sz_app, sz_cons] at e10
      exact e10
    rw [ez] at h
    refine ⟨_, rfl, x, _, dx, _, _, rfl, x3, T.clT, T.nT2, rfl, _, rfl, sp, _, _, _, rfl, rfl, hsp3, hix, a, _, da, _, _, rfl, e5, T.clS, T.nS2, spF_end _ _ _, ?_⟩
    exact h
  · have e : st = [] := by
      have h0 : ss = [] := by
        cases hq : ss with
        | nil => rfl
        | cons a r =>
          rw [hq] at hk
          cases hk
      have := hss.len
      rw [h0] at this
      exact List.eq_nil_of_length_eq_zero this.symm
    subst e
    exact h
end
end KL
namespace KL
open PySem PySem.Spec PyProof.Rows L2 Pk He
abbrev TA_ (K : Fr) (H : Hp) (x : Addr) (st : List Stp) : Prop := TextAt K (CT K) (CS K) H x st
def spInit5 (K : Fr) : Sp := fun vs H Q E => ∃ ws rest, vs = ws ++ rest ∧ ws.length = ([("self" : Str)] : List Str).length ∧ rest.length ≤ sizeLine ∧ ∀ p, H p = none → spTextInit K (ws ++ [V.ref p]) (upd H p (.tup rest)) Q E
/-- a new text of given steps: what its making asks -/
theorem make_text {K : Fr} (csct : CS K ≠ CT K) {H1 : Hp} {as : List Addr} {st : List Stp} {Q : VK} (hst : StepsAt K H1 as st) (good : Goes most 0 st) (few : st.length ≤ 30) (q : ∀ x H2, H1 x = none → Same H1 H2 → TA_ K H2 x st → Q (.ref x) H2) :
    ∀ x dx, H1 x = none → H1 dx = none → dx ≠ x → spInit5 K (V.ref x :: as.map V.ref) (upd (upd H1 dx (.own x)) x (.ins (CT K) dx [])) (fun v H2 => v = .non ∧ Q (.ref x) H2) E0 := by
  intro x dx hx hdx hne
  refine ⟨[.ref x], as.map V.ref, rfl, rfl, by rw [List.length_map, hst.len]; exact Nat.le_trans few (by decide), fun p hp => ?_⟩
  have npx : p ≠ x := fun e => by
    rw [e, upd_same] at hp
    cases hp
  have npd : p ≠ dx := fun e => by
    rw [e, upd_ne hne, upd_same] at hp
    cases hp
  have hp1 : H1 p = none := by
    rw [upd_ne npx, upd_ne npd] at hp
    exact hp
  have s1 : Same H1 (upd (upd (upd H1 dx (.own x)) x (.ins (CT K) dx [])) p (.tup (as.map V.ref))) := fun b o e => by
    rw [upd_ne (ne_of_none e hp1), upd_ne (ne_of_none e hx), upd_ne (ne_of_none e hdx)]
    exact e
  refine ⟨x, dx, p, as, st, rfl, by rw [upd_ne npx.symm, upd_same], .inl (.inl upd_same), hst.same s1, good, few, fun H2 sp ss b hx2 hsp hss => ⟨rfl, ?_⟩⟩
  have s2 : Same H1 H2 := fun b' o e => b b' o (ne_of_none e hx) (s1 _ _ e)
  refine q x H2 hx s2 ⟨good, few, dx, p, sp, as, ss, hx2, ?_, hst.same s2, hsp, hss⟩
  exact .inl (.inl (b _ _ npx upd_same))
def spOf (K : Fr) : Sp := fun vs H Q _ => ∃ (l : Addr) (as : List Addr) (st : List Stp), vs = [.ref (CT K), .ref l] ∧ H l = some (.lst (as.map V.ref)) ∧ StepsAt K H as st ∧ Goes most 0 st ∧ st.length ≤ 30 ∧ ∀ x H2, H x = none → Same H H2 → TA_ K H2 x st → Q (.ref x) H2
def spSize (K : Fr) : Sp := fun vs H Q _ => ∃ x st, vs = [.ref x] ∧ TA_ K H x st ∧ Q (.int (sz st)) H
def spTyped (K : Fr) : Sp := fun vs H Q _ => ∃ x st, vs = [.ref x] ∧ TA_ K H x st ∧ Q (.str (sL (typed st))) H
def spCheck (K : Fr) : Sp := fun vs H Q _ => ∃ (x : Addr) (p : Nat) (st : List Stp), vs = [.ref x, .int p] ∧ TA_ K H x st ∧ p < sz st ∧ Q .non H
def spCall (K : Fr) : Sp := fun vs H Q _ => ∃ (x : Addr) (p : Nat) (st : List Stp), vs = [.ref x, .int p] ∧ TA_ K H x st ∧ p < sz st ∧ ∀ (k : Nat) H2, Same H H2 → (ex st)[p]? = some k → Q (.int k) H2
section
variable {P : Program} {w : World} {K : Fr} {mg : Str → Option Value} {base : Heap} {f : Addr}
theorem scOf : FnScope ["cls", "steps"] ["cls", "steps"] (defScope sOf) := ⟨rfl, rfl, rfl, by decide +kernel, rfl, by decide +kernel, by decide +kernel⟩
theorem ok_of (D : Df K "of_steps" "Text.of_steps" sOf f) (T : Tc w K mg) (GI : FnR P w K mg base CX0 5 (ma K (CT K) "__init__") (spInit5 K)) : Kp P w K mg base 7 f (spOf K) := by
  refine kp_of D scOf (fun _ _ _ _ _ _ us hl => match us, hl with | [_, _], _ => rfl) ?_ (fun cdv A outer s H vs Q E hr h => ?_)
  · rintro vs H Q E ⟨l, as, st, rfl, _⟩
    rfl
  · obtain ⟨l, as, st, rfl, hl, hst, good, few, q⟩ := h
    refine ⟨_, (pss_cons (ps_if (pt_not (pt_val (pe_callB call_isiT (by rfl) T.isi boot_isinstance (pa_cons (pv 1) (pa_cons (pe_tup (pa_cons (pe_ty T.lst b_list) (pa_cons (pe_ty T.tup b_tuple) pa_nil))) pa_nil))))) pss_never pss_nil) (pss_one (ps_ret (pe_makeSL T.mkT GI hr (i := 0) rfl (Or.inl rfl) pass0 (pv 1))))), ?_⟩
    refine ⟨_, rfl, (by show 2 ≤ sizeLine; decide), fun p hp => ?_⟩
    have s1 : Same H (upd H p (.tup [.ty "list", .ty "tuple"])) := same_upd hp
    refine ⟨.ref l, p, [.ty "list", .ty "tuple"], .type "list", [.type "list", .type "tuple"], true, rfl, upd_same, .cons (.ty _) (.cons (.ty _) .nil), .base (.lst (s1 _ _ hl)), ?_, true, rfl, ?_⟩
    · exact kitAny_cons (b := true) (kit_ty rfl) (fun z => by cases z) (fun _ => rfl)
    refine iteF ?_
    refine ⟨rfl, _, rfl, l, _, rfl, .inr (SqL.of (s1 _ _ hl)), ?_⟩
    exact make_text T.csct (hst.same s1) good few fun x H2 hx s2 t => q x H2 (s1.free hx) (s1.trans s2) t
theorem scSize : FnScope ["self"] ["self"] (defScope sSize) := ⟨rfl, rfl, rfl, by decide +kernel, rfl, by decide +kernel, by decide +kernel⟩
theorem ok_size (D : Df K "size" "Text.size" sSize f) (T : Tc w K mg) : Kp P w K mg base 1 f (spSize K) := by
  refine kp_of D scSize (fun _ _ _ _ _ _ us hl => match us, hl with | [_], _ => rfl) ?_ (fun cdv A outer s H vs Q E hr h => ?_)
  · rintro vs H Q E ⟨x, st, rfl, _⟩
    rfl
  · obtain ⟨x, st, rfl, t, q⟩ := h
    obtain ⟨dx, ts, sp, as, ss, hx, _⟩ := t.obj
    exact ⟨_, (pss_one (ps_ret (pe_fld (pv 0) rfl))), _, rfl, x, _, dx, _, _, rfl, hx, T.clT, T.nT3, rfl, q⟩
theorem scTyped : FnScope ["self"] ["self"] (defScope sTyped) := ⟨rfl, rfl, rfl, by decide +kernel, rfl, by decide +kernel, by decide +kernel⟩
theorem ok_typed (D : Df K "typed_keys" "Text.typed_keys" sTyped f) (T : Tc w K mg) : Kp P w K mg base 1 f (spTyped K) := by
  refine kp_of D scTyped (fun _ _ _ _ _ _ us hl => match us, hl with | [_], _ => rfl) ?_ (fun cdv A outer s H vs Q E hr h => ?_)
  · rintro vs H Q E ⟨x, st, rfl, _⟩
    rfl
  · obtain ⟨x, st, rfl, t, q⟩ := h
    obtain ⟨dx, ts, sp, as, ss, hx, _⟩ := t.obj
    exact ⟨_, (pss_one (ps_ret (pe_fld (pv 0) rfl))), _, rfl, x, _, dx, _, _, rfl, hx, T.clT, T.nT4, rfl, q⟩
theorem scCheck : FnScope ["self", "place"] ["self", "place"] (defScope sCheck) := ⟨rfl, rfl, rfl, by decide +kernel, rfl, by decide +kernel, by decide +kernel⟩
theorem ok_check (D : Df K "_check_place" "Text._check_place" sCheck f) (T : Tc w K mg) (GN : Kp P w K mg base 1 (ga K "is_number") spIsNumber) : Kp P w K mg base 2 f (spCheck K) := by
  refine kp_of D scCheck (fun _ _ _ _ _ _ us hl => match us, hl with | [_, _], _ => rfl) ?_ (fun cdv A outer s H vs Q E hr h => ?_)
  · rintro vs H Q E ⟨x, p, st, rfl, _⟩
    rfl
  · obtain ⟨x, p, st, rfl, t, hp, q⟩ := h
    obtain ⟨dx, ts, sp, as, ss, hx, _⟩ := t.obj
    refine ⟨_, (pss_one (ps_if (pt_not (pt_val (pk_call GN hr T.gIsNumber (pa_cons (pv 1) (pa_cons pe_int (pa_cons (pe_op op_sub (pe_fld (pv 0) rfl) pe_int) pa_nil)))))) pss_never pss_nil)), ?_⟩
    refine ⟨_, rfl, _, rfl, x, _, dx, _, _, rfl, hx, T.clT, T.nT3, rfl, _, _, rfl, rfl, .int p, 0, _, rfl, rfl, ?_⟩
    have e : isNum (.int (p : Int)) 0 ((sz st : Int) - 1) = true := by
      show (decide ((0 : Int) ≤ p) && decide ((p : Int) ≤ (sz st : Int) - 1)) = true
      rw [decide_eq_true (by omega), decide_eq_true (by omega)]
      rfl
    refine ⟨true, congrArg V.bl e, ?_⟩
    exact q
theorem scCall : FnScope ["self", "place"] ["self", "place"] (defScope sCall) := ⟨rfl, rfl, rfl, by decide +kernel, rfl, by decide +kernel, by decide +kernel⟩
theorem lk_check (ts sp : Addr) (st : List Stp) : (txF ts sp st).lookup ("_check_place" : Str) = none := by rfl
theorem ok_call (D : Df K "__call__" "Text.__call__" sCall f) (T : Tc w K mg) (GC : Kp P w K mg base 2 (ma K (CT K) "_check_place") (spCheck K)) (GK : Kp P w K mg base 1 (ga K "key_at") (spKeyAt K)) : Kp P w K mg base 3 f (spCall K) := by
  obtain ⟨fdC, psC, FC, bC, kpC⟩ := GC
  refine kp_of D scCall (fun _ _ _ _ _ _ us hl => match us, hl with | [_, _], _ => rfl) ?_ (fun cdv A outer s H vs Q E hr h => ?_)
  · rintro vs H Q E ⟨x, p, st, rfl, _⟩
    rfl
  · obtain ⟨x, p, st, rfl, t, hp, q⟩ := h
    obtain ⟨dx, ts, sp, as, ss, hx, _, _, hsp, hss⟩ := t.obj
    refine ⟨_, (pss_cons (ps_expr (pe_meth (pv 0) T.clT T.mCheck FC hr bC .nil pass0 (pa_cons (pv 1) pa_nil))) (pss_one (ps_ret (pk_call GK (hr.mono (by decide)) T.gKeyAt (pa_cons (pe_fld (pv 0) rfl) (pa_cons (pv 1) pa_nil)))))), ?_⟩
    refine ⟨_, rfl, x, dx, _, rfl, hx, lk_check _ _ _, _, rfl, x, p, st, rfl, t, hp, ?_⟩
    exact ⟨_, rfl, x, _, dx, _, _, rfl, hx, T.clT, T.nT2, rfl, _, rfl, sp, p, ss, st, rfl, hsp, hss, t.good, hp, q⟩
end
end KL
namespace KL
open PySem PySem.Spec PyProof.Rows L2 Pk He
/-! ### sums and multiples in plain Lean -/
def plus (a b : List Stp) : List Stp := a ++ b.map (mv (sz a))
theorem mv_gr (s : Nat) (x : Stp) : (mv s x).gr = x.gr := by
  cases x with
  | wr w => rfl
  | pa f l t =>
    show (l + s + 1 - (f + s)) * t = (l + 1 - f) * t
    rw [show l + s + 1 - (f + s) = l + 1 - f by omega]
theorem mv_ks (s : Nat) (x : Stp) : (mv s x).ks = x.ks := by cases x <;> rfl
theorem mv_ty (s : Nat) (x : Stp) : (mv s x).ty = x.ty := by cases x <;> rfl
theorem mv_ok {s n : Nat} {x : Stp} (h : x.ok n = true) : (mv s x).ok (s + n) = true := by
  cases x with
  | wr w => exact h
  | pa f l t =>
    simp [Stp.ok] at h
    simp [mv, Stp.ok]
    omega
theorem sz_mv (s : Nat) (b : List Stp) : sz (b.map (mv s)) = sz b := by
  unfold sz
  rw [List.map_map]
  congr 1
  exact List.map_congr_left fun x _ => mv_gr s x
theorem nk_mv (s : Nat) (b : List Stp) : nk (b.map (mv s)) = nk b := by
  unfold nk
  rw [List.map_map]
  congr 1
  exact List.map_congr_left fun x _ => mv_ks s x
theorem goes_mv {m s : Nat} : ∀ {n : Nat} {b : List Stp}, Goes m n b → s + n + sz b ≤ m → Goes m (s + n) (b.map (mv s))
  | _, [], _, _ => trivial
  | n, x :: r, h, hl => by
    rw [sz_cons] at hl
    refine ⟨mv_ok h.1, by rw [mv_gr]; omega, ?_⟩
    have ih := goes_mv (s := s) h.2.2 (by omega)
    rw [mv_gr, Nat.add_assoc]
    exact ih
theorem goes_plus {a b : List Stp} (ha : Goes most 0 a) (hb : Goes most 0 b) (hl : sz a + sz b ≤ most) : Goes most 0 (plus a b) := by
  refine goes_app.mpr ⟨ha, ?_⟩
  rw [Nat.zero_add]
  exact goes_mv (s := sz a) (n := 0) hb (by omega)
theorem sz_plus (a b : List Stp) : sz (plus a b) = sz a + sz b := by
  unfold plus
  rw [sz_app, sz_mv]
/-- times n, at least twice -/
def timesL (a : List Stp) (n : Nat) : List Stp := a ++ [.pa 0 (sz a - 1) (n - 1)]
theorem gr_pos {s : Nat} {x : Stp} (h : x.ok s = true) : 0 < x.gr := by
  cases x with
  | wr w =>
    simp [Stp.ok] at h
    exact h.1.1
  | pa f l t =>
    simp [Stp.ok] at h
    exact Nat.mul_pos (by omega) (by omega)
theorem sz_pos {a : List Stp} (ha : Goes most 0 a) (h : a ≠ []) : 0 < sz a := by
  cases a with
  | nil => exact absurd rfl h
  | cons x r =>
    rw [sz_cons]
    have := gr_pos ha.1
    omega
theorem sz_times {a : List Stp} {n : Nat} (ha : Goes most 0 a) (h : a ≠ []) (hn : 2 ≤ n) : sz (timesL a n) = n * sz a := by
  have h0 := sz_pos ha h
  unfold timesL
  rw [sz_app, sz_cons]
  show sz a + ((sz a - 1 + 1 - 0) * (n - 1) + 0) = n * sz a
  rw [show sz a - 1 + 1 - 0 = sz a by omega]
  obtain ⟨m, rfl⟩ : ∃ m, n = m + 1 := ⟨n - 1, by omega⟩
  rw [Nat.add_sub_cancel, Nat.add_mul, Nat.one_mul, Nat.add_zero, Nat.mul_comm (sz a) m, Nat.add_comm]
theorem goes_times {a : List Stp} {n : Nat} (ha : Goes most 0 a) (h : a ≠ []) (hn : 2 ≤ n) (hm : n ≤ 1000000000) (hl : n * sz a ≤ most) : Goes most 0 (timesL a n) := by
  have h0 := sz_pos ha h
  have hs := sz_times ha h hn
  refine goes_app.mpr ⟨ha, ?_, ?_, trivial⟩
  · simp [Stp.ok]
    omega
  · unfold timesL at hs
    rw [sz_app, sz_cons] at hs
    have hz : sz ([] : List Stp) = 0 := rfl
    rw [hz] at hs
    omega
/-! ### other letters -/
def relet (ls : List Nat) : Nat → List Stp → List Stp
  | _, [] => []
  | n, .wr w :: r => .wr ((ls.drop n).take w.length) :: relet ls (n + w.length) r
  | n, .pa f l t :: r => .pa f l t :: relet ls n r
theorem relet_len (ls : List Nat) : ∀ (n : Nat) (st : List Stp), (relet ls n st).length = st.length
  | _, [] => rfl
  | n, .wr w :: r => congrArg (· + 1) (relet_len ls (n + w.length) r)
  | n, .pa f l t :: r => congrArg (· + 1) (relet_len ls n r)
theorem relet_app (ls : List Nat) : ∀ (n : Nat) (a b : List Stp), relet ls n (a ++ b) = relet ls n a ++ relet ls (n + nk a) b
  | n, [], b => by simp [relet, nk]
  | n, .wr w :: a, b => by
    show _ :: relet ls (n + w.length) (a ++ b) = _ :: (relet ls (n + w.length) a ++ _)
    rw [relet_app ls (n + w.length) a b]
    simp [nk, Stp.ks, Nat.add_assoc]
  | n, .pa f l t :: a, b => by
    show _ :: relet ls n (a ++ b) = _ :: (relet ls n a ++ _)
    rw [relet_app ls n a b]
    simp [nk, Stp.ks]
/-- one step with other letters -/
def rel1 (ls : List Nat) (n : Nat) : Stp → Stp
  | .wr w => .wr ((ls.drop n).take w.length)
  | .pa f l t => .pa f l t
theorem relet_take (ls : List Nat) {st : List Stp} {i : Nat} {x : Stp} (h : st[i]? = some x) : relet ls 0 (st.take (i + 1)) = relet ls 0 (st.take i) ++ [rel1 ls (nk (st.take i)) x] := by
  rw [take_succ h, relet_app, Nat.zero_add]
  cases x <;> rfl
theorem rel1_gr {ls : List Nat} {n : Nat} {x : Stp} (h : n + x.ks ≤ ls.length) : (rel1 ls n x).gr = x.gr := by
  cases x with
  | wr w =>
    show ((ls.drop n).take w.length).length = w.length
    have h2 : n + w.length ≤ ls.length := h
    rw [List.length_take, List.length_drop]
    omega
  | pa f l t => rfl
theorem rel1_ok {ls : List Nat} {n s : Nat} {x : Stp} (h : n + x.ks ≤ ls.length) (hl : ls.all isLet = true) (ok : x.ok s = true) : (rel1 ls n x).ok s = true := by
  cases x with
  | wr w =>
    have hg : ((ls.drop n).take w.length).length = w.length := rel1_gr (x := .wr w) h
    simp only [Stp.ok, Bool.and_eq_true, decide_eq_true_eq] at ok
    show (decide (1 ≤ ((ls.drop n).take w.length).length) && decide (((ls.drop n).take w.length).length ≤ 20) && ((ls.drop n).take w.length).all isLet) = true
    rw [hg, decide_eq_true ok.1.1, decide_eq_true ok.1.2]
    rw [List.all_eq_true] at hl
    simp only [Bool.and_self, Bool.true_and, List.all_eq_true]
    intro c hc
    exact hl c (List.mem_of_mem_drop (List.mem_of_mem_take hc))
  | pa f l t => exact ok
theorem goes_relet {m : Nat} {ls : List Nat} (hl : ls.all isLet = true) : ∀ {s n : Nat} {st : List Stp}, Goes m s st → n + nk st ≤ ls.length → Goes m s (relet ls n st)
  | _, _, [], _, _ => trivial
  | s, n, x :: r, h, hn => by
    have e : nk (x :: r) = x.ks + nk r := by simp [nk]
    rw [e] at hn
    have h1 : n + x.ks ≤ ls.length := by omega
    have e2 : relet ls n (x :: r) = rel1 ls n x :: relet ls (n + x.ks) r := by cases x <;> rfl
    rw [e2]
    refine ⟨rel1_ok h1 hl h.1, by rw [rel1_gr h1]; exact h.2.1, ?_⟩
    rw [rel1_gr h1]
    exact goes_relet hl h.2.2 (by omega)
def spAdd (K : Fr) : Sp := fun vs H Q _ => ∃ (x y : Addr) (a b : List Stp), vs = [.ref x, .ref y] ∧ TA_ K H x a ∧ TA_ K H y b ∧ sz a + sz b ≤ most ∧ a.length + b.length ≤ 30 ∧ ∀ z H2, H z = none → Same H H2 → TA_ K H2 z (plus a b) → Q (.ref z) H2
def spMul (K : Fr) : Sp := fun vs H Q _ => ∃ (x : Addr) (n : Nat) (a : List Stp), vs = [.ref x, .int n] ∧ 1 ≤ n ∧ n ≤ 1000000000 ∧ TA_ K H x a ∧ (n = 1 ∨ a = [] → Q (.ref x) H) ∧
  (2 ≤ n → a ≠ [] → n * sz a ≤ most ∧ a.length < 30 ∧ ∀ z H2, H z = none → Same H H2 → TA_ K H2 z (timesL a n) → Q (.ref z) H2)
def spWith (K : Fr) : Sp := fun vs H Q _ => ∃ (x : Addr) (ls : List Nat) (st : List Stp), vs = [.ref x, .str (sL ls)] ∧ TA_ K H x st ∧ ls.length = nk st ∧ ls.all isLet = true ∧ ∀ z H2, H z = none → Same H H2 → TA_ K H2 z (relet ls 0 st) → Q (.ref z) H2
theorem yes_go {te : TE} {σ : L2.St} {H : Hp} {N : VK} {N0 : Hp → Prop} (h : te σ H N) : tYes σ H fun b H3 => if b = true then te σ H3 N else N0 H3 := by
  show (if true = true then te σ H N else N0 H)
  rw [if_pos rfl]
  exact h
/-! ### a list changes, texts stand -/
theorem sqT_butL {K : Fr} {H H2 : Hp} {r a : Addr} {ys xs : List V} (hr : H r = some (.lst ys)) (b : But r H H2) (h : SqT K H a xs) : SqT K H2 a xs := by
  rcases h with (h | ⟨o, h⟩) | h
  · exact .inl (.inl (b _ _ (ne_of h hr (by intro z; cases z)) h))
  · exact .inl (.inr ⟨o, b _ _ (ne_of h hr (by intro z; cases z)) h⟩)
  · exact .inr h
theorem steps_butL {K : Fr} {H H2 : Hp} {r : Addr} {ys : List V} {as : List Addr} {st : List Stp} (hr : H r = some (.lst ys)) (b : But r H H2) (h : StepsAt K H as st) : StepsAt K H2 as st :=
  ⟨h.len, fun i x hx => let ⟨a, h1, h2⟩ := h.at_ i x hx; ⟨a, h1, sqT_butL hr b h2⟩⟩
theorem spans_butL {CS : Addr} {H H2 : Hp} {r : Addr} {ys : List V} {ss : List Addr} {st : List Stp} (hr : H r = some (.lst ys)) (b : But r H H2) (h : SpansAt CS H ss st) : SpansAt CS H2 ss st :=
  ⟨h.len, fun i x hx => let ⟨a, dx, h1, h2⟩ := h.at_ i x hx; ⟨a, dx, h1, b _ _ (ne_of h2 hr (by intro z; cases z)) h2⟩⟩
theorem text_butL {K : Fr} {H H2 : Hp} {r x : Addr} {ys : List V} {st : List Stp} (hr : H r = some (.lst ys)) (b : But r H H2) (h : TA_ K H x st) : TA_ K H2 x st := by
  obtain ⟨dx, ts, sp, as, ss, h1, h2, h3, h4, h5⟩ := h.obj
  exact ⟨h.good, h.few, dx, ts, sp, as, ss, b _ _ (ne_of h1 hr (by intro z; cases z)) h1, sqT_butL hr b h2, steps_butL hr b h3, sqT_butL hr b h4, spans_butL hr b h5⟩
theorem steps_app {K : Fr} {H : Hp} {as bs : List Addr} {a b : List Stp} (h1 : StepsAt K H as a) (h2 : StepsAt K H bs b) : StepsAt K H (as ++ bs) (a ++ b) := by
  refine ⟨by rw [List.length_append, List.length_append, h1.len, h2.len], fun i x hx => ?_⟩
  by_cases hi : i < a.length
  · rw [List.getElem?_append_left hi] at hx
    rw [List.getElem?_append_left (by rw [h1.len]; exact hi)]
    exact h1.at_ i x hx
  · rw [List.getElem?_append_right (by omega)] at hx
    rw [List.getElem?_append_right (by rw [h1.len]; omega), h1.len]
    exact h2.at_ _ x hx
section
variable {P : Program} {w : World} {K : Fr} {mg : Str → Option Value} {base : Heap} {f : Addr}
theorem scAdd : FnScope ["self", "other", "moved", "steps", "step"] ["self", "other"] (defScope sAdd) := ⟨rfl, rfl, rfl, by decide +kernel, rfl, by decide +kernel, by decide +kernel⟩
theorem ok_add (D : Df K "__add__" "Text.__add__" sAdd f) (T : Tc w K mg) (GI : FnR P w K mg base CX0 5 (ma K (CT K) "__init__") (spInit5 K)) (GM : Kp P w K mg base 1 (ga K "moved_step") (spMoved K)) : Kp P w K mg base 7 f (spAdd K) := by
  refine kp_of D scAdd (fun _ _ _ _ _ _ us hl => match us, hl with | [_, _], _ => rfl) ?_ (fun cdv A outer s H vs Q E hr h => ?_)
  · rintro vs H Q E ⟨x, y, a, b, rfl, _⟩
    rfl
  · obtain ⟨x, y, a, b, rfl, ta, tb, hl, few, q⟩ := h
    obtain ⟨dx, ts, sp, as, ss, hx, hts, hst, _⟩ := ta.obj
    obtain ⟨dy, ts2, sp2, as2, ss2, hy, hts2, hst2, _⟩ := tb.obj
    refine ⟨_, (pss_cons (ps_if (pt_not (pt_val (pe_callB (C8.call_isC T.insT) (by rfl) T.isi boot_isinstance (pa_cons (pv 1) (pa_cons (pe_gR T.gText) pa_nil))))) pss_never pss_nil) (pss_cons (ps_setLc (i := 2) (own := [("step", 4)]) (g := gName 4) (tt := tYes) rfl scAdd.nd rfl rfl (sw_true rfl rfl rfl (by decide +kernel)) (pi_tup (pe_fld (pv 1) rfl)) (blkOk_by (N := ["self", "other", "moved", "steps", "step"]) (sc := defScope sAdd) (by decide +kernel)) (fun _ _ _ _ _ => (pg_name (i := 4) scAdd.nd rfl (Or.inl rfl))) (fun _ _ _ _ _ => pts_nil) (fun _ _ _ _ _ => (pk_call GM (hr.mono (by decide)) T.gMoved (pa_cons (pv 4) (pa_cons (fldK K (pv 0)) pa_nil))))) (pss_cons (ps_set (i := 3) scAdd.nd rfl (Or.inl rfl) (pe_lst (StX.pa_star (pe_fld (pv 0) rfl) (StX.pa_star (pv 2) pa_nil)))) (pss_one (ps_ret (pe_makeS T.mkT GI hr rfl T.gText pass0 (pv 3))))))), ?_⟩
    refine ⟨_, rfl, y, dy, _, rfl, hy, true, rfl, ?_⟩
    refine iteF ?_
    refine ⟨_, rfl, y, _, dy, _, _, rfl, hy, T.clT, T.nT1, rfl, ts2, rfl, ⟨_, hts2⟩, fun D hD => ?_⟩
    have hn : (as2.map V.ref).length = b.length := by rw [List.length_map, hst2.len]
    refine lc_it (walk_tup (xs := as2.map V.ref)) (fun i H2 => Same H H2 ∧ ∃ bs, H2 D = some (.lst (bs.map V.ref)) ∧ StepsAt K H2 bs ((b.take i).map (mv (sz a)))) ⟨same_upd hD, [], upd_same, StepsAt.nil⟩ (fun i H2 _ p => same_sqT p.1 hts2) ?_ ?_
    · rintro i v H2 H3 hi ⟨s2, bs, hD2, hbs⟩ ⟨rfl, hv⟩
      rw [hn] at hi
      obtain ⟨z, hz⟩ : ∃ z, b[i]? = some z := ⟨b[i], List.getElem?_eq_getElem hi⟩
      obtain ⟨c, hc, hcz⟩ := hst2.at_ i z hz
      have ev : v = .ref c := map_at hc hv
      subst ev
      refine ⟨rfl, yes_go ?_⟩
      refine ⟨_, rfl, _, rfl, x, _, dx, _, _, rfl, s2 _ _ hx, T.clT, T.nT3, rfl, c, z, sz a, rfl, same_sqT s2 hcz, fun m H4 s4 hm => ?_⟩
      have hD4 := s4 _ _ hD2
      refine ⟨_, hD4, ?_, ?_, bs ++ [m], by rw [upd_same, List.map_append]; rfl, ?_⟩
      · rw [List.length_map, hbs.len, List.length_map, List.length_take]
        exact Nat.lt_of_le_of_lt (Nat.le_trans (Nat.min_le_right _ _) tb.few) (by decide)
      · intro q o e
        rw [upd_ne (ne_of_none e hD)]
        exact s4 _ _ (s2 _ _ e)
      · rw [take_succ hz, List.map_append]
        exact (steps_butL hD4 but_upd (hbs.same s4)).snoc (sqT_butL hD4 but_upd hm)
    · rintro H2 ⟨s2, bs, hD2, hbs⟩
      rw [hn, List.take_length] at hbs
      refine ⟨_, rfl, x, _, dx, _, _, rfl, s2 _ _ hx, T.clT, T.nT1, rfl, ts, _, rfl, .inl (same_sqT s2 hts), _, rfl, D, _, rfl, .inr (SqL.of hD2), ?_, fun p hp => ?_⟩
      · rw [List.append_nil, List.length_append, List.length_map, List.length_map, hst.len, hbs.len, List.length_map]
        exact Nat.le_trans few (by decide)
      · have e : as.map V.ref ++ (bs.map V.ref ++ []) = (as ++ bs).map V.ref := by simp
        rw [e]
        have s3 : Same H2 (upd H2 p (.lst ((as ++ bs).map V.ref))) := same_upd hp
        refine ⟨_, rfl, p, _, rfl, .inr (SqL.of upd_same), ?_⟩
        refine make_text T.csct (st := plus a b) (steps_app (hst.same (s2.trans s3)) (hbs.same s3)) (goes_plus ta.good tb.good hl) (by unfold plus; rw [List.length_append, List.length_map]; exact few) fun z H4 hz s4 t => ?_
        exact q z H4 ((s2.trans s3).free hz) (s2.trans (s3.trans s4)) t
end
end KL
namespace KL
open PySem PySem.Spec PyProof.Rows L2 Pk He
theorem dec_int_t {i j : Int} (h : i = j) : decide (V.int i = V.int j) = true := decide_eq_true (by rw [h])
theorem dec_int_f {i j : Int} (h : i ≠ j) : decide (V.int i = V.int j) = false := decide_eq_false (fun z => h (by injection z))
section
variable {P : Program} {w : World} {K : Fr} {mg : Str → Option Value} {base : Heap} {f : Addr}
theorem scMul : FnScope ["self", "other", "steps"] ["self", "other"] (defScope sMul) := ⟨rfl, rfl, rfl, by decide +kernel, rfl, by decide +kernel, by decide +kernel⟩
theorem ok_mul (D : Df K "__mul__" "Text.__mul__" sMul f) (T : Tc w K mg) (GI : FnR P w K mg base CX0 5 (ma K (CT K) "__init__") (spInit5 K)) (GN : Kp P w K mg base 1 (ga K "is_number") spIsNumber) : Kp P w K mg base 7 f (spMul K) := by
  refine kp_of D scMul (fun _ _ _ _ _ _ us hl => match us, hl with | [_, _], _ => rfl) ?_ (fun cdv A outer s H vs Q E hr h => ?_)
  · rintro vs H Q E ⟨x, n, a, rfl, _⟩
    rfl
  · obtain ⟨x, n, a, rfl, h1, h2, ta, q1, q2⟩ := h
    obtain ⟨dx, ts, sp, as, ss, hx, hts, hst, _⟩ := ta.obj
    obtain ⟨tm, hMT⟩ := T.mostTimes
    have e : isNum (.int (n : Int)) 1 1000000000 = true := by
      show (decide ((1 : Int) ≤ n) && decide ((n : Int) ≤ 1000000000)) = true
      rw [decide_eq_true (by omega), decide_eq_true (by omega)]
      rfl
    refine ⟨_, (pss_cons (ps_if (pt_not (pt_val (pk_call GN (hr.mono (by decide)) T.gIsNumber (pa_cons (pv 1) (pa_cons pe_int (pa_cons (pe_gI hMT) pa_nil)))))) pss_never pss_nil) (pss_cons (ps_if (pw_or (pt_cmpR op_eq (pv 1) pe_int (nomark _)) (pw_or1 (pt_cmpR op_eq (pe_fld (pv 0) rfl) pe_int (nomark _)))).pt (pss_one (ps_ret (pv 0))) pss_nil) (pss_cons (ps_set (i := 2) scMul.nd rfl (Or.inl rfl) (pe_lst (StX.pa_star (pe_fld (pv 0) rfl) (pa_cons (pe_tup (pa_cons pe_str (pa_cons pe_int (pa_cons (pe_op op_sub (pe_fld (pv 0) rfl) pe_int) (pa_cons (pe_op op_sub (pv 1) pe_int) pa_nil))))) pa_nil)))) (pss_one (ps_ret (pe_makeS T.mkT GI hr rfl T.gText pass0 (pv 2))))))), ?_⟩
    refine ⟨_, rfl, .int n, 1, _, rfl, rfl, true, congrArg V.bl e, ?_⟩
    refine iteF ?_
    refine ⟨_, rfl, rfl, _, rfl, ?_⟩
    by_cases hn : n = 1
    · rw [dec_int_t (by omega)]
      refine iteT ?_
      exact ⟨_, rfl, q1 (.inl hn)⟩
    · rw [dec_int_f (by omega)]
      refine iteF ?_
      refine ⟨_, rfl, x, _, dx, _, _, rfl, hx, T.clT, T.nT3, rfl, rfl, _, rfl, ?_⟩
      by_cases ha : a = []
      · subst ha
        refine iteT ?_
        exact ⟨_, rfl, q1 (.inr rfl)⟩
      · have hz := sz_pos ta.good ha
        obtain ⟨hl, few, q⟩ := q2 (by omega) ha
        rw [dec_int_f (show ((sz a : Nat) : Int) ≠ 0 by omega)]
        refine iteF ?_
        refine ⟨_, rfl, x, _, dx, _, _, rfl, hx, T.clT, T.nT1, rfl, ts, _, rfl, .inl hts, _, rfl, x, _, dx, _, _, rfl, hx, T.clT, T.nT3, rfl, _, _, rfl, rfl, _, rfl, _, _, rfl, rfl, (by show 4 ≤ sizeLine; decide), fun p hp => ?_⟩
        have s1 : Same H (upd H p (.tup [.str "paste", .int 0, .int ((sz a : Int) - 1), .int ((n : Int) - 1)])) := same_upd hp
        generalize hH1 : upd H p (.tup [.str "paste", .int 0, .int ((sz a : Int) - 1), .int ((n : Int) - 1)]) = H1 at s1
        have hp1 : SqT K H1 p (stV (.pa 0 (sz a - 1) (n - 1))) := by
          rw [← hH1]
          refine .inl (.inl ?_)
          rw [upd_same]
          show some (HO.tup [.str "paste", .int 0, .int ((sz a : Int) - 1), .int ((n : Int) - 1)]) = some (HO.tup [.str "paste", .int ((0 : Nat) : Int), .int ((sz a - 1 : Nat) : Int), .int ((n - 1 : Nat) : Int)])
          rw [show ((sz a : Int) - 1) = ((sz a - 1 : Nat) : Int) by omega, show ((n : Int) - 1) = ((n - 1 : Nat) : Int) by omega]
          rfl
        refine ⟨?_, fun l hl1 => ?_⟩
        · rw [List.length_append, List.length_map, hst.len]
          exact Nat.le_trans (show a.length + 1 ≤ 30 by omega) (by decide)
        · have e2 : as.map V.ref ++ [V.ref p] = (as ++ [p]).map V.ref := by simp
          rw [e2]
          have s2 : Same H1 (upd H1 l (.lst ((as ++ [p]).map V.ref))) := same_upd hl1
          refine ⟨_, rfl, l, _, rfl, .inr (SqL.of upd_same), ?_⟩
          refine make_text T.csct (st := timesL a n) ((hst.same (s1.trans s2)).snoc (same_sqT s2 hp1)) (goes_times ta.good ha (by omega) h2 hl) (by unfold timesL; rw [List.length_append]; exact few) fun z H4 hz s4 t => ?_
          exact q z H4 ((s1.trans s2).free hz) (s1.trans (s2.trans s4)) t
end
end KL
namespace KL
open PySem PySem.Spec PyProof.Rows L2 Pk He
/-- the law's row of draws at r: the script, how far it is read, the seed, what is held -/
def RowAt (K : Fr) (S : Addr × List Int) (H : Hp) (r : Addr) : Prop := ∃ (i seed held : Int), H r = some (.lst [.ref S.1, .int i, .int seed, .int held]) ∧ SqL K H S.1 (S.2.map V.int) ∧ 0 ≤ i ∧ 0 ≤ seed ∧ seed < 2147483647 ∧ 0 ≤ held ∧ ∀ (H1 : Hp) (o : HO), SqL K H1 S.1 (S.2.map V.int) → SqL K (upd H1 r o) S.1 (S.2.map V.int)
theorem RowAt.same {K : Fr} {S : Addr × List Int} {H H2 : Hp} {r : Addr} (h : RowAt K S H r) (s : Same H H2) : RowAt K S H2 r := by
  obtain ⟨i, sd, hd, h1, h2, h3⟩ := h
  exact ⟨i, sd, hd, s _ _ h1, s.seq h2, h3⟩
theorem RowAt.lst {K : Fr} {S : Addr × List Int} {H : Hp} {r : Addr} (h : RowAt K S H r) : ∃ xs, H r = some (.lst xs) := by
  obtain ⟨i, sd, hd, h1, h2, h3⟩ := h
  exact ⟨_, h1⟩
theorem sqL_upd {K : Fr} {H : Hp} {r a : Addr} {o : HO} {xs : List V} (hne : a ≠ r) (h : SqL K H a xs) : SqL K (upd H r o) a xs := by
  rcases h with (h | ⟨u, h⟩) | h
  · exact .inl (.inl (by rw [upd_ne hne]; exact h))
  · exact .inl (.inr ⟨u, by rw [upd_ne hne]; exact h⟩)
  · exact .inr h
/-- what a draw is worth: any number below the bound; all but the row stands -/
def Draws (K : Fr) (S : Addr × List Int) (r : Addr) (H : Hp) (m : Int) (Q : VK) : Prop := ∀ (v : Int) (H2 : Hp), RowAt K S H2 r → But r H H2 → 0 ≤ v → v < m → Q (.int v) H2
def spTaken (K : Fr) : Sp := fun vs H Q _ => ∃ (r : Addr) (m : Int), vs = [.ref r, .int m] ∧ ∃ S : Addr × List Int, RowAt K S H r ∧ 0 < m ∧ m < 1073741824 ∧ Draws K S r H m Q
/-- the letters that are drawn -/
def isAz (c : Nat) : Bool := decide (c = 97) || decide (c = 98) || decide (c = 99) || decide (c = 122)
section
variable {K : Fr} {S : Addr × List Int}
theorem sqT_row {H H2 : Hp} {r a : Addr} {xs : List V} (h : RowAt K S H r) (b : But r H H2) (t : SqT K H a xs) : SqT K H2 a xs := let ⟨_, hx⟩ := h.lst; sqT_butL hx b t
theorem steps_row {H H2 : Hp} {r : Addr} {as : List Addr} {st : List Stp} (h : RowAt K S H r) (b : But r H H2) (t : StepsAt K H as st) : StepsAt K H2 as st := let ⟨_, hx⟩ := h.lst; steps_butL hx b t
theorem text_row {H H2 : Hp} {r x : Addr} {st : List Stp} (h : RowAt K S H r) (b : But r H H2) (t : TA_ K H x st) : TA_ K H2 x st := let ⟨_, hx⟩ := h.lst; text_butL hx b t
theorem row_ne {H : Hp} {r p : Addr} (h : RowAt K S H r) (hp : H p = none) : p ≠ r := fun e => by
  obtain ⟨xs, hx⟩ := h.lst
  rw [e, hx] at hp
  cases hp
theorem RowAt.upd {H : Hp} {r p : Addr} {o : HO} (h : RowAt K S H r) (hp : H p = none) : RowAt K S (L2.upd H p o) r := h.same (same_upd hp)
theorem sqL_far {H0 H : Hp} {a D : Addr} {o : HO} {xs : List V} (h0 : SqL K H0 a xs) (hD : H0 D = none) (h : SqL K H a xs) : SqL K (upd H D o) a xs := by
  rcases h0 with (h0 | ⟨u, h0⟩) | h0
  · exact sqL_upd (ne_of_none h0 hD) h
  · exact sqL_upd (ne_of_none h0 hD) h
  · exact .inr h0
/-- what was made after the row stood may change -/
theorem RowAt.far {H0 H : Hp} {r D : Addr} {o : HO} (h0 : RowAt K S H0 r) (hD : H0 D = none) (h : RowAt K S H r) : RowAt K S (L2.upd H D o) r := by
  have n := row_ne h0 hD
  obtain ⟨_, _, _, _, g0, _⟩ := h0
  obtain ⟨i, sd, hd, h1, h2, h3⟩ := h
  exact ⟨i, sd, hd, by rw [upd_ne n.symm]; exact h1, sqL_far g0 hD h2, h3⟩
end
end KL
namespace KL
open PySem PySem.Spec PyProof.Rows L2 Pk He
section
variable {P : Program} {w : World} {K : Fr} {mg : Str → Option Value} {base : Heap} {f : Addr}
theorem fn_of {P : Program} {w : World} {K : PySem.W.Frag} {mg : Str → Option Value} {base : Heap} {k : Nat} {f : Addr} {sp : Sp} {x qual : Str} {st : Stmt} {kws : List (Str × V)} {N ps : List Str} {fd : FuncData} (F : FunD K x qual (defArgs st) (defBody st) (defScope st) [] kws f fd) (S : FnScope N ps (defScope st))
    (len : ∀ vs H Q E, sp vs H Q E → vs.length = ps.length)
    (hbody : ∀ (cdv : Value) (A : Around) (outer : List Env) (s : Shared) (H : Hp) (vs : List V) (Q : VK) (E : XK), Room k (A.deeper (envOfC qual (defScope st) s.heap.objs.size f cdv)) → sp vs H Q E →
      ∃ t, PSs (cxOf CX0 P w K mg base N qual (defScope st) f cdv A outer s H E).nox (defBody st) t ∧ t { nx := fun _ H' => Q .non H', rt := Q } (start N vs) H) : FnOk P w K mg base CX0 (k + 1) f fd ps sp := F.ok S len fun cdv A outer s H vs Q E hr h => by
  obtain ⟨t, h1, h2⟩ := hbody cdv A outer s H vs Q E hr h
  exact ⟨t, h1.nox, h2⟩
/-- numbers as values -/
def nV (l : List Nat) : List V := l.map fun k => V.int (k : Nat)
theorem nV_len (l : List Nat) : (nV l).length = l.length := List.length_map ..
theorem map_getD (l : List Nat) : (List.range l.length).map (fun i => V.int ((l.getD i 0 : Nat))) = nV l := by
  unfold nV
  refine List.ext_getElem (by simp) fun i h1 h2 => ?_
  simp only [List.length_map, List.length_range] at h1
  simp [List.getD_eq_getElem?_getD, List.getElem?_eq_getElem h1]
theorem typed_small {H : Hp} {x : Addr} {st : List Stp} (t : TA_ K H x st) : (sL (typed st)).length ≤ 600 := by
  rw [sL_len, typed_len]
  have h1 := nk_le t.good
  have h2 := t.few
  omega
theorem lk_with (ts sp : Addr) (st : List Stp) : (txF ts sp st).lookup ("with_letters" : Str) = none := by rfl
theorem sum_one (ls : List Nat) : ((ls.map (fun c => sL [c])).map (·.length)).sum = ls.length := by
  induction ls with
  | nil => rfl
  | cons c r ih =>
    simp only [List.map_cons, List.sum_cons, ih, List.length_cons, sL_len, List.length_nil]
    omega
theorem join_one (ls : List Nat) : Txt.join (Str.ofString "") (ls.map (fun c => sL [c])) = sL ls := by
  have h : ∀ l : List Nat, TL.joinL [] (l.map fun c => [c]) = l := by
    intro l
    induction l with
    | nil => rfl
    | cons c r ih =>
      cases r with
      | nil => rfl
      | cons d r => exact congrArg (c :: ·) ih
  have h1 : (Txt.join (Str.ofString "") (ls.map (fun c => sL [c]))).cps.toList = ls := by
    rw [TL.join_eq]
    refine (TL.tl_join _ _).trans ?_
    rw [List.map_map]
    exact h ls
  rw [sL_of (Txt.join (Str.ofString "") (ls.map (fun c => sL [c]))), h1]
theorem nV_at {l : List Nat} {i : Nat} {x : V} (h : (nV l)[i]? = some x) : ∃ k, l[i]? = some k ∧ x = .int (k : Nat) := by
  unfold nV at h
  rw [List.getElem?_map] at h
  cases e : l[i]? with
  | none => rw [e] at h; cases h
  | some k => rw [e] at h; cases h; exact ⟨k, rfl, rfl⟩
theorem ins_row {K : Fr} {S : Addr × List Int} {H H2 : Hp} {r x C dx : Addr} {fs : List (Str × V)} (h : RowAt K S H r) (b : But r H H2) (hx : H x = some (.ins C dx fs)) : H2 x = some (.ins C dx fs) := by
  obtain ⟨_, hr⟩ := h.lst
  exact b _ _ (ne_of hx hr (by intro z; cases z)) hx
theorem keys_pos {st : List Stp} (h0 : 0 < sz st) (hl : (ex st).length = sz st) : 0 < nk st := by
  cases e : ex st with
  | nil =>
    rw [e] at hl
    simp at hl
    omega
  | cons k r =>
    have := ex_lt st k (by rw [e]; exact List.mem_cons_self)
    omega
theorem typed_let {m : Nat} : ∀ {s : Nat} {st : List Stp}, Goes m s st → (typed st).all isLet = true
  | _, [], _ => rfl
  | s, .wr w :: r, h => by
    have h1 := h.1
    simp only [Stp.ok, Bool.and_eq_true] at h1
    have h2 := typed_let h.2.2
    show (w ++ typed r).all isLet = true
    rw [List.all_append, h1.2, h2]
    rfl
  | s, .pa f l t :: r, h => typed_let (st := r) h.2.2
def iD (l : List Nat) : List PyData := l.map fun k => .int (k : Nat)
def nD (l : List Nat) : PyData := .list (iD l)
theorem iD_dp {K : Fr} {H : Hp} : ∀ l : List Nat, DpAll K H (nV l) (iD l)
  | [] => .nil
  | k :: r => .cons (.int _) (iD_dp r)
theorem nD_dp {K : Fr} {H : Hp} {a : Addr} {l : List Nat} (h : H a = some (.lst (nV l))) : Dp K H (.ref a) (nD l) := .lst (SqL.of h) (iD_dp l)
theorem iD_lay : ∀ l : List Nat, PyData.canLayAll0 (iD l) = true
  | [] => by simp [iD, PyData.canLayAll0]
  | k :: r => by
    have := iD_lay r
    show PyData.canLayAll0 (PyData.int (k : Nat) :: iD r) = true
    simp [PyData.canLayAll0, PyData.canLay0, this]
theorem iD_depth : ∀ l : List Nat, PyData.depthAll (iD l) ≤ 1
  | [] => by simp [iD, PyData.depthAll]
  | k :: r => by
    have := iD_depth r
    show PyData.depthAll (PyData.int (k : Nat) :: iD r) ≤ 1
    simp only [PyData.depthAll, PyData.depth]
    omega
theorem nD_shaped (l : List Nat) : SeqAt.shaped (nD l) = true := by
  have h1 := iD_depth l
  have h2 : PyData.depth (nD l) ≤ 64 := by
    simp only [nD, PyData.depth]
    omega
  show (PyData.canLay0 (nD l) && decide (PyData.depth (nD l) ≤ 64)) = true
  rw [decide_eq_true h2, Bool.and_true]
  simp only [nD, PyData.canLay0]
  exact iD_lay l
theorem iD_eqv : ∀ a b : List Nat, PyData.eqvAll (iD a) (iD b) = decide (a = b)
  | [], [] => by simp [iD, PyData.eqvAll]
  | [], _ :: _ => by simp [iD, PyData.eqvAll]
  | _ :: _, [] => by simp [iD, PyData.eqvAll]
  | a :: r, b :: s => by
    have := iD_eqv r s
    show (PyData.eqv (.int (a : Nat)) (.int (b : Nat)) && PyData.eqvAll (iD r) (iD s)) = _
    rw [this]
    simp only [PyData.eqv]
    rw [Bool.eq_iff_iff]
    simp
    omega
theorem nD_eqv (a b : List Nat) : PyData.eqv (nD a) (nD b) = decide (a = b) := by
  simp only [nD, PyData.eqv]
  exact iD_eqv a b
theorem exF_relet (ls : List Nat) : ∀ (st : List Stp) (n : Nat) (E : List Nat) (k : Nat), n + nk st ≤ ls.length → exF E k (relet ls n st) = exF E k st
  | [], _, _, _, _ => rfl
  | .wr w :: r, n, E, k, h => by
    have e1 : nk (.wr w :: r) = w.length + nk r := by simp [nk, Stp.ks]
    have e2 : ((ls.drop n).take w.length).length = w.length := by
      rw [List.length_take, List.length_drop]
      omega
    show exF (E ++ List.range' k ((ls.drop n).take w.length).length) (k + ((ls.drop n).take w.length).length) (relet ls (n + w.length) r) = exF (E ++ List.range' k w.length) (k + w.length) r
    rw [e2]
    exact exF_relet ls r _ _ _ (by omega)
  | .pa f l t :: r, n, E, k, h => by
    have e1 : nk (.pa f l t :: r) = nk r := by simp [nk, Stp.ks]
    exact exF_relet ls r n _ _ (by omega)
theorem ex_relet {ls : List Nat} {st : List Stp} (h : ls.length = nk st) : ex (relet ls 0 st) = ex st := exF_relet ls st 0 [] 0 (by omega)
theorem ex_take {most : Nat} {st : List Stp} (h : Goes most 0 st) (j : Nat) : ex (st.take j) = (ex st).take (sz (st.take j)) := by
  obtain ⟨F, e⟩ := ex_pre (st.take j) (st.drop j)
  rw [List.take_append_drop] at e
  rw [e, ← ex_len _ (goes_take h j), List.take_left]
theorem sz_take_lt {st : List Stp} (h : Goes most 0 st) {j : Nat} (hj : j < st.length) : sz (st.take j) < sz st := by
  have e : st = st.take j ++ st.drop j := (List.take_append_drop _ _).symm
  have hx : st.drop j = st[j] :: st.drop (j + 1) := List.drop_eq_getElem_cons hj
  have e2 := congrArg sz e
  rw [sz_app, hx, sz_cons] at e2
  have := gr_pos (goes_at h (List.getElem?_eq_getElem hj)).1
  omega
theorem cut_refs (as : List Addr) (k : Nat) : cutV (as.map V.ref) none (some (k : Int)) = (as.take k).map V.ref := by
  unfold cutV
  rw [HT.sIx_nat, HT.sIx_none, List.drop_zero, Nat.sub_zero, List.length_map, List.map_take, List.take_eq_take_iff, List.length_map]
  omega
theorem steps_take {K : Fr} {H : Hp} {as : List Addr} {st : List Stp} (h : StepsAt K H as st) (k : Nat) : StepsAt K H (as.take k) (st.take k) := by
  refine ⟨by rw [List.length_take, List.length_take, h.len], fun i x hx => ?_⟩
  have hi : i < k := by
    have := (List.getElem?_eq_some_iff.mp hx).1
    rw [List.length_take] at this
    omega
  rw [List.getElem?_take_of_lt hi] at hx ⊢
  exact h.at_ i x hx
end
end KL
namespace KL
open PySem PySem.Spec PyProof.Rows L2 Pk He
/-! ### steps as data -/
def stD : Stp → PyData
  | .wr w => .tuple [.str "write", .str (sL w)]
  | .pa f l t => .tuple [.str "paste", .int (f : Nat), .int (l : Nat), .int (t : Nat)]
def spStepsP (K : Fr) : Sp := fun vs H Q _ => ∃ (x : Addr) (st : List Stp), vs = [.ref x] ∧ TA_ K H x st ∧ ∀ (ts : Addr) (as : List Addr), SqT K H ts (as.map V.ref) → StepsAt K H as st → Q (.ref ts) H
def spGet (K : Fr) : Sp := fun vs H Q _ => ∃ (x : Addr) (p : Nat) (st : List Stp), vs = [.ref x, .int p] ∧ TA_ K H x st ∧ p < sz st ∧ ∀ (k c : Nat) H2, Same H H2 → (ex st)[p]? = some k → (typed st)[k]? = some c → Q (.str (sL [c])) H2
def hasV (st : List Stp) : V → Bool
  | .str z => (match z.cps.toList with
    | [c] => isLet c && decide (c ∈ typed st)
    | _ => false)
  | _ => false
def spHas (K : Fr) : Sp := fun vs H Q _ => ∃ (x : Addr) (v : V) (st : List Stp), vs = [.ref x, v] ∧ TA_ K H x st ∧ flatV v = true ∧ fitV v ∧ Q (.bl (hasV st v)) H
section
variable {P : Program} {w : World} {K : Fr} {mg : Str → Option Value} {base : Heap} {f : Addr}
theorem scStepsP : FnScope ["self"] ["self"] (defScope sStepsP) := ⟨rfl, rfl, rfl, by decide +kernel, rfl, by decide +kernel, by decide +kernel⟩
theorem ok_stepsp (D : Df K "steps" "Text.steps" sStepsP f) (T : Tc w K mg) : Kp P w K mg base 1 f (spStepsP K) := by
  refine kp_of D scStepsP (fun _ _ _ _ _ _ us hl => match us, hl with | [_], _ => rfl) ?_ (fun cdv A outer s H vs Q E hr h => ?_)
  · rintro vs H Q E ⟨x, st, rfl, _⟩
    rfl
  · obtain ⟨x, st, rfl, t, q⟩ := h
    obtain ⟨dx, ts, sp, as, ss, hx, hts, hst, _⟩ := t.obj
    exact ⟨_, (pss_one (ps_ret (pe_fld (pv 0) rfl))), _, rfl, x, _, dx, _, _, rfl, hx, T.clT, T.nT1, rfl, q ts as hts hst⟩
theorem scGet : FnScope ["self", "at"] ["self", "at"] (defScope sGet) := ⟨rfl, rfl, rfl, by decide +kernel, rfl, by decide +kernel, by decide +kernel⟩
theorem ok_get (D : Df K "__getitem__" "Text.__getitem__" sGet f) (T : Tc w K mg) (GC : Kp P w K mg base 2 (ma K (CT K) "_check_place") (spCheck K)) (GK : Kp P w K mg base 1 (ga K "key_at") (spKeyAt K)) : Kp P w K mg base 3 f (spGet K) := by
  obtain ⟨fdC, psC, FC, bC, kpC⟩ := GC
  refine kp_of D scGet (fun _ _ _ _ _ _ us hl => match us, hl with | [_, _], _ => rfl) ?_ (fun cdv A outer s H vs Q E hr h => ?_)
  · rintro vs H Q E ⟨x, p, st, rfl, _⟩
    rfl
  · obtain ⟨x, p, st, rfl, t, hp, q⟩ := h
    obtain ⟨dx, ts, sp, as, ss, hx, _, _, hsp, hss⟩ := t.obj
    have hz := typed_small t
    refine ⟨_, (pss_cons (ps_expr (pe_meth (pv 0) T.clT T.mCheck FC (hr.mono (by decide)) bC .nil pass0 (pa_cons (pv 1) pa_nil))) (pss_one (ps_ret (pe_item_str (pe_fld (pv 0) rfl) (pk_call GK (hr.mono (by decide)) T.gKeyAt (pa_cons (pe_fld (pv 0) rfl) (pa_cons (pv 1) pa_nil))) (fun _ _ => rfl))))), ?_⟩
    refine ⟨_, rfl, x, dx, _, rfl, hx, lk_check _ _ _, _, rfl, x, p, st, rfl, t, hp, ?_⟩
    refine ⟨_, rfl, x, _, dx, _, _, rfl, hx, T.clT, T.nT4, rfl, _, rfl, x, _, dx, _, _, rfl, hx, T.clT, T.nT2, rfl, _, rfl, sp, p, ss, st, rfl, hsp, hss, t.good, hp, fun k H2 s2 hk => ?_⟩
    have hkn := ex_lt st k (List.mem_of_getElem? hk)
    obtain ⟨c, hc⟩ : ∃ c, (typed st)[k]? = some c := ⟨(typed st)[k]'(by rw [typed_len]; exact hkn), List.getElem?_eq_getElem _⟩
    rw [sL_len, typed_len] at hz
    refine ⟨_, _, c, rfl, rfl, by omega, by omega, by rw [sL_len, typed_len]; omega, ?_, q k c H2 s2 hk hc⟩
    rw [Int.toNat_natCast, ← Array.getElem?_toList]
    exact hc
theorem scHas : FnScope ["self", "x"] ["self", "x"] (defScope sHas) := ⟨rfl, rfl, rfl, by decide +kernel, rfl, by decide +kernel, by decide +kernel⟩
theorem ok_has (D : Df K "__contains__" "Text.__contains__" sHas f) (T : Tc w K mg) (GL : Kp P w K mg base 1 (ga K "is_letter") spIsLetter) : Kp P w K mg base 2 f (spHas K) := by
  refine kp_of D scHas (fun _ _ _ _ _ _ us hl => match us, hl with | [_, _], _ => rfl) ?_ (fun cdv A outer s H vs Q E hr h => ?_)
  · rintro vs H Q E ⟨x, v, st, rfl, _⟩
    rfl
  · obtain ⟨x, v, st, rfl, t, fl, ft, q⟩ := h
    obtain ⟨dx, ts, sp, as, ss, hx, _, _, hsp, hss⟩ := t.obj
    refine ⟨_, (pss_one (ps_ret (pe_and (pk_call GL (hr.mono (by decide)) T.gIsLetter (pa_cons (pv 1) pa_nil)) (pe_one (pe_cmpR op_in_sign (pv 1) (pe_fld (pv 0) rfl) rfl))))), ?_⟩
    refine ⟨_, rfl, v, rfl, fl, ft, _, rfl, ?_⟩
    have hno : isLetV v ≠ true → hasV st v = false := fun h => by
      cases v with
      | str z =>
        unfold hasV
        unfold isLetV at h
        simp only at h ⊢
        split
        · rename_i c e
          rw [e] at h
          simp only at h
          rw [Bool.eq_false_iff.mpr h]
          rfl
        · rfl
      | _ => rfl
    refine ite2 (fun h1 => ?_) fun h1 => ?_
    · cases v with
      | str z =>
        unfold isLetV at h1
        simp only at h1
        split at h1
        · rename_i c e
          have ez : z = ⟨#[c]⟩ := by
            rw [sL_of z, e]
            rfl
          refine ⟨_, rfl, _, rfl, x, _, dx, _, _, rfl, hx, T.clT, T.nT4, rfl, c, _, by rw [ez], rfl, ?_⟩
          have e2 : hasV st (.str z) = decide (c ∈ (sL (typed st)).cps.toList) := by
            show (match z.cps.toList with
              | [c] => isLet c && decide (c ∈ typed st)
              | _ => false) = _
            rw [e]
            simp only [h1, Bool.true_and]
            rfl
          rw [← e2]
          exact q
        · cases h1
      | _ => cases h1
    · rw [hno h1] at q
      exact q
end
end KL
namespace KL
open PySem PySem.Spec PyProof.Rows L2 Pk He
/-! ### promises with ints for places -/
def spGetI (K : Fr) : Sp := fun vs H Q _ => ∃ (x : Addr) (p : Int) (st : List Stp), vs = [.ref x, .int p] ∧ TA_ K H x st ∧ 0 ≤ p ∧ p < (sz st : Nat) ∧ ∀ (k c : Nat) H2, Same H H2 → (ex st)[p.toNat]? = some k → (typed st)[k]? = some c → Q (.str (sL [c])) H2
def spCallI (K : Fr) : Sp := fun vs H Q _ => ∃ (x : Addr) (p : Int) (st : List Stp), vs = [.ref x, .int p] ∧ TA_ K H x st ∧ 0 ≤ p ∧ p < (sz st : Nat) ∧ ∀ (k : Nat) H2, Same H H2 → (ex st)[p.toNat]? = some k → Q (.int k) H2
section
variable {P : Program} {w : World} {K : Fr} {mg : Str → Option Value} {base : Heap} {f : Addr} {k : Nat}
theorem getI (G : Kp P w K mg base k f (spGet K)) : Kp P w K mg base k f (spGetI K) := by
  refine Kp.sub G fun vs H Q E h => ?_
  obtain ⟨x, p, st, rfl, t, h0, h1, q⟩ := h
  refine ⟨x, p.toNat, st, by rw [Int.toNat_of_nonneg h0], t, by omega, q⟩
theorem callI (G : Kp P w K mg base k f (spCall K)) : Kp P w K mg base k f (spCallI K) := by
  refine Kp.sub G fun vs H Q E h => ?_
  obtain ⟨x, p, st, rfl, t, h0, h1, q⟩ := h
  refine ⟨x, p.toNat, st, by rw [Int.toNat_of_nonneg h0], t, by omega, q⟩
end
end KL
namespace KL
open PySem PySem.Spec PyProof.Rows L2 Pk He
theorem stD_dp {K : Fr} {H : Hp} {a : Addr} {x : Stp} (h : SqT K H a (stV x)) : Dp K H (.ref a) (stD x) := by
  cases x with
  | wr w => exact .tup h (.cons (.str _) (.cons (.str _) .nil))
  | pa f l t => exact .tup h (.cons (.str _) (.cons (.int _) (.cons (.int _) (.cons (.int _) .nil))))
theorem steps_dpA {K : Fr} {H : Hp} : ∀ {as : List Addr} {st : List Stp}, as.length = st.length → (∀ (i : Nat) (x : Stp), st[i]? = some x → ∃ a, as[i]? = some a ∧ SqT K H a (stV x)) → DpAll K H (as.map V.ref) (st.map stD)
  | [], [], _, _ => .nil
  | [], _ :: _, h, _ => by cases h
  | _ :: _, [], h, _ => by cases h
  | a :: as, x :: st, h, k => by
    obtain ⟨b, hb, hx⟩ := k 0 x rfl
    cases hb
    exact .cons (stD_dp hx) (steps_dpA (by simpa using h) fun i y hy => k (i + 1) y hy)
theorem steps_dp {K : Fr} {H : Hp} {t : Addr} {as : List Addr} {st : List Stp} (h : SqT K H t (as.map V.ref)) (k : StepsAt K H as st) : Dp K H (.ref t) (.tuple (st.map stD)) := .tup h (steps_dpA k.len k.at_)
theorem sL_ok {l : List Nat} (h : l.all isLet = true) : PyData.strOk (sL l) = true := by
  show (sL l).cps.all (· < 0x110000) = true
  rw [List.all_eq_true] at h
  rw [Array.all_eq_true']
  intro c hc
  have hc2 : c ∈ l := by simpa [sL] using hc
  have := h c hc2
  simp only [isLet, Bool.and_eq_true, decide_eq_true_eq] at this ⊢
  omega
theorem stD_lay {s : Nat} {x : Stp} (h : x.ok s = true) : (stD x).canLay0 = true := by
  cases x with
  | wr w =>
    simp only [Stp.ok, Bool.and_eq_true] at h
    have h1 := sL_ok h.2
    have h2 : PyData.strOk (Str.ofString "write") = true := by decide +kernel
    simp [stD, PyData.canLay0, PyData.canLayAll0, h1, h2]
  | pa f l t =>
    have h2 : PyData.strOk (Str.ofString "paste") = true := by decide +kernel
    simp [stD, PyData.canLay0, PyData.canLayAll0, h2]
theorem stD_depth (x : Stp) : (stD x).depth = 1 := by cases x <;> simp [stD, PyData.depth, PyData.depthAll]
theorem sts_lay {m : Nat} : ∀ {s : Nat} {st : List Stp}, Goes m s st → PyData.canLayAll0 (st.map stD) = true
  | _, [], _ => by simp [PyData.canLayAll0]
  | s, x :: r, h => by
    have h1 := stD_lay h.1
    have h2 := sts_lay h.2.2
    simp [PyData.canLayAll0, h1, h2]
theorem sts_depth : ∀ st : List Stp, PyData.depthAll (st.map stD) ≤ 1
  | [] => by simp [PyData.depthAll]
  | x :: r => by
    have h1 := stD_depth x
    have h2 := sts_depth r
    simp only [List.map_cons, PyData.depthAll]
    omega
theorem sts_shaped {m : Nat} {st : List Stp} (h : Goes m 0 st) : SeqAt.shaped (.tuple (st.map stD)) = true := by
  have h1 := sts_depth st
  have h2 : PyData.depth (.tuple (st.map stD)) ≤ 64 := by
    simp only [PyData.depth]
    omega
  show (PyData.canLay0 (.tuple (st.map stD)) && decide (PyData.depth (.tuple (st.map stD)) ≤ 64)) = true
  rw [decide_eq_true h2, Bool.and_true]
  simp only [PyData.canLay0]
  exact sts_lay h
theorem str_beq (a b : List Nat) : (sL a == sL b) = decide (a = b) := by
  rw [Bool.eq_iff_iff, beq_iff_eq, decide_eq_true_iff, sL_inj]
theorem stD_eqv (x y : Stp) : PyData.eqv (stD x) (stD y) = decide (x = y) := by
  cases x with
  | wr w =>
    cases y with
    | wr v => simp [stD, PyData.eqv, PyData.eqvAll, str_beq]
    | pa f l t => simp [stD, PyData.eqv, PyData.eqvAll]
  | pa f l t =>
    cases y with
    | wr v => simp [stD, PyData.eqv, PyData.eqvAll]
    | pa g m u =>
      simp only [stD, PyData.eqv, PyData.eqvAll]
      rw [Bool.eq_iff_iff]
      simp
      omega
theorem sts_eqv : ∀ a b : List Stp, PyData.eqvAll (a.map stD) (b.map stD) = decide (a = b)
  | [], [] => by simp [PyData.eqvAll]
  | [], _ :: _ => by simp [PyData.eqvAll]
  | _ :: _, [] => by simp [PyData.eqvAll]
  | x :: r, y :: s => by
    have h1 := sts_eqv r s
    have h2 := stD_eqv x y
    simp only [List.map_cons, PyData.eqvAll, h1, h2]
    rw [Bool.eq_iff_iff]
    simp
theorem stsD_eqv (a b : List Stp) : PyData.eqv (.tuple (a.map stD)) (.tuple (b.map stD)) = decide (a = b) := by
  simp only [PyData.eqv]
  exact sts_eqv a b
def spEqT (K : Fr) : Sp := fun vs H Q _ => ∃ (x : Addr) (a : List Stp), TA_ K H x a ∧ ((∃ (y : Addr) (b : List Stp), vs = [.ref x, .ref y] ∧ TA_ K H y b ∧ Q (.bl (decide (a = b))) H) ∨ ∃ (t : Addr) (xs : List V), vs = [.ref x, .ref t] ∧ SqT K H t xs ∧ Q (.bl false) H)
section
variable {P : Program} {w : World} {K : Fr} {mg : Str → Option Value} {base : Heap} {f : Addr}
theorem scEq : FnScope ["self", "other"] ["self", "other"] (defScope sEq) := ⟨rfl, rfl, rfl, by decide +kernel, rfl, by decide +kernel, by decide +kernel⟩
theorem ok_eq (D : Df K "__eq__" "Text.__eq__" sEq f) (T : Tc w K mg) : Kp P w K mg base 1 f (spEqT K) := by
  refine kp_of D scEq (fun _ _ _ _ _ _ us hl => match us, hl with | [_, _], _ => rfl) ?_ (fun cdv A outer s H vs Q E hr h => ?_)
  · rintro vs H Q E ⟨x, a, _, ⟨y, b, rfl, _⟩ | ⟨t, xs, rfl, _⟩⟩ <;> rfl
  · obtain ⟨x, a, ta, h⟩ := h
    obtain ⟨dx, ts, sp, as, ss, hx, hts, hst, _⟩ := ta.obj
    refine ⟨_, (pss_one (ps_ret (pe_and (pe_callB (CallR.or (C8.call_isC T.insT) call_isi) (by rfl) T.isi boot_isinstance (pa_cons (pv 1) (pa_cons (pe_gR T.gText) pa_nil))) (pe_one (pe_cmpR (op_eqD hr.units) (pe_fld (pv 0) rfl) (pe_fld (pv 1) rfl) (nomark _)))))), ?_⟩
    rcases h with ⟨y, b, rfl, tb, q⟩ | ⟨t, xs, rfl, ht, q⟩
    · obtain ⟨dy, ts2, sp2, as2, ss2, hy, hts2, hst2, _⟩ := tb.obj
      refine ⟨_, rfl, .inl ⟨y, dy, _, rfl, hy, true, rfl, ?_⟩⟩
      refine iteT ?_
      refine ⟨_, rfl, x, _, dx, _, _, rfl, hx, T.clT, T.nT1, rfl, _, rfl, y, _, dy, _, _, rfl, hy, T.clT, T.nT1, rfl, _, _, steps_dp hts hst, steps_dp hts2 hst2, sts_shaped ta.good, sts_shaped tb.good, ?_⟩
      rw [stsD_eqv]
      exact q
    · refine ⟨_, rfl, .inr ⟨.ref t, .ref (CT K), .type "tuple", .ref (CT K), false, rfl, .own _, sqT_ty ht, T.tupT, false, rfl, ?_⟩⟩
      exact q
end
end KL
namespace KL
open PySem PySem.Spec PyProof.Rows L2 Pk He
/-! ### the keys and letters of sums -/
theorem exF_mv (n0 : Nat) (A : List Nat) : ∀ (b : List Stp) (E : List Nat) (n : Nat), exF (A ++ E.map (n0 + ·)) (n0 + n) (b.map (mv A.length)) = A ++ (exF E n b).map (n0 + ·)
  | [], E, n => rfl
  | .wr w :: r, E, n => by
    have e : A ++ E.map (n0 + ·) ++ List.range' (n0 + n) w.length = A ++ (E ++ List.range' n w.length).map (n0 + ·) := by
      rw [List.map_append, List.map_add_range', List.append_assoc]
    show exF (A ++ E.map (n0 + ·) ++ List.range' (n0 + n) w.length) (n0 + n + w.length) (r.map (mv A.length)) = _
    rw [e, Nat.add_assoc, exF_mv n0 A r]
    rfl
  | .pa f l t :: r, E, n => by
    have e : A ++ E.map (n0 + ·) ++ (List.replicate t (((A ++ E.map (n0 + ·)).drop (f + A.length)).take (l + A.length + 1 - (f + A.length)))).flatten = A ++ (E ++ (List.replicate t ((E.drop f).take (l + 1 - f))).flatten).map (n0 + ·) := by
      rw [show l + A.length + 1 - (f + A.length) = l + 1 - f by omega, Nat.add_comm f, List.drop_length_add_append, ← List.map_drop, ← List.map_take, List.map_append, List.map_flatten, List.map_replicate, List.append_assoc]
    show exF (A ++ E.map (n0 + ·) ++ (List.replicate t (((A ++ E.map (n0 + ·)).drop (f + A.length)).take (l + A.length + 1 - (f + A.length)))).flatten) (n0 + n) (r.map (mv A.length)) = _
    rw [e, exF_mv n0 A r]
    rfl
theorem ex_plus {a : List Stp} (ha : Goes most 0 a) (b : List Stp) : ex (plus a b) = ex a ++ (ex b).map (nk a + ·) := by
  have hl := ex_len a ha
  have h := exF_mv (nk a) (ex a) b [] 0
  rw [hl, List.map_nil, List.append_nil, Nat.add_zero] at h
  unfold plus
  show exF [] 0 _ = _
  rw [exF_app, Nat.zero_add]
  exact h
theorem typed_mv (s : Nat) (b : List Stp) : typed (b.map (mv s)) = typed b := by
  unfold typed
  rw [List.flatMap_map]
  have e : (fun x => (mv s x).ty) = Stp.ty := by funext x; exact mv_ty s x
  rw [e]
theorem typed_plus (a b : List Stp) : typed (plus a b) = typed a ++ typed b := by
  unfold plus
  rw [typed_app, typed_mv]
theorem nk_plus (a b : List Stp) : nk (plus a b) = nk a + nk b := by
  unfold plus
  rw [nk_app, nk_mv]
theorem len_plus (a b : List Stp) : (plus a b).length = a.length + b.length := by
  unfold plus
  rw [List.length_append, List.length_map]
theorem ltr_plus1 {a b : List Stp} {k : Nat} (h : k < nk a) : ltr (plus a b) k = ltr a k := by
  unfold ltr
  rw [typed_plus, List.getD_eq_getElem?_getD, List.getD_eq_getElem?_getD, List.getElem?_append_left (by rw [typed_len]; exact h)]
theorem ltr_plus2 (a b : List Stp) (k : Nat) : ltr (plus a b) (nk a + k) = ltr b k := by
  unfold ltr
  rw [typed_plus, List.getD_eq_getElem?_getD, List.getD_eq_getElem?_getD, List.getElem?_append_right (by rw [typed_len]; omega), typed_len, Nat.add_sub_cancel_left]
theorem lts_plus {a : List Stp} (ha : Goes most 0 a) (b : List Stp) : lts (plus a b) = lts a ++ lts b := by
  unfold lts
  rw [ex_plus ha, List.map_append, List.map_map]
  congr 1
  · exact List.map_congr_left fun k hk => ltr_plus1 (ex_lt a k hk)
  · exact List.map_congr_left fun k _ => ltr_plus2 a b k
theorem ins_ne {K : Fr} {S : Addr × List Int} {H : Hp} {r p : Addr} {o : HO} (h : RowAt K S H r) (hp : H p = some o) (hn : ∀ xs, o ≠ .lst xs := by intro _ z; cases z) : p ≠ r := fun e => by
  obtain ⟨xs, hx⟩ := h.lst
  rw [e, hx] at hp
  exact hn xs (Option.some.inj hp).symm
theorem spans_row {K : Fr} {S : Addr × List Int} {H H2 : Hp} {r : Addr} {ss : List Addr} {st : List Stp} (h : RowAt K S H r) (b : But r H H2) (t : SpansAt (CS K) H ss st) : SpansAt (CS K) H2 ss st :=
  ⟨t.len, fun i x hx => let ⟨a, dx, h1, h2⟩ := t.at_ i x hx; ⟨a, dx, h1, b _ _ (ins_ne h h2) h2⟩⟩
theorem text_ne {K : Fr} {S : Addr × List Int} {H : Hp} {r x : Addr} {st : List Stp} (h : RowAt K S H r) (t : TA_ K H x st) : x ≠ r := by
  obtain ⟨dx, ts, sp, as, ss, hx, _⟩ := t.obj
  exact ins_ne h hx
theorem text_nk {K : Fr} {H : Hp} {x : Addr} {st : List Stp} (t : TA_ K H x st) : nk st ≤ 600 := by
  have h1 := nk_le t.good
  have h2 := t.few
  omega
theorem okV_nV (l : List Nat) : (nV l).all okV = true := by
  rw [List.all_eq_true]
  intro x hx
  obtain ⟨i, _, rfl⟩ := List.mem_map.mp hx
  rfl
theorem nV_app (a b : List Nat) : nV a ++ nV b = nV (a ++ b) := by simp [nV]
theorem okV_cut {xs : List V} {lo hi : Option Int} (h : xs.all okV = true) : (cutV xs lo hi).all okV = true := by
  rw [List.all_eq_true] at h ⊢
  intro x hx
  unfold cutV at hx
  exact h x (List.mem_of_mem_drop (List.mem_of_mem_take hx))
theorem cut_takeN (l : List Nat) (k : Nat) : cutV (nV l) none (some (k : Int)) = nV (l.take k) := by
  unfold cutV
  rw [HT.sIx_nat, HT.sIx_none, List.drop_zero, Nat.sub_zero, nV_len]
  unfold nV
  rw [← List.map_take]
  congr 1
  rw [List.take_eq_take_iff]
  omega
theorem nV_maps (l : List Nat) (g : Nat → Nat) : (List.range l.length).map (fun i => V.int ((g (l.getD i 0) : Nat))) = nV (l.map g) := by
  unfold nV
  rw [List.map_map]
  refine List.ext_getElem (by simp) fun i h1 h2 => ?_
  simp only [List.length_map, List.length_range] at h1
  simp [List.getD_eq_getElem?_getD, List.getElem?_eq_getElem h1]
/-! ### multiples -/
def timesA (a : List Stp) (n : Nat) : List Stp := if n = 1 ∨ a = [] then a else timesL a n
theorem ex_times {a : List Stp} (ha : Goes most 0 a) {n : Nat} (hn : 1 ≤ n) : ex (timesA a n) = (List.replicate n (ex a)).flatten := by
  unfold timesA
  by_cases h : n = 1 ∨ a = []
  · rw [if_pos h]
    rcases h with rfl | rfl
    · simp
    · simp [ex, exF]
  · rw [if_neg h]
    have h1 : ¬ n = 1 := fun z => h (.inl z)
    have h2 : a ≠ [] := fun z => h (.inr z)
    have h3 := sz_pos ha h2
    have hl := ex_len a ha
    unfold timesL
    rw [ex_snoc]
    show ex a ++ (List.replicate (n - 1) (((ex a).drop 0).take (sz a - 1 + 1 - 0))).flatten = _
    rw [List.drop_zero, List.take_of_length_le (by omega)]
    obtain ⟨m, rfl⟩ : ∃ m, n = m + 1 := ⟨n - 1, by omega⟩
    rw [Nat.add_sub_cancel, List.replicate_succ, List.flatten_cons]
theorem typed_times (a : List Stp) (n : Nat) : typed (timesA a n) = typed a := by
  unfold timesA
  split
  · rfl
  · unfold timesL
    rw [typed_app]
    show typed a ++ [] = _
    rw [List.append_nil]
theorem nk_times (a : List Stp) (n : Nat) : nk (timesA a n) = nk a := by rw [← typed_len, typed_times, typed_len]
theorem sz_timesA {a : List Stp} (ha : Goes most 0 a) {n : Nat} (hn : 1 ≤ n) : sz (timesA a n) = n * sz a := by
  unfold timesA
  by_cases h : n = 1 ∨ a = []
  · rw [if_pos h]
    rcases h with rfl | rfl
    · omega
    · show 0 = n * 0
      omega
  · rw [if_neg h]
    exact sz_times ha (fun z => h (.inr z)) (by have : ¬ n = 1 := fun z => h (.inl z); omega)
theorem len_times (a : List Stp) (n : Nat) : (timesA a n).length ≤ a.length + 1 := by
  unfold timesA
  split
  · omega
  · unfold timesL
    rw [List.length_append]
    exact Nat.le_refl _
theorem ltr_times (a : List Stp) (n k : Nat) : ltr (timesA a n) k = ltr a k := by unfold ltr; rw [typed_times]
theorem lts_times {a : List Stp} (ha : Goes most 0 a) {n : Nat} (hn : 1 ≤ n) : lts (timesA a n) = (List.replicate n (lts a)).flatten := by
  unfold lts
  rw [ex_times ha hn, List.map_flatten, List.map_replicate]
  have : ltr (timesA a n) = ltr a := by funext k; exact ltr_times a n k
  rw [this]
/-! ### promises of the law's helpers, with ints -/
def spEqI (K : Fr) : Sp := fun vs H Q _ => ∃ (x y : Addr) (a b : List Stp), vs = [.ref x, .ref y] ∧ TA_ K H x a ∧ TA_ K H y b ∧ Q (.bl (decide (a = b))) H
def spMulI (K : Fr) : Sp := fun vs H Q _ => ∃ (x : Addr) (n : Int) (a : List Stp), vs = [.ref x, .int n] ∧ 1 ≤ n ∧ n ≤ 1000000000 ∧ TA_ K H x a ∧ n * (sz a : Int) ≤ (most : Nat) ∧ a.length < 30 ∧
  ∀ z H2, Same H H2 → TA_ K H2 z (timesA a n.toNat) → Q (.ref z) H2
section
variable {P : Program} {w : World} {K : Fr} {mg : Str → Option Value} {base : Heap} {f : Addr} {k : Nat}
theorem eqI (G : Kp P w K mg base k f (spEqT K)) : Kp P w K mg base k f (spEqI K) := by
  refine Kp.sub G fun vs H Q E h => ?_
  obtain ⟨x, y, a, b, rfl, t, t2, q⟩ := h
  exact ⟨x, a, t, .inl ⟨y, b, rfl, t2, q⟩⟩
theorem mulI (G : Kp P w K mg base k f (spMul K)) : Kp P w K mg base k f (spMulI K) := by
  refine Kp.sub G fun vs H Q E h => ?_
  obtain ⟨x, n, a, rfl, h1, h2, t, h3, h4, q⟩ := h
  refine ⟨x, n.toNat, a, by rw [Int.toNat_of_nonneg (by omega)], by omega, by omega, t, fun hc => ?_, fun hn hne => ⟨?_, h4, fun z H2 hz s t2 => ?_⟩⟩
  · refine q x H (Same.refl _) ?_
    unfold timesA
    rw [if_pos hc]
    exact t
  · have : ((n.toNat * sz a : Nat) : Int) = n * (sz a : Int) := by rw [Int.natCast_mul, Int.toNat_of_nonneg (by omega)]
    omega
  · refine q z H2 s ?_
    unfold timesA
    rw [if_neg (by rintro (z | z); · omega
                   · exact hne z)]
    exact t2
/-- Text() -/
theorem pe_text0 {X : Cx} {x : Str} {p pos : Pos} (csct : CS X.K ≠ CT X.K) (M : Mk X.K (CT X.K) f) (F : FnR X.prog X.w X.K X.mg X.base CX0 k f (spInit5 X.K)) (hr : Room (k + 1) X.A) (hm : X.mg x = some (.ref (CT X.K))) (hg : Gl X x := by rfl) (hdb : (x == ("__debug__" : Str)) = false := by decide) :
    PE X (.Call (.Name x p) [] [] pos) (fun _ H Q => ∀ x H2, H x = none → Same H H2 → TA_ X.K H2 x [] → Q (.ref x) H2) :=
  pe_imp (pe_makeR0 M F hr hg hm pass0 hdb) fun σ H Q h => make_text (as := []) csct StepsAt.nil trivial (by decide) h
/-- the law's row, new -/
theorem row_new {H H1 : Hp} {scr r : Addr} {ns : List Int} (hs : SqL K H scr (ns.map V.int)) (hr : H r = none) (s : Same H H1) (e : H1 r = some (.lst [.ref scr, .int 0, .int 0, .int 0])) : RowAt K (scr, ns) H1 r :=
  ⟨0, 0, 0, e, Same.seq s hs, by decide, by decide, by decide, by decide, fun H2 o h1 => sqL_far hs hr h1⟩
def spLaw (K : Fr) : Sp := fun vs H Q _ => ∃ (scr : Addr) (ns : List Int), vs = [.ref scr] ∧ SqL K H scr (ns.map V.int) ∧ ∀ H2, Q (.bl true) H2
/-- texts at addresses -/
structure TxsAt (K : Fr) (H : Hp) (xs : List Addr) (ts : List (List Stp)) : Prop where
  len : xs.length = ts.length
  at_ : ∀ (i : Nat) (st : List Stp), ts[i]? = some st → ∃ x, xs[i]? = some x ∧ TA_ K H x st
theorem TxsAt.nil {H : Hp} : TxsAt K H [] [] := ⟨rfl, fun i st h => by simp at h⟩
theorem TxsAt.same {H H2 : Hp} {xs : List Addr} {ts : List (List Stp)} (h : TxsAt K H xs ts) (s : Same H H2) : TxsAt K H2 xs ts := ⟨h.len, fun i st hi => let ⟨x, h1, h2⟩ := h.at_ i st hi; ⟨x, h1, h2.same s⟩⟩
theorem TxsAt.butL {H H2 : Hp} {r : Addr} {ys : List V} {xs : List Addr} {ts : List (List Stp)} (h : TxsAt K H xs ts) (hr : H r = some (.lst ys)) (b : But r H H2) : TxsAt K H2 xs ts := ⟨h.len, fun i st hi => let ⟨x, h1, h2⟩ := h.at_ i st hi; ⟨x, h1, text_butL hr b h2⟩⟩
theorem TxsAt.row {S : Addr × List Int} {H H2 : Hp} {r : Addr} {xs : List Addr} {ts : List (List Stp)} (h : TxsAt K H xs ts) (row : RowAt K S H r) (b : But r H H2) : TxsAt K H2 xs ts := let ⟨_, hx⟩ := row.lst; h.butL hx b
theorem TxsAt.snoc {H : Hp} {xs : List Addr} {ts : List (List Stp)} {x : Addr} {st : List Stp} (h : TxsAt K H xs ts) (hx : TA_ K H x st) : TxsAt K H (xs ++ [x]) (ts ++ [st]) := by
  refine ⟨by simp [h.len], fun i y hy => ?_⟩
  by_cases hi : i < ts.length
  · rw [List.getElem?_append_left hi] at hy
    obtain ⟨a, h1, h2⟩ := h.at_ i y hy
    exact ⟨a, by rw [List.getElem?_append_left (by rw [h.len]; exact hi)]; exact h1, h2⟩
  · rw [List.getElem?_append_right (by omega)] at hy
    have hi0 : i - ts.length = 0 := by
      have := (List.getElem?_eq_some_iff.mp hy).1
      simp at this
      omega
    rw [hi0] at hy
    have e : st = y := by simpa using hy
    subst e
    exact ⟨x, by rw [List.getElem?_append_right (by rw [h.len]; omega), h.len, hi0]; rfl, hx⟩
/-- a dict (read or locked) is written: texts and the row stand -/
def isD : HO → Bool
  | .dK _ => true
  | .frz _ (.dK _) => true
  | _ => false
theorem text_butD {H H2 : Hp} {l x : Addr} {o : HO} {st : List Stp} (hl : H l = some o) (ho : isD o = true) (b : But l H H2) (h : TA_ K H x st) : TA_ K H2 x st := by
  have ne : ∀ {q : Addr} {u : HO}, H q = some u → isD u = false → q ≠ l := fun {q u} h1 h2 e => by
    rw [e, hl] at h1
    cases h1
    rw [ho] at h2
    cases h2
  have sq : ∀ {q : Addr} {xs : List V}, SqT K H q xs → SqT K H2 q xs := fun {q xs} h => by
    rcases h with (h | ⟨u, h⟩) | h
    · exact .inl (.inl (b _ _ (ne h rfl) h))
    · exact .inl (.inr ⟨u, b _ _ (ne h rfl) h⟩)
    · exact .inr h
  obtain ⟨dx, ts, sp, as, ss, h1, h2, h3, h4, h5⟩ := h.obj
  exact ⟨h.good, h.few, dx, ts, sp, as, ss, b _ _ (ne h1 rfl) h1, sq h2, ⟨h3.len, fun i y hy => let ⟨a, e1, e2⟩ := h3.at_ i y hy; ⟨a, e1, sq e2⟩⟩, sq h4, ⟨h5.len, fun i y hy => let ⟨a, d, e1, e2⟩ := h5.at_ i y hy; ⟨a, d, e1, b _ _ (ne e2 rfl) e2⟩⟩⟩
theorem RowAt.butD {S : Addr × List Int} {H H2 : Hp} {l r : Addr} {o : HO} (hl : H l = some o) (ho : isD o = true) (b : But l H H2) (h : RowAt K S H r) : RowAt K S H2 r := by
  have ne : ∀ {q : Addr} {u : HO}, H q = some u → isD u = false → q ≠ l := fun {q u} h1 h2 e => by
    rw [e, hl] at h1
    cases h1
    rw [ho] at h2
    cases h2
  obtain ⟨i, sd, hd, b1, b2, b3⟩ := h
  refine ⟨i, sd, hd, b _ _ (ne b1 rfl) b1, ?_, b3⟩
  rcases b2 with (h | ⟨u, h⟩) | h
  · exact .inl (.inl (b _ _ (ne h rfl) h))
  · exact .inl (.inr ⟨u, b _ _ (ne h rfl) h⟩)
  · exact .inr h
theorem txs3 {H : Hp} {xs : List Addr} {ts : List (List Stp)} (h : TxsAt K H xs ts) (hl : xs.length = 3) : ∃ x1 x2 x3 a b c, xs = [x1, x2, x3] ∧ ts = [a, b, c] ∧ TA_ K H x1 a ∧ TA_ K H x2 b ∧ TA_ K H x3 c := by
  have hl2 := h.len
  match xs, ts, hl, hl2, h with
  | [x1, x2, x3], [a, b, c], _, _, h =>
    obtain ⟨y1, e1, t1⟩ := h.at_ 0 a rfl
    obtain ⟨y2, e2, t2⟩ := h.at_ 1 b rfl
    obtain ⟨y3, e3, t3⟩ := h.at_ 2 c rfl
    cases e1
    cases e2
    cases e3
    exact ⟨x1, x2, x3, a, b, c, rfl, rfl, t1, t2, t3⟩
end
end KL
namespace KL
open PySem PySem.Spec PyProof.Rows L2 Pk He
theorem cut_sL {ls : List Nat} {n m : Nat} (h : n + m ≤ ls.length) : cutS (sL ls) (some (n : Int)) (some ((n + m : Nat) : Int)) = sL ((ls.drop n).take m) := by
  unfold cutS
  rw [HT.sIx_nat, HT.sIx_nat, sL_len, Nat.min_eq_left (by omega), Nat.min_eq_left (by omega), Nat.add_sub_cancel_left]
  rfl
theorem nk_take_le {st : List Stp} {i : Nat} {x : Stp} (h : st[i]? = some x) : nk (st.take i) + x.ks ≤ nk st := by
  have e : st = st.take (i + 1) ++ st.drop (i + 1) := (List.take_append_drop _ _).symm
  have e2 := congrArg nk e
  rw [nk_app, take_succ h, nk_app] at e2
  simp only [nk, List.map_cons, List.map_nil, List.sum_cons, List.sum_nil] at e2 ⊢
  omega
section
variable {P : Program} {w : World} {K : Fr} {mg : Str → Option Value} {base : Heap} {f : Addr}
theorem scWith : FnScope ["self", "letters", "steps", "step", "span"] ["self", "letters"] (defScope sWith) := ⟨rfl, rfl, rfl, by decide +kernel, rfl, by decide +kernel, by decide +kernel⟩
theorem ok_with (D : Df K "with_letters" "Text.with_letters" sWith f) (T : Tc w K mg) (GI : FnR P w K mg base CX0 5 (ma K (CT K) "__init__") (spInit5 K)) : Kp P w K mg base 7 f (spWith K) := by
  refine kp_of D scWith (fun _ _ _ _ _ _ us hl => match us, hl with | [_, _], _ => rfl) ?_ (fun cdv A outer s H vs Q E hr h => ?_)
  · rintro vs H Q E ⟨x, ls, st, rfl, _⟩
    rfl
  · obtain ⟨x, ls, st, rfl, t, hl, hlet, q⟩ := h
    obtain ⟨dx, ts, sp, as, ss, hx, hts, hst, hsp, hss⟩ := t.obj
    have hnk := nk_le t.good
    have few := t.few
    have hz : (sL ls).length ≤ sizeLine := by
      rw [sL_len, hl]
      exact Nat.le_trans (show nk st ≤ 600 by omega) (by decide)
    refine ⟨_, (pss_cons (ps_set (i := 2) scWith.nd rfl (Or.inl rfl) (pe_lst pa_nil)) (pss_cons (ps_for PassesOwn.never rfl (RZ.pi_zipA (by rfl) T.zip (pa_cons (pe_fld (pv 0) rfl) (pa_cons (pe_fld (pv 0) rfl) pa_nil))) (pg_tup rfl (pgs_cons (pg_name (i := 3) scWith.nd rfl (Or.inl rfl)) (pgs_cons (pg_name (i := 4) scWith.nd rfl (Or.inl rfl)) pgs_nil))) (pss_one (ps_if (pt_cmp (pc_isN (pe_fld (pv 4) rfl))) (pss_one (ps_expr (pe_bm PySem.F.plainAttrs_list PySem.F.slot_list_append PySem.F.type_list_append mt_append (pv 2) (pa_cons (pv 3) pa_nil)))) (pss_one (ps_expr (pe_bm PySem.F.plainAttrs_list PySem.F.slot_list_append PySem.F.type_list_append mt_append (pv 2) (pa_cons (pe_tup (pa_cons pe_str (pa_cons (pe_slice sl_str (pv 1) (po_some (pe_fld (pv 4) rfl)) (po_some (pe_op op_add (pe_fld (pv 4) rfl) (pk_b1 call_len_str T.len b_len (pe_ix ix_tup (pv 3) pe_int (fun _ _ => rfl)))))) pa_nil))) pa_nil))))))) (pss_one (ps_ret (pe_makeS T.mkT GI hr rfl T.gText pass0 (pv 2)))))), ?_⟩
    refine ⟨Nat.zero_le _, fun L hL => ?_⟩
    have s1 : Same H (upd H L (.lst [])) := same_upd hL
    refine ⟨_, rfl, x, _, dx, _, _, rfl, s1 _ _ hx, T.clT, T.nT1, rfl, _, rfl, x, _, dx, _, _, rfl, s1 _ _ hx, T.clT, T.nT2, rfl, ts, sp, _, _, rfl, .inr ⟨same_sqT s1 hts, same_sqT s1 hsp, ?_⟩⟩
    have hn : (as.map V.ref).length = st.length := by rw [List.length_map, hst.len]
    refine RZ.for_zipT (xs := as.map V.ref) (ys := ss.map V.ref) (by rw [hn, List.length_map, hss.len]) (fun i σ H2 => ∃ (bs : List Addr) (v3 v4 : Option V), σ = [some (.ref x), some (.str (sL ls)), some (.ref L), v3, v4] ∧ Same H H2 ∧ H2 L = some (.lst (bs.map V.ref)) ∧ StepsAt K H2 bs (relet ls 0 (st.take i)))
      ⟨[], none, none, rfl, s1, upd_same, StepsAt.nil⟩ ?_ ?_ ?_
    · rintro i σ H2 ⟨bs, v3, v4, _, s2, _⟩
      exact ⟨same_sqT s2 hts, same_sqT s2 hsp⟩
    · rintro i u v TT σ H2 hu hv ⟨bs, v3, v4, rfl, s2, hL2, hbs⟩ hT
      have hi : i < st.length := by
        have := (List.getElem?_eq_some_iff.mp hu).1
        rwa [hn] at this
      obtain ⟨y, hy⟩ : ∃ y, st[i]? = some y := ⟨st[i], List.getElem?_eq_getElem hi⟩
      obtain ⟨a, ha, hay⟩ := hst.at_ i y hy
      obtain ⟨b, db, hb, e5⟩ := hss.at_ i y hy
      obtain ⟨ok, _⟩ := goes_at t.good hy
      have eu : u = .ref a := map_at ha hu
      have ev : v = .ref b := map_at hb hv
      subst eu ev
      have s3 : Same H (upd H2 TT (.tup [.ref a, .ref b])) := s2.trans (same_upd hT)
      have hL3 : (upd H2 TT (.tup [.ref a, .ref b])) L = some (.lst (bs.map V.ref)) := same_upd hT _ _ hL2
      have hbs3 : StepsAt K (upd H2 TT (.tup [.ref a, .ref b])) bs (relet ls 0 (st.take i)) := hbs.same (same_upd hT)
      have hsm : (bs.map V.ref).length < sizeLine := by
        rw [List.length_map, hbs.len, relet_len, List.length_take]
        exact Nat.lt_of_le_of_lt (Nat.le_trans (Nat.min_le_right _ _) few) (by decide)
      have fin : ∀ (m : Addr) (H4 : Hp), Same (upd H2 TT (.tup [.ref a, .ref b])) H4 → SqT K H4 m (stV (rel1 ls (nk (st.take i)) y)) →
          ∃ (bs2 : List Addr) (v3 v4 : Option V), ([some (.ref x), some (.str (sL ls)), some (.ref L), some (.ref a), some (.ref b)] : L2.St) = [some (.ref x), some (.str (sL ls)), some (.ref L), v3, v4] ∧ Same H (upd H4 L (.lst (bs.map V.ref ++ [.ref m]))) ∧
            (upd H4 L (.lst (bs.map V.ref ++ [.ref m]))) L = some (.lst (bs2.map V.ref)) ∧ StepsAt K (upd H4 L (.lst (bs.map V.ref ++ [.ref m]))) bs2 (relet ls 0 (st.take (i + 1))) := by
        intro m H4 s4 hm
        have hL4 := s4 _ _ hL3
        refine ⟨bs ++ [m], _, _, rfl, fun c o e => ?_, by rw [upd_same, List.map_append]; rfl, ?_⟩
        · rw [upd_ne (ne_of_none e hL)]
          exact s4 _ _ (s3 _ _ e)
        · rw [relet_take ls hy]
          exact (steps_butL hL4 but_upd (hbs3.same s4)).snoc (sqT_butL hL4 but_upd hm)
      refine ⟨TT, [.ref a, .ref b], rfl, .inl (.inl upd_same), rfl, _, _, rfl, _, _, rfl, rfl, ?_⟩
      refine ⟨_, rfl, b, _, db, _, _, rfl, s3 _ _ e5, T.clS, T.nS3, spF_key _ _ _, _, rfl, ?_⟩
      cases y with
      | wr w =>
        have hks := nk_take_le hy
        have hw : (sL w).length ≤ sizeLine := by
          rw [sL_len]
          simp [Stp.ok] at ok
          exact Nat.le_trans ok.1.2 (by decide)
        refine iteF ?_
        refine ⟨_, rfl, .inl ⟨rfl, _, SqL.of hL3⟩, _, rfl, _, rfl, b, _, db, _, _, rfl, s3 _ _ e5, T.clS, T.nS3, spF_key _ _ _, _, rfl, _, rfl, b, _, db, _, _, rfl, s3 _ _ e5, T.clS, T.nS3, spF_key _ _ _, _, rfl, a, _, _, _, rfl, rfl, same_sqT s3 hay, atI_nat (j := 1) rfl, _, rfl, hw, _, _, rfl, rfl,
          _, rfl, _, rfl, hz, (by show 2 ≤ sizeLine; decide), fun p hp => ?_⟩
        have hL5 : (upd (upd H2 TT (.tup [.ref a, .ref b])) p (.tup [.str "write", .str (cutS (sL ls) (some (nk (st.take i) : Int)) (some ((nk (st.take i) : Int) + ((sL w).length : Int))))])) L = some (.lst (bs.map V.ref)) := same_upd hp _ _ hL3
        refine ⟨L, _, _, rfl, rfl, hL5, hsm, ?_⟩
        refine fin p _ (same_upd hp) (.inl (.inl ?_))
        rw [upd_same, sL_len]
        have e9 := cut_sL (ls := ls) (n := nk (st.take i)) (m := w.length) (by rw [hl]; exact hks)
        rw [Int.natCast_add] at e9
        rw [e9]
        rfl
      | pa f0 l t0 =>
        refine iteT ?_
        refine ⟨_, rfl, .inl ⟨rfl, _, SqL.of hL3⟩, _, rfl, L, _, _, rfl, rfl, hL3, hsm, ?_⟩
        exact fin a _ (Same.refl _) (same_sqT s3 hay)
    · rintro σ H2 ⟨bs, v3, v4, rfl, s2, hL2, hbs⟩
      rw [hn, List.take_length] at hbs
      refine ⟨_, rfl, L, _, rfl, .inr (SqL.of hL2), ?_⟩
      refine make_text T.csct hbs (goes_relet hlet t.good (by omega)) (by rw [relet_len]; exact few) fun z H4 hz s4 t2 => ?_
      exact q z H4 (s2.free hz) (s2.trans s4) t2
end
end KL
namespace KL
open PySem PySem.Spec PyProof.Rows L2 Pk He
abbrev CRd (K : Fr) : Addr := ga K "KeyReader"
/-! ### readers in the heap -/
inductive Ob where
  | see (p c : Nat)
  | word (p : Nat) (w : List Nat)
  | hear (p q : Nat)
def obV : Ob → List V
  | .see p c => [.str "see", .int (p : Nat), .str (sL [c])]
  | .word p w => [.str "see_word", .int (p : Nat), .str (sL w)]
  | .hear p q => [.str "hear_alike", .int (p : Nat), .int (q : Nat)]
structure ObsAt (K : Fr) (H : Hp) (as : List Addr) (os : List Ob) : Prop where
  len : as.length = os.length
  at_ : ∀ (i : Nat) (o : Ob), os[i]? = some o → ∃ a, as[i]? = some a ∧ SqT K H a (obV o)
theorem ObsAt.nil {K : Fr} {H : Hp} : ObsAt K H [] [] := ⟨rfl, fun i o h => by simp at h⟩
theorem ObsAt.same {K : Fr} {H H2 : Hp} {as : List Addr} {os : List Ob} (h : ObsAt K H as os) (e : Same H H2) : ObsAt K H2 as os :=
  ⟨h.len, fun i o hi => let ⟨a, h1, h2⟩ := h.at_ i o hi; ⟨a, h1, same_sqT e h2⟩⟩
/-- all but three objects stands -/
def But3 (e d a : Addr) (H H2 : Hp) : Prop := ∀ b o, b ≠ e → b ≠ d → b ≠ a → H b = some o → H2 b = some o
theorem But3.refl {e d a : Addr} {H : Hp} : But3 e d a H H := fun _ _ _ _ _ h => h
theorem Same.but3 {e d a : Addr} {H H2 : Hp} (s : Same H H2) : But3 e d a H H2 := fun b o _ _ _ h => s b o h
theorem But3.trans {e d a : Addr} {H H1 H2 : Hp} (x : But3 e d a H H1) (y : But3 e d a H1 H2) : But3 e d a H H2 := fun b o h1 h2 h3 h => y b o h1 h2 h3 (x b o h1 h2 h3 h)
theorem But.but3e {e d a : Addr} {H H2 : Hp} (b : But e H H2) : But3 e d a H H2 := fun c o h _ _ hc => b c o h hc
theorem But.but3d {e d a : Addr} {H H2 : Hp} (b : But d H H2) : But3 e d a H H2 := fun c o _ h _ hc => b c o h hc
theorem But.but3a {e d a : Addr} {H H2 : Hp} (b : But a H H2) : But3 e d a H H2 := fun c o _ _ h hc => b c o h hc
theorem text_butR {K : Fr} {H H2 : Hp} {r C d x : Addr} {fs : List (Str × V)} {st : List Stp} (hr : H r = some (.ins C d fs)) (n1 : CT K ≠ C) (n2 : CS K ≠ C) (b : But r H H2) (h : TA_ K H x st) : TA_ K H2 x st := by
  obtain ⟨dx, ts, sp, as, ss, h1, h2, h3, h4, h5⟩ := h.obj
  have hxr : x ≠ r := ne_of h1 hr (by intro z; injection z with z; exact n1 z)
  exact ⟨h.good, h.few, dx, ts, sp, as, ss, b _ _ hxr h1, sqT_but hr b h2, steps_but hr b h3, sqT_but hr b h4, spans_but n2 hr b h5⟩
theorem text_butK {K : Fr} {H H2 : Hp} {r x : Addr} {kvs : List (Key × V)} {st : List Stp} (hr : H r = some (.dK kvs)) (b : But r H H2) (h : TA_ K H x st) : TA_ K H2 x st := by
  obtain ⟨dx, ts, sp, as, ss, h1, h2, h3, h4, h5⟩ := h.obj
  have hxr : x ≠ r := ne_of h1 hr (by intro z; cases z)
  have sq : ∀ {a : Addr} {xs : List V}, SqT K H a xs → SqT K H2 a xs := fun {a xs} h => by
    rcases h with (z | ⟨o2, z⟩) | z
    · exact .inl (.inl (b _ _ (ne_of z hr (by intro z; cases z)) z))
    · exact .inl (.inr ⟨o2, b _ _ (ne_of z hr (by intro z; cases z)) z⟩)
    · exact .inr z
  refine ⟨h.good, h.few, dx, ts, sp, as, ss, b _ _ hxr h1, sq h2, ⟨h3.len, fun i u hu => let ⟨a, q1, q2⟩ := h3.at_ i u hu; ⟨a, q1, sq q2⟩⟩, sq h4, ⟨h5.len, fun i u hu => let ⟨a, q1, q2, q3⟩ := h5.at_ i u hu; ⟨a, q1, q2, b _ _ (ne_of q3 hr (by intro z; cases z)) q3⟩⟩⟩
theorem text_but3 {K : Fr} {H H2 : Hp} {e d a x C dx : Addr} {fs : List (Str × V)} {kvs : List (Key × V)} {xs : List V} {st : List Stp} (he : H e = some (.ins C dx fs)) (n1 : CT K ≠ C) (n2 : CS K ≠ C) (hd : H d = some (.dK kvs)) (ha : H a = some (.lst xs)) (b : But3 e d a H H2) (h : TA_ K H x st) : TA_ K H2 x st := by
  obtain ⟨dx2, ts, sp, as, ss, h1, h2, h3, h4, h5⟩ := h.obj
  have keep : ∀ {b2 : Addr} {o : HO}, H b2 = some o → (∀ dx fs, o ≠ .ins C dx fs) → (∀ k, o ≠ .dK k) → (∀ k, o ≠ .lst k) → H2 b2 = some o := fun {b2 o} hb q1 q2 q3 => b _ _ (fun z => q1 dx fs (Option.some.inj (hb.symm.trans (z ▸ he)))) (fun z => q2 kvs (Option.some.inj (hb.symm.trans (z ▸ hd)))) (fun z => q3 xs (Option.some.inj (hb.symm.trans (z ▸ ha)))) hb
  have sq : ∀ {a : Addr} {xs : List V}, SqT K H a xs → SqT K H2 a xs := fun {a xs} h => by
    rcases h with (z | ⟨o2, z⟩) | z
    · exact .inl (.inl (keep z (fun _ _ z => by cases z) (fun _ z => by cases z) fun _ z => by cases z))
    · exact .inl (.inr ⟨o2, keep z (fun _ _ z => by cases z) (fun _ z => by cases z) fun _ z => by cases z⟩)
    · exact .inr z
  refine ⟨h.good, h.few, dx2, ts, sp, as, ss, keep h1 (fun _ _ z => by injection z with z; exact n1 z) (fun _ z => by cases z) (fun _ z => by cases z), sq h2, ⟨h3.len, fun i u hu => let ⟨a, q1, q2⟩ := h3.at_ i u hu; ⟨a, q1, sq q2⟩⟩, sq h4, ⟨h5.len, fun i u hu => let ⟨a, q1, q2, q3⟩ := h5.at_ i u hu; ⟨a, q1, q2, keep q3 (fun _ _ z => by injection z with z; exact n2 z) (fun _ z => by cases z) (fun _ z => by cases z)⟩⟩⟩
theorem ObsAt.snoc {K : Fr} {H : Hp} {as : List Addr} {os : List Ob} {a : Addr} {o : Ob} (h : ObsAt K H as os) (ha : SqT K H a (obV o)) : ObsAt K H (as ++ [a]) (os ++ [o]) := by
  refine ⟨by rw [List.length_append, List.length_append, h.len]; rfl, fun i u hu => ?_⟩
  by_cases hi : i < os.length
  · rw [List.getElem?_append_left hi] at hu
    obtain ⟨b, h1, h2⟩ := h.at_ i u hu
    exact ⟨b, by rw [List.getElem?_append_left (by rw [h.len]; exact hi)]; exact h1, h2⟩
  · have hil : i < os.length + 1 := by
      have := (List.getElem?_eq_some_iff.mp hu).1
      simpa using this
    have e : i = os.length := by omega
    subst e
    rw [List.getElem?_append_right (Nat.le_refl _)] at hu
    simp at hu
    subst hu
    exact ⟨a, by rw [← h.len, List.getElem?_append_right (Nat.le_refl _)]; simp, ha⟩
/-- the reader of the text x stands at e; d, a: its dict of letters, its list of observations -/
def rdF (x g d a : Addr) : List (Str × V) := [("_text", .ref x), ("_groups", .ref g), ("_letters", .ref d), ("_accepted", .ref a)]
structure RdrAt (K : Fr) (H : Hp) (e x d a : Addr) (s : RS) (os : List Ob) : Prop where
  obj : ∃ dx g as, H e = some (.ins (CRd K) dx (rdF x g d a)) ∧ H g = some (.lst (nV s.gs)) ∧ H d = some (.dK (kvR s.lt)) ∧ H a = some (.lst (as.map V.ref)) ∧ ObsAt K H as os ∧ g ≠ a
theorem ObsAt.but {K : Fr} {H H2 : Hp} {r : Addr} {u : HO} {as : List Addr} {os : List Ob} (hr : H r = some u) (nt : ∀ xs, u ≠ .tup xs) (nf : ∀ o xs, u ≠ .frz o (.tup xs)) (b : But r H H2) (h : ObsAt K H as os) : ObsAt K H2 as os :=
  ⟨h.len, fun i o hi => by
    obtain ⟨a, h1, h2⟩ := h.at_ i o hi
    refine ⟨a, h1, ?_⟩
    rcases h2 with (z | ⟨o2, z⟩) | z
    · exact .inl (.inl (b _ _ (fun e => nt _ (Option.some.inj (hr.symm.trans (e ▸ z)))) z))
    · exact .inl (.inr ⟨o2, b _ _ (fun e => nf _ _ (Option.some.inj (hr.symm.trans (e ▸ z)))) z⟩)
    · exact .inr z⟩
theorem RdrAt.same {K : Fr} {H H2 : Hp} {e x d a : Addr} {s : RS} {os : List Ob} (h : RdrAt K H e x d a s os) (z : Same H H2) : RdrAt K H2 e x d a s os := by
  obtain ⟨dx, g, as, h1, h2, h3, h4, h5, h6⟩ := h.obj
  exact ⟨⟨dx, g, as, z _ _ h1, z _ _ h2, z _ _ h3, z _ _ h4, h5.same z, h6⟩⟩
theorem RowAt.butR {K : Fr} {S : Addr × List Int} {H H2 : Hp} {e r C d : Addr} {fs : List (Str × V)} (he : H e = some (.ins C d fs)) (b : But e H H2) (h : RowAt K S H r) : RowAt K S H2 r := by
  obtain ⟨i, sd, hd, b1, b2, b3⟩ := h
  refine ⟨i, sd, hd, b _ _ (ne_of b1 he (by intro z; cases z)) b1, ?_, b3⟩
  rcases b2 with (h | ⟨u, h⟩) | h
  · exact .inl (.inl (b _ _ (ne_of h he (by intro z; cases z)) h))
  · exact .inl (.inr ⟨u, b _ _ (ne_of h he (by intro z; cases z)) h⟩)
  · exact .inr h
theorem nV_row {K : Fr} {S : Addr × List Int} {H : Hp} {r L : Addr} {l : List Nat} (h : RowAt K S H r) (e : H L = some (.lst (nV l))) : L ≠ r := by
  obtain ⟨i, sd, hd, h1, _⟩ := h
  refine ne_of e h1 fun z => ?_
  injection z with z
  unfold nV at z
  cases l with
  | nil => cases z
  | cons a l => injection z with z _; cases z
theorem refs_row {K : Fr} {S : Addr × List Int} {H : Hp} {r L : Addr} {as : List Addr} (h : RowAt K S H r) (e : H L = some (.lst (as.map V.ref))) : L ≠ r := by
  obtain ⟨i, sd, hd, h1, _⟩ := h
  refine ne_of e h1 fun z => ?_
  injection z with z
  match as, z with
  | [], z => cases z
  | [a], z => cases z
  | a :: b :: l, z => injection z with _ z; injection z with z _; cases z
theorem RdrAt.row {K : Fr} {S : Addr × List Int} {H H2 : Hp} {r e x d a : Addr} {s : RS} {os : List Ob} (h : RowAt K S H r) (b : But r H H2) (t : RdrAt K H e x d a s os) : RdrAt K H2 e x d a s os := by
  obtain ⟨dx, g, as, h1, h2, h3, h4, h5, h6⟩ := t.obj
  have n2 := nV_row h h2
  have n4 := refs_row h h4
  obtain ⟨xs, hr⟩ := h.lst
  exact ⟨⟨dx, g, as, b _ _ (ne_of h1 hr (by intro z; cases z)) h1, b _ _ n2 h2, b _ _ (ne_of h3 hr (by intro z; cases z)) h3, b _ _ n4 h4, h5.but hr (by intro xs z; cases z) (by intro o xs z; cases z) b, h6⟩⟩
theorem RdrAt.ne {K : Fr} {H : Hp} {e x d a L : Addr} {s : RS} {os : List Ob} {l : List V} (t : RdrAt K H e x d a s os) (e1 : H L = some (.lst l)) : L ≠ e ∧ L ≠ d := by
  obtain ⟨dx, g, as, h1, h2, h3, h4, h5, h6⟩ := t.obj
  exact ⟨ne_of e1 h1 (by intro z; cases z), ne_of e1 h3 (by intro z; cases z)⟩
def spGroupOf (K : Fr) : Sp := fun vs H Q _ => ∃ (e x d a : Addr) (p : Int) (st : List Stp) (s : RS) (os : List Ob), vs = [.ref e, .int p] ∧ RdrAt K H e x d a s os ∧ TA_ K H x st ∧ RsOk (nk st) s ∧ 0 ≤ p ∧ p < (sz st : Nat) ∧
  ∀ (k : Nat) H2, Same H H2 → (ex st)[p.toNat]? = some k → Q (.int (s.rg k)) H2
def spOpenG (K : Fr) : Sp := fun vs H Q _ => ∃ (e x d a : Addr) (s : RS) (os : List Ob), vs = [.ref e] ∧ RdrAt K H e x d a s os ∧ s.gs.length ≤ 600 ∧
  ∀ (l : Addr) H2, H l = none → Same H H2 → H2 l = some (.lst (nV (opn s))) → Q (.ref l) H2
def spKnown (K : Fr) : Sp := fun vs H Q _ => ∃ (e x d a : Addr) (s : RS) (os : List Ob), vs = [.ref e] ∧ RdrAt K H e x d a s os ∧ s.gs.length ≤ 600 ∧
  ∀ (l : Addr) H2, H l = none → Same H H2 → H2 l = some (.dK (kvR (knw s))) → Q (.ref l) H2
def spCountT (K : Fr) : Sp := fun vs H Q _ => ∃ (e x d a : Addr) (s : RS) (os : List Ob), vs = [.ref e] ∧ RdrAt K H e x d a s os ∧ s.gs.length ≤ 600 ∧
  ∀ H2, Same H H2 → Q (.int ((26 ^ (opn s).length : Nat) : Int)) H2
def spRdGet (K : Fr) : Sp := fun vs H Q _ => ∃ (e x d a : Addr) (p : Int) (st : List Stp) (s : RS) (os : List Ob), vs = [.ref e, .int p] ∧ RdrAt K H e x d a s os ∧ TA_ K H x st ∧ RsOk (nk st) s ∧
  (0 ≤ p → p < (sz st : Nat) → ∀ (k : Nat) H2, Same H H2 → (ex st)[p.toNat]? = some k → Q (getL (s.le k) .non) H2) ∧ (¬ (0 ≤ p ∧ p < (sz st : Nat)) → ∀ H2, Same H H2 → Q .non H2)
def spRdGetI (K : Fr) : Sp := fun vs H Q _ => ∃ (e x d a : Addr) (p : Int) (st : List Stp) (s : RS) (os : List Ob), vs = [.ref e, .int p] ∧ RdrAt K H e x d a s os ∧ TA_ K H x st ∧ RsOk (nk st) s ∧ 0 ≤ p ∧ p < (sz st : Nat) ∧
  ∀ (k : Nat) H2, Same H H2 → (ex st)[p.toNat]? = some k → Q (getL (s.le k) .non) H2
theorem rdGetI {P : Program} {w : World} {K : Fr} {mg : Str → Option Value} {base : Heap} {f : Addr} {k : Nat} (G : Kp P w K mg base k f (spRdGet K)) : Kp P w K mg base k f (spRdGetI K) := by
  refine Kp.sub G fun vs H Q E h => ?_
  obtain ⟨e, x, d, a, p, st, s, os, rfl, h1, h2, h3, h4, h5, q⟩ := h
  exact ⟨e, x, d, a, p, st, s, os, rfl, h1, h2, h3, fun _ _ => q, fun n => absurd ⟨h4, h5⟩ n⟩
theorem nV_get {l : List Nat} {i : Nat} (h : i < l.length) : (nV l)[i]? = some (.int (l.getD i 0 : Nat)) := by
  unfold nV
  rw [List.getElem?_map, List.getD_eq_getElem?_getD, List.getElem?_eq_getElem h]
  rfl
section
variable {P : Program} {w : World} {K : Fr} {mg : Str → Option Value} {base : Heap} {f : Addr}
-- hint: self._text(place) => callF
theorem ok_KeyReader_group_of (D : Df K "_group_of" "KeyReader._group_of" s_KeyReader_group_of (ma K (ga K "KeyReader") "_group_of")) (T : Tc w K mg) (G_Text_call : Kp P w K mg base 3 (ma K (CT K) "__call__") (spCall K)) : Kp P w K mg base 5 (ma K (ga K "KeyReader") "_group_of") (spGroupOf K) := by
  have G_Text_call := callI G_Text_call
  refine kp_of D sc_KeyReader_group_of (fun _ _ _ _ _ _ us hl => match us, hl with | [_, _], _ => rfl) ?_ (fun cdv A outer s H vs Q E hr h => ?_)
  · rintro vs H Q E ⟨e, x, d, a, p, st, s, os, rfl, _⟩
    rfl
  · obtain ⟨e, x, d, a, p, st, s, os, rfl, rdr, tx, ok, h0, h1, q⟩ := h
    obtain ⟨dx, g, as, he, hg, hd, ha, hos, hga⟩ := rdr.obj
    have hlen := ok.len
    refine ⟨_, (pss_one (ps_ret (pe_ix (ixS K) (fldK K (pv 0)) (pe_callF (pv 0) T.callO G_Text_call (hr.mono (by omega)) (pa_cons (pv 1) pa_nil)) (fun _ _ => rfl)))), ?_⟩
    obtain ⟨dx_x, ts_x, sp_x, as_x, ss_x, hx_x, hts_x, hst_x, hsp_x, hss_x⟩ := tx.obj
    have hty_x := typed_small tx
    have hnk_x := text_nk tx
    have hg_x := tx.good
    refine ⟨_, rfl, _, _, _, _, _, rfl, he, T.clKeyReader, T.n_KeyReader_groups, rfl, _, rfl, _, _, _, _, _, rfl, he, T.clKeyReader, T.n_KeyReader_text, rfl, _, rfl, ⟨_, ⟨_, hx_x⟩⟩, _, _, _, rfl, tx, (by omega), (by omega), fun k H2 s1 e1 => ?_⟩
    have hlt_k := ex_lt _ _ (List.mem_of_getElem? e1)
    have hat : atI (nV s.gs) (k : Int) = some (.int (s.rg k : Nat)) := atI_nat (nV_get (by omega))
    refine (.inl ⟨_, _, _, _, rfl, rfl, (SqL.of (s1 _ _ hg)), hat, ?_⟩)
    exact q _ _ s1 e1
-- hint: group not in self._letters => pc_rnotin (hu9 hr.units)
theorem ok_KeyReader_open_groups (D : Df K "_open_groups" "KeyReader._open_groups" s_KeyReader_open_groups (ma K (ga K "KeyReader") "_open_groups")) (T : Tc w K mg) : Kp P w K mg base 1 (ma K (ga K "KeyReader") "_open_groups") (spOpenG K) := by
  refine kp_of D sc_KeyReader_open_groups (fun _ _ _ _ _ _ us hl => match us, hl with | [_], _ => rfl) ?_ (fun cdv A outer s H vs Q E hr h => ?_)
  · rintro vs H Q E ⟨e, x, d, a, s, os, rfl, _⟩
    rfl
  · obtain ⟨e, x, d, a, s, os, rfl, rdr, hn, q⟩ := h
    obtain ⟨dx, g, as, he, hg, hd, ha, hos, hga⟩ := rdr.obj
    refine ⟨_, (pss_cons (ps_setLc (i := 1) (own := [("key", 2), ("group", 3)]) (g := gTup K 2 (gCons (gName 2) (gCons (gName 3) (gNil)))) rfl sc_KeyReader_open_groups.nd rfl rfl (sw_true rfl rfl rfl (by decide +kernel)) (pi_enumX (by rfl) T.enu (pa_cons (fldK K (pv 0)) pa_nil)) (blkOk_by (N := ["self", "named", "key", "group"]) (sc := defScope s_KeyReader_open_groups) (by decide +kernel)) (fun _ _ _ _ _ => (pg_tup rfl (pgs_cons (pg_name (i := 2) sc_KeyReader_open_groups.nd rfl (Or.inl rfl)) (pgs_cons (pg_name (i := 3) sc_KeyReader_open_groups.nd rfl (Or.inl rfl)) pgs_nil)))) (fun _ _ _ _ _ => (pts_one (pt_cmpR (eqB K hr.units) (pv 2) (pv 3) (nomark _)))) (fun _ _ _ _ _ => (pv 2))) (pss_one (ps_ret (pe_lc (own := [("group", 3)]) (g := gName 3) rfl sc_KeyReader_open_groups.nd (pi_list (pv 1)) (blkOk_by (N := ["self", "named", "key", "group"]) (sc := defScope s_KeyReader_open_groups) (by decide +kernel)) (fun _ _ _ _ _ => (pg_name (i := 3) sc_KeyReader_open_groups.nd rfl (Or.inl rfl))) (fun _ _ _ _ _ => (pts_one (pt_cmp (pc_rnotin (hu9 hr.units) (pv 3) (fldK K (pv 0)))))) (fun _ _ _ _ _ => (pv 3)))))), ?_⟩
    refine ⟨_, rfl, _, _, _, _, _, rfl, he, T.clKeyReader, T.n_KeyReader_groups, rfl, ?_⟩
    refine ⟨.lst g, nV s.gs, rfl, SqL.of hg, fun D hD => ?_⟩
    refine lc_keep (walk_enumX (K := K) (S := .lst g) (xs := nV s.gs)) hD (fun k => decide (k = s.rg k)) (fun i => V.int (i : Nat)) (by rw [nV_len]; exact small_ok (by omega)) (fun H2 s2 => SqL.of (s2 _ _ hg)) ?_ ?_
    · rintro i v H2 H3 N N0 hi s2 ⟨T0, v1, v2, rfl, hT0, rfl, ev1, ev2⟩ yes no
      cases ev1
      rw [nV_len] at hi
      cases (nV_get hi).symm.trans ev2
      have ydec : s.gs.getD i 0 = s.rg i := rfl
      generalize hE : upd H2 T0 _ = H1
      have s1 : Same H2 H1 := hE ▸ same_upd hT0
      have e_T0 := (congrFun hE T0).symm.trans upd_same
      clear hE
      refine ⟨_, _, rfl, (SqT.of e_T0), rfl, _, _, rfl, _, _, rfl, rfl, rfl, _, rfl, _, rfl, (.inl ⟨rfl, _, rfl, ?_⟩)⟩
      have ne_e_T0 := ne_of_none (s2 _ _ he) hT0
      have ne_g_T0 := ne_of_none (s2 _ _ hg) hT0
      have ne_d_T0 := ne_of_none (s2 _ _ hd) hT0
      have ne_a_T0 := ne_of_none (s2 _ _ ha) hT0
      refine iB (fun e => ?_) fun e => ?_
      · have e2 : i = s.rg i := by injection e with e; omega
        rw [decide_eq_true e2] at yes
        refine ⟨_, rfl, ?_⟩
        exact yes rfl _ s1
      · have e2 : ¬ i = s.rg i := fun z => e (by show V.int (i : Int) = V.int (s.rg i : Nat); rw [← z])
        rw [decide_eq_false e2] at no
        exact no rfl _ s1
    · intro H2 s2 hD2
      rw [nV_len] at hD2
      have hD3 : H2 D = some (.lst (nV ((List.range s.gs.length).filter fun k => decide (k = s.rg k)))) := hD2
      generalize hnm : (List.range s.gs.length).filter (fun k => decide (k = s.rg k)) = nm at hD3
      have hnml : nm.length ≤ s.gs.length := by
        rw [← hnm]
        exact Nat.le_trans (List.length_filter_le _ _) (by simp)
      clear hD2
      refine ⟨_, rfl, _, rfl, ⟨_, (SqL.of hD3)⟩, fun D1 n => ?_⟩
      have ne_e_D1 := ne_of_none (s2 _ _ he) n
      have ne_g_D1 := ne_of_none (s2 _ _ hg) n
      have ne_d_D1 := ne_of_none (s2 _ _ hd) n
      have ne_a_D1 := ne_of_none (s2 _ _ ha) n
      have ne_D_D1 := ne_of_none hD3 n
      refine lc_keep (walk_list (xs := nV nm)) n (fun i => !(s.lt.lookup (nm.getD i 0)).isSome) (fun i => V.int (nm.getD i 0 : Nat)) (by rw [nV_len]; exact small_ok (by omega)) (fun H3 s3 => SqL.of (s3 _ _ hD3)) ?_ ?_
      · rintro i v H3 H4 N N0 hi s3 ⟨rfl, hu⟩ yes no
        rw [nV_len] at hi
        cases (nV_get hi).symm.trans hu
        refine ⟨rfl, _, rfl, _, rfl, _, _, _, _, _, rfl, (s3 _ _ (s2 _ _ he)), T.clKeyReader, T.n_KeyReader_letters, rfl, _, _, _, rfl, rfl, (.inl (s3 _ _ (s2 _ _ hd))), _, rfl, ?_⟩
        cases hb : (s.lt.lookup (nm.getD i 0)).isSome with
        | true =>
          rw [hb] at no
          refine iteF ?_
          exact no rfl _ (Same.refl _)
        | false =>
          rw [hb] at yes
          refine iteT ?_
          refine ⟨_, rfl, ?_⟩
          exact yes rfl _ (Same.refl _)
      · intro H3 s3 hD4
        rw [nV_len] at hD4
        have hk9 := keeps_filter nm (fun g => !(s.lt.lookup g).isSome) (fun g => V.int (g : Nat))
        rw [hk9, ← hnm, List.filter_filter] at hD4
        have hD5 : H3 D1 = some (.lst (nV (opn s))) := by
          rw [hD4]
          unfold opn nV
          refine congrArg (fun z => some (HO.lst (List.map _ z))) (List.filter_congr fun k _ => ?_)
          rw [Bool.and_comm]
        clear hD4
        exact q _ _ (s2.free n) (s2.trans s3) hD5
-- hint: group in self._letters => pc_rin (hu9 hr.units)
-- hint: self._letters[group] => rdict
-- hint: st:known[key] => rdict
theorem ok_KeyReader_known_letters (D : Df K "known_letters" "KeyReader.known_letters" s_KeyReader_known_letters (pgA K (ga K "KeyReader") "known_letters")) (T : Tc w K mg) : Kp P w K mg base 1 (pgA K (ga K "KeyReader") "known_letters") (spKnown K) := by
  refine kp_of D sc_KeyReader_known_letters (fun _ _ _ _ _ _ us hl => match us, hl with | [_], _ => rfl) ?_ (fun cdv A outer s H vs Q E hr h => ?_)
  · rintro vs H Q E ⟨e, x, d, a, s, os, rfl, _⟩
    rfl
  · obtain ⟨e, x, d, a, s, os, rfl, rdr, hn, q⟩ := h
    obtain ⟨dx, g, as, he, hg, hd, ha, hos, hga⟩ := rdr.obj
    refine ⟨_, (pss_cons (ps_set (i := 1) sc_KeyReader_known_letters.nd rfl (Or.inl rfl) pe_dnewK) (pss_cons (ps_for PassesOwn.never rfl (pi_enumX (by rfl) T.enu (pa_cons (fldK K (pv 0)) pa_nil)) (pg_tup rfl (pgs_cons (pg_name (i := 2) sc_KeyReader_known_letters.nd rfl (Or.inl rfl)) (pgs_cons (pg_name (i := 3) sc_KeyReader_known_letters.nd rfl (Or.inl rfl)) pgs_nil))) (pss_one (ps_if (pt_cmp (pc_rin (hu9 hr.units) (pv 3) (fldK K (pv 0)))) (pss_one (ps_asg (pe_rget (hu9 hr.units) (fldK K (pv 0)) (pv 3) (fun _ _ => rfl)) (pg_sub (pv 1) (pv 2) (set_R (hu9 hr.units))))) pss_nil))) (pss_one (ps_ret (pv 1))))), ?_⟩
    refine fun p n => ?_
    have ne_e_p := ne_of_none he n
    have ne_g_p := ne_of_none hg n
    have ne_d_p := ne_of_none hd n
    have ne_a_p := ne_of_none ha n
    generalize hE : upd H p _ = H1
    have s1 : Same H H1 := hE ▸ same_upd n
    have e_p := (congrFun hE p).symm.trans upd_same
    clear hE
    refine ⟨_, rfl, _, _, _, _, _, rfl, (s1 _ _ he), T.clKeyReader, T.n_KeyReader_groups, rfl, ?_⟩
    refine ⟨.lst g, nV s.gs, rfl, SqL.of (s1 _ _ hg), ?_⟩
    refine for_it (walk_enumX (K := K) (S := .lst g) (xs := nV s.gs)) (fun i σ HB => ∃ v2 v3 : Option V, σ = [some (.ref e), some (.ref p), v2, v3] ∧ But p H1 HB ∧ HB p = some (.dK (kvR (knwI s i)))) ⟨none, none, rfl, But.refl _ _, e_p⟩ ?_ ?_ ?_
    · rintro i σ HB hi ⟨v2, v3, rfl, bB, eB⟩
      exact SqL.of (bB _ _ ne_g_p (s1 _ _ hg))
    · rintro i v σ HB HC hi ⟨v2, v3, rfl, bB, eB⟩ ⟨T0, v1, v2, rfl, hT0, rfl, ev1, ev2⟩
      cases ev1
      rw [nV_len] at hi
      cases (nV_get hi).symm.trans ev2
      have e9 : s.gs.getD i 0 = s.rg i := rfl
      rw [e9]
      have hkl := knwI_len s i
      have hkn := knwI_nodup s i
      generalize hE : upd HB T0 _ = H11
      have s2 : Same HB H11 := hE ▸ same_upd hT0
      have e_T0 := (congrFun hE T0).symm.trans upd_same
      clear hE
      refine ⟨_, _, rfl, (SqT.of e_T0), rfl, _, _, rfl, _, _, rfl, rfl, _, rfl, _, rfl, _, _, _, _, _, rfl, (s2 _ _ (bB _ _ ne_e_p (s1 _ _ he))), T.clKeyReader, T.n_KeyReader_letters, rfl, _, _, _, rfl, rfl, (.inl (s2 _ _ (bB _ _ ne_d_p (s1 _ _ hd)))), _, rfl, ?_⟩
      have ne_e_T0 := ne_of_none ((but_new s1 bB n) _ _ he) hT0
      have ne_g_T0 := ne_of_none ((but_new s1 bB n) _ _ hg) hT0
      have ne_d_T0 := ne_of_none ((but_new s1 bB n) _ _ hd) hT0
      have ne_a_T0 := ne_of_none ((but_new s1 bB n) _ _ ha) hT0
      have ne_p_T0 := ne_of_none eB hT0
      generalize hσ : List.set _ _ _ = σ1
      simp only [L2.start, List.set_cons_zero, List.set_cons_succ, List.map_cons, List.map_nil, List.length_cons, List.length_nil, List.replicate_succ, List.replicate_zero, List.cons_append, List.nil_append, Nat.reduceAdd, Nat.reduceSub] at hσ
      subst hσ
      have hle : s.lt.lookup (s.rg i) = s.le i := rfl
      rw [hle]
      have hsu := knwI_succ s i
      cases hc : s.le i with
      | none =>
        rw [hc] at hsu
        refine iteF ?_
        refine ⟨_, _, rfl, fun b o ha h => s2 _ _ (bB _ _ ha h), ?_⟩
        rw [hsu]
        exact s2 _ _ eB
      | some c =>
        rw [hc] at hsu hle
        refine iteT ?_
        refine ⟨_, rfl, _, _, _, _, _, rfl, (s2 _ _ (bB _ _ ne_e_p (s1 _ _ he))), T.clKeyReader, T.n_KeyReader_letters, rfl, _, rfl, _, _, _, _, rfl, rfl, (.inl (s2 _ _ (bB _ _ ne_d_p (s1 _ _ hd)))), hle, _, rfl, _, rfl, _, _, _, _, rfl, rfl, rfl, (s2 _ _ eB), hkn, (by omega), ?_⟩
        generalize hE : upd H11 p _ = H12
        have b : But p H11 H12 := hE ▸ but_upd
        have s3 : Same H H12 := hE ▸ same_own ((but_new s1 bB n).trans s2) n
        have e_p1 := (congrFun hE p).symm.trans upd_same
        clear hE
        refine ⟨_, _, rfl, ((bB.trans (Same.but s2)).trans b), ?_⟩
        rw [e_p1, hsu, putR_out]
        intro hm
        obtain ⟨q9, hq9, e8⟩ := List.mem_map.mp hm
        have := knwI_keys s i q9 hq9
        omega
    · rintro σ HB ⟨v2, v3, rfl, bB, eB⟩
      rw [nV_len, knwI_all] at eB
      refine ⟨_, rfl, ?_⟩
      exact q _ _ n (but_new s1 bB n) eB
theorem ok_KeyReader_count_texts (D : Df K "count_texts" "KeyReader.count_texts" s_KeyReader_count_texts (ma K (ga K "KeyReader") "count_texts")) (T : Tc w K mg) (G_KeyReader_open_groups : Kp P w K mg base 1 (ma K (ga K "KeyReader") "_open_groups") (spOpenG K)) : Kp P w K mg base 2 (ma K (ga K "KeyReader") "count_texts") (spCountT K) := by
  refine kp_of D sc_KeyReader_count_texts (fun _ _ _ _ _ _ us hl => match us, hl with | [_], _ => rfl) ?_ (fun cdv A outer s H vs Q E hr h => ?_)
  · rintro vs H Q E ⟨e, x, d, a, s, os, rfl, _⟩
    rfl
  · obtain ⟨e, x, d, a, s, os, rfl, rdr, hn, q⟩ := h
    obtain ⟨dx, g, as, he, hg, hd, ha, hos, hga⟩ := rdr.obj
    refine ⟨_, (pss_cons (ps_set (i := 1) sc_KeyReader_count_texts.nd rfl (Or.inl rfl) pe_int) (pss_cons (ps_for PassesOwn.never rfl (pi_list (pe_methR0 (pv 0) T.clKeyReader T.m_KeyReader_open_groups G_KeyReader_open_groups.fnR (hr.mono (by omega)) pass0)) (pg_name (i := 2) sc_KeyReader_count_texts.nd rfl (Or.inl rfl)) (pss_one (ps_set (i := 1) sc_KeyReader_count_texts.nd rfl (Or.inl rfl) (pe_op mulB (pv 1) (pk_b1 (lenA K) T.len b_len (pe_gSx T.letters)))))) (pss_one (ps_ret (pv 1))))), ?_⟩
    refine ⟨_, rfl, _, _, _, rfl, he, rfl, _, _, _, _, _, _, rfl, rdr, (by omega), fun l H2 n s1 e1 => ?_⟩
    have ne_e_l := ne_of_none he n
    have ne_g_l := ne_of_none hg n
    have ne_d_l := ne_of_none hd n
    have ne_a_l := ne_of_none ha n
    refine ⟨_, rfl, ⟨_, (SqL.of e1)⟩, ?_⟩
    refine for_list (xs := nV (opn s)) (fun i σ HB => ∃ v2 : Option V, σ = [some (.ref e), some (.int ((26 ^ i : Nat) : Int)), v2] ∧ HB = H2) ⟨none, rfl, rfl⟩ ?_ ?_ ?_
    · rintro i σ HB hi ⟨v2, rfl, rfl⟩
      exact SqL.of e1
    · rintro i v σ HB hv ⟨v2, rfl, rfl⟩
      refine ⟨_, rfl, (.inl ⟨_, rfl, (by decide), ?_⟩)⟩
      have hL : ("abcdefghijklmnopqrstuvwxyz" : Str).length = 26 := by decide +kernel
      rw [hL]
      refine .inl ⟨_, _, rfl, rfl, .inr ⟨by decide, by decide⟩, ?_⟩
      refine ⟨some v, ?_, rfl⟩
      rw [Nat.pow_succ, Int.natCast_mul]
      rfl
    · rintro σ HB ⟨v2, rfl, rfl⟩
      rw [nV_len]
      refine ⟨_, rfl, ?_⟩
      exact q _ s1
-- hint: self._letters.get(self._groups[key_at(self._text.spans, at)]) => rget
theorem ok_KeyReader_getitem (D : Df K "__getitem__" "KeyReader.__getitem__" s_KeyReader_getitem (ma K (ga K "KeyReader") "__getitem__")) (T : Tc w K mg) (G_is_number : Kp P w K mg base 1 (ga K "is_number") spIsNumber) (G_Text_size : Kp P w K mg base 1 (pgA K (CT K) "size") (spSize K)) (G_key_at : Kp P w K mg base 1 (ga K "key_at") (spKeyAt K)) : Kp P w K mg base 5 (ma K (ga K "KeyReader") "__getitem__") (spRdGet K) := by
  refine kp_of D sc_KeyReader_getitem (fun _ _ _ _ _ _ us hl => match us, hl with | [_, _], _ => rfl) ?_ (fun cdv A outer s H vs Q E hr h => ?_)
  · rintro vs H Q E ⟨e, x, d, a, p, st, s, os, rfl, _⟩
    rfl
  · obtain ⟨e, x, d, a, p, st, s, os, rfl, rdr, tx, ok, q⟩ := h
    obtain ⟨dx, g, as, he, hg, hd, ha, hos, hga⟩ := rdr.obj
    refine ⟨_, (pss_cons (ps_if (pt_not (pt_val (pk_call G_is_number (hr.mono (by omega)) T.gIsNumber (pa_cons (pv 1) (pa_cons pe_int (pa_cons (pe_op op_sub (pk_prop (fldK K (pv 0)) T.clT T.pSize G_Text_size (hr.mono (by omega))) pe_int) pa_nil)))))) (pss_one (ps_ret pe_non)) pss_nil) (pss_one (ps_ret (pe_rget1 (hu9 hr.units) (fldK K (pv 0)) (pe_ix (ixS K) (fldK K (pv 0)) (pk_call G_key_at (hr.mono (by omega)) T.gKeyAt (pa_cons (fldK K (fldK K (pv 0))) (pa_cons (pv 1) pa_nil))) (fun _ _ => rfl)) ⟨rfl, rfl, rfl, rfl⟩)))), ?_⟩
    obtain ⟨dx_x, ts_x, sp_x, as_x, ss_x, hx_x, hts_x, hst_x, hsp_x, hss_x⟩ := tx.obj
    have hty_x := typed_small tx
    have hnk_x := text_nk tx
    have hg_x := tx.good
    refine ⟨_, rfl, _, rfl, _, _, _, _, _, rfl, he, T.clKeyReader, T.n_KeyReader_text, rfl, _, _, _, rfl, hx_x, _, _, rfl, tx, _, _, rfl, rfl, _, _, _, rfl, rfl, _, rfl, ?_⟩
    have hlen := ok.len
    by_cases hp : 0 ≤ p ∧ p < (sz st : Nat)
    · obtain ⟨h0, h1⟩ := hp
      have h9 : isNum (.int p) 0 ((sz st : Int) - 1) = true := by
        show (decide (0 ≤ p) && decide (p ≤ (sz st : Int) - 1)) = true
        rw [decide_eq_true h0, decide_eq_true (by omega)]
        rfl
      rw [h9]
      refine iteF ?_
      have q1 := q.1 h0 h1
      obtain ⟨p0, rfl⟩ := Int.eq_ofNat_of_zero_le h0
      refine ⟨_, rfl, _, _, _, _, _, rfl, he, T.clKeyReader, T.n_KeyReader_letters, rfl, _, _, rfl, (.inl hd), _, rfl, _, _, _, _, _, rfl, he, T.clKeyReader, T.n_KeyReader_groups, rfl, _, rfl, _, _, _, _, _, rfl, he, T.clKeyReader, T.n_KeyReader_text, rfl, _, _, _, _, _, rfl, hx_x, T.clT, T.nT2, rfl, _, rfl, ?_⟩
      refine ⟨_, _, _, _, rfl, hsp_x, hss_x, hg_x, (by omega), fun k H2 s1 e1 => ?_⟩
      have hlt_k := ex_lt _ _ (List.mem_of_getElem? e1)
      have hat : atI (nV s.gs) (k : Int) = some (.int (s.rg k : Nat)) := atI_nat (nV_get (by omega))
      refine (.inl ⟨_, _, _, _, rfl, rfl, (SqL.of (s1 _ _ hg)), hat, _, _, rfl, (.inl (s1 _ _ hd)), ?_⟩)
      exact q1 k H2 s1 e1
    · have h9 : isNum (.int p) 0 ((sz st : Int) - 1) = false := by
        show (decide (0 ≤ p) && decide (p ≤ (sz st : Int) - 1)) = false
        by_cases h0 : 0 ≤ p
        · rw [decide_eq_false (by omega : ¬ p ≤ (sz st : Int) - 1), Bool.and_false]
        · rw [decide_eq_false h0]
          rfl
      rw [h9]
      refine iteT ?_
      have q2 := q.2 hp
      exact q2 _ (Same.refl _)
end
end KL
namespace KL
open PySem PySem.Spec PyProof.Rows L2 Pk He
/-! ### the place at which a key was written -/
def spWritten (K : Fr) : Sp := fun vs H Q _ => ∃ (sp : Addr) (k : Nat) (ss : List Addr) (st : List Stp), vs = [.ref sp, .int k] ∧ SqT K H sp (ss.map V.ref) ∧ SpansAt (CS K) H ss st ∧ Goes most 0 st ∧ st.length ≤ 30 ∧ k < nk st ∧
  ∀ H2, Same H H2 → Q (.int (wpl st k : Nat)) H2
def wrL (st : List Stp) (k j : Nat) : Bool := match st[j]? with
  | some (.wr _) => decide (nk (st.take j) ≤ k)
  | _ => false
def spFewestP (K : Fr) : Sp := fun vs H Q _ => ∃ (e x d a : Addr) (st : List Stp) (s : RS) (os : List Ob), vs = [.ref e] ∧ RdrAt K H e x d a s os ∧ TA_ K H x st ∧ RsOk (nk st) s ∧
  ∀ (l : Addr) H2, H l = none → Same H H2 → H2 l = some (.lst (nV ((opn s).map (wpl st)))) → Q (.ref l) H2
def surely (s : RS) (g h : Nat) : Bool := decide (g = h) || ((s.lt.lookup g).isSome && decide (s.lt.lookup g = s.lt.lookup h))
def spSurely (K : Fr) : Sp := fun vs H Q _ => ∃ (e x d a : Addr) (p p2 : Int) (st : List Stp) (s : RS) (os : List Ob), vs = [.ref e, .int p, .int p2] ∧ RdrAt K H e x d a s os ∧ TA_ K H x st ∧ RsOk (nk st) s ∧ 0 ≤ p ∧ p < (sz st : Nat) ∧ 0 ≤ p2 ∧ p2 < (sz st : Nat) ∧
  ∀ (k m : Nat) H2, Same H H2 → (ex st)[p.toNat]? = some k → (ex st)[p2.toNat]? = some m → Q (.bl (surely s (s.rg k) (s.rg m))) H2
def lettersOf (s : RS) (c : Nat) : List Nat := (List.range s.gs.length).map fun k => (s.le k).getD c
def spTextWith (K : Fr) : Sp := fun vs H Q _ => ∃ (e x d a : Addr) (c : Nat) (st : List Stp) (s : RS) (os : List Ob), vs = [.ref e, .str (sL [c])] ∧ RdrAt K H e x d a s os ∧ TA_ K H x st ∧ RsOk (nk st) s ∧ isLet c = true ∧
  ∀ (z : Addr) H2, H z = none → Same H H2 → TA_ K H2 z (relet (lettersOf s c) 0 st) → Q (.ref z) H2
section
variable {P : Program} {w : World} {K : Fr} {mg : Str → Option Value} {base : Heap} {f : Addr}
-- hint: pi:spans => pi_tup
theorem ok_written_place (D : Df K "written_place" "written_place" s_written_place (ga K "written_place")) (T : Tc w K mg) : Kp P w K mg base 1 (ga K "written_place") (spWritten K) := by
  refine kp_of D sc_written_place (fun _ _ _ _ _ _ us hl => match us, hl with | [_, _], _ => rfl) ?_ (fun cdv A outer s H vs Q E hr h => ?_)
  · rintro vs H Q E ⟨sp, k, ss, st, rfl, _⟩
    rfl
  · obtain ⟨sp, k, ss, st, rfl, hsp, hss, good, few, hk, q⟩ := h
    obtain ⟨i, w0, hi, h2, h3, h4⟩ := wr_of st.length (k := k) (by rw [List.take_length]; exact hk)
    obtain ⟨hw1, _, _⟩ := wpl_eq good h2 h3 h4
    rw [hw1] at q
    obtain ⟨bi, di, hbi, ebi⟩ := hss.at_ i _ h2
    refine ⟨_, (pss_cons (ps_setLc (i := 2) (own := [("span", 3)]) (g := gName 3) rfl sc_written_place.nd rfl rfl (sw_true rfl rfl rfl (by decide +kernel)) (pi_tup (pv 0)) (blkOk_by (N := ["spans", "key", "written", "span"]) (sc := defScope s_written_place) (by decide +kernel)) (fun _ _ _ _ _ => (pg_name (i := 3) sc_written_place.nd rfl (Or.inl rfl))) (fun _ _ _ _ _ => (pts_one (pw_and (pt_cmp (pc_notN (fldK K (pv 3)))) (pw_and1 (pt_cmpR op_le (fldK K (pv 3)) (pv 1) (nomark _)))).pt)) (fun _ _ _ _ _ => (pv 3))) (pss_one (ps_ret (pe_op op_sub (pe_op (addA K) (fldK K (pe_ix (ixS K) (pv 2) (pe_un un_neg pe_int) (fun _ _ => rfl))) (pv 1)) (fldK K (pe_ix (ixS K) (pv 2) (pe_un un_neg pe_int) (fun _ _ => rfl))))))), ?_⟩
    refine ⟨_, rfl, _, rfl, ⟨_, (same_sqT (Same.refl _) hsp)⟩, fun D1 n => ?_⟩
    have ne_bi_D1 := ne_of_none ebi n
    refine lc_keep walk_tup n (wrL st k) (fun j => V.ref (ss.getD j 0)) (by rw [List.length_map, hss.len]; exact small_ok (by omega)) (fun H2 s2 => same_sqT s2 hsp) ?_ ?_
    · rintro j v H2 H3 N N0 hj s2 ⟨rfl, hu⟩ yes no
      rw [List.length_map, hss.len] at hj
      obtain ⟨y, hy⟩ : ∃ y, st[j]? = some y := ⟨st[j], List.getElem?_eq_getElem hj⟩
      obtain ⟨b, db, hb, e5⟩ := hss.at_ j y hy
      rw [List.getElem?_map, hb] at hu
      cases hu
      have hbd : ss.getD j 0 = b := by rw [List.getD_eq_getElem?_getD, hb]; rfl
      rw [hbd] at yes
      have hkf := spF_key y (sz (st.take j)) (nk (st.take j))
      cases y with
      | wr w =>
        have hwj : wrL st k j = decide (nk (st.take j) ≤ k) := by
          unfold wrL
          rw [hy]
        refine ⟨rfl, _, rfl, _, _, _, _, _, rfl, (s2 _ _ e5), T.clS, T.nS3, rfl, _, rfl, ?_⟩
        have ne_b_D1 := ne_of_none e5 n
        refine iT (nT (dF (by intro z; cases z))) ?_
        refine ⟨_, rfl, _, _, _, _, _, rfl, (s2 _ _ e5), T.clS, T.nS3, rfl, _, rfl, _, _, rfl, rfl, _, rfl, ?_⟩
        by_cases hle : nk (st.take j) ≤ k
        · refine iT (decide_eq_true (by omega)) ?_
          exact ⟨_, rfl, yes (by rw [hwj]; exact decide_eq_true hle) _ (Same.refl _)⟩
        · refine iF (decide_eq_false (by omega)) ?_
          exact no (by rw [hwj]; exact decide_eq_false hle) _ (Same.refl _)
      | pa f0 l t0 =>
        have hwj : wrL st k j = false := by
          unfold wrL
          rw [hy]
        refine ⟨rfl, _, rfl, _, _, _, _, _, rfl, (s2 _ _ e5), T.clS, T.nS3, rfl, _, rfl, ?_⟩
        have ne_b_D1 := ne_of_none e5 n
        refine iF (nF (dT rfl)) ?_
        refine iF rfl ?_
        exact no hwj _ (Same.refl _)
    · intro H2 s2 hD2
      rw [List.length_map, hss.len] at hD2
      have hkl := keeps_last (n := st.length) (i := i) (f := wrL st k) (v := fun j => V.ref (ss.getD j 0)) (by unfold wrL; rw [h2]; exact decide_eq_true h3) st.length hi fun j h5 h6 => by
        unfold wrL
        obtain ⟨y, hy⟩ : ∃ y, st[j]? = some y := ⟨st[j], List.getElem?_eq_getElem h6⟩
        rw [hy]
        cases y with
        | wr w =>
          refine decide_eq_false ?_
          have h7 := nk_take_mono st (show i + 1 ≤ j by omega)
          rw [nk_wr h2] at h7
          omega
        | pa f l t => rfl
      rw [hkl] at hD2
      have hbd : ss.getD i 0 = bi := by rw [List.getD_eq_getElem?_getD, hbi]; rfl
      rw [hbd] at hD2
      have hat : atI (keeps i (wrL st k) (fun j => V.ref (ss.getD j 0)) ++ [V.ref bi]) (-1) = some (.ref bi) := atI_last
      refine ⟨_, rfl, _, rfl, (.inl ⟨_, _, _, _, rfl, rfl, (SqL.of hD2), hat, _, _, _, _, _, rfl, (s2 _ _ ebi), T.clS, T.nS1, rfl, _, rfl, (.inl ⟨_, _, rfl, rfl, _, rfl, _, rfl, (.inl ⟨_, _, _, _, rfl, rfl, (SqL.of hD2), hat, _, _, _, _, _, rfl, (s2 _ _ ebi), T.clS, T.nS3, rfl, _, _, rfl, rfl, ?_⟩)⟩)⟩)⟩
      refine qInt (q _ s2) ?_
      exact (by omega)
-- hint: one in self._letters => pc_rin (hu9 hr.units)
-- hint: self._letters[one] => rdict
-- hint: self._letters.get(two) => rget
theorem ok_KeyReader_is_surely_alike (D : Df K "is_surely_alike" "KeyReader.is_surely_alike" s_KeyReader_is_surely_alike (ma K (ga K "KeyReader") "is_surely_alike")) (T : Tc w K mg) (G_KeyReader_group_of : Kp P w K mg base 5 (ma K (ga K "KeyReader") "_group_of") (spGroupOf K)) : Kp P w K mg base 6 (ma K (ga K "KeyReader") "is_surely_alike") (spSurely K) := by
  refine kp_of D sc_KeyReader_is_surely_alike (fun _ _ _ _ _ _ us hl => match us, hl with | [_, _, _], _ => rfl) ?_ (fun cdv A outer s H vs Q E hr h => ?_)
  · rintro vs H Q E ⟨e, x, d, a, p, p2, st, s, os, rfl, _⟩
    rfl
  · obtain ⟨e, x, d, a, p, p2, st, s, os, rfl, rdr, tx, ok, h0, h1, h2, h3, q⟩ := h
    obtain ⟨dx, g, as, he, hg, hd, ha, hos, hga⟩ := rdr.obj
    refine ⟨_, (pss_cons (ps_par (i := 3) (j := 4) rfl sc_KeyReader_is_surely_alike.nd rfl rfl (by decide) rfl rfl (pa_cons (pe_methR (pv 0) T.clKeyReader T.m_KeyReader_group_of G_KeyReader_group_of.fnR (hr.mono (by omega)) pass0 (pa_cons (pv 1) pa_nil)) (pa_cons (pe_methR (pv 0) T.clKeyReader T.m_KeyReader_group_of G_KeyReader_group_of.fnR (hr.mono (by omega)) pass0 (pa_cons (pv 2) pa_nil)) pa_nil)) (by rfl)) (pss_cons (ps_if (pt_cmpR (eqB K hr.units) (pv 3) (pv 4) (nomark _)) (pss_one (ps_ret pe_bl)) pss_nil) (pss_one (ps_ret (pe_and (pe_cmp (pc_rin (hu9 hr.units) (pv 3) (fldK K (pv 0))) rfl) (pe_one (pe_cmpR (eqB K hr.units) (pe_rget (hu9 hr.units) (fldK K (pv 0)) (pv 3) (fun _ _ => rfl)) (pe_rget1 (hu9 hr.units) (fldK K (pv 0)) (pv 4) ⟨rfl, rfl, rfl, rfl⟩) (nomark _)))))))), ?_⟩
    obtain ⟨dx_x, ts_x, sp_x, as_x, ss_x, hx_x, hts_x, hst_x, hsp_x, hss_x⟩ := tx.obj
    have hty_x := typed_small tx
    have hnk_x := text_nk tx
    have hg_x := tx.good
    refine ⟨_, rfl, _, _, _, rfl, he, rfl, _, rfl, _, _, _, _, _, _, _, _, rfl, rdr, tx, ok, (by omega), (by omega), fun k H2 s1 e1 => ?_⟩
    have hlt_k := ex_lt _ _ (List.mem_of_getElem? e1)
    refine ⟨_, rfl, _, _, _, rfl, (s1 _ _ he), rfl, _, rfl, _, _, _, _, _, _, _, _, rfl, (rdr.same s1), (TextAt.same tx s1), ok, (by omega), (by omega), fun k1 H21 s2 e2 => ?_⟩
    have hlt_k1 := ex_lt _ _ (List.mem_of_getElem? e2)
    refine ⟨_, _, rfl, _, rfl, _, rfl, (.inl ⟨rfl, _, rfl, ?_⟩)⟩
    generalize hσ : List.set _ _ _ = σ1
    simp only [L2.start, List.set_cons_zero, List.set_cons_succ, List.map_cons, List.map_nil, List.length_cons, List.length_nil, List.replicate_succ, List.replicate_zero, List.cons_append, List.nil_append, Nat.reduceAdd, Nat.reduceSub] at hσ
    subst hσ
    have q1 := q k k1 H21 (s1.trans s2) e1 e2
    refine iV (fun hv => ?_) fun hv => ?_
    · have hv2 : s.rg k = s.rg k1 := by omega
      have : surely s (s.rg k) (s.rg k1) = true := by unfold surely; rw [decide_eq_true hv2]; rfl
      rw [this] at q1
      exact q1
    · have hv2 : ¬ s.rg k = s.rg k1 := by omega
      have : surely s (s.rg k) (s.rg k1) = ((s.lt.lookup (s.rg k)).isSome && decide (s.lt.lookup (s.rg k) = s.lt.lookup (s.rg k1))) := by unfold surely; rw [decide_eq_false hv2]; rfl
      rw [this] at q1
      refine ⟨_, rfl, _, rfl, _, _, _, _, _, rfl, (s2 _ _ (s1 _ _ he)), T.clKeyReader, T.n_KeyReader_letters, rfl, _, _, _, rfl, rfl, (.inl (s2 _ _ (s1 _ _ hd))), _, rfl, ?_⟩
      cases hc : s.lt.lookup (s.rg k) with
      | none =>
        rw [hc] at q1
        refine iteF ?_
        exact q1
      | some c =>
        rw [hc] at q1
        refine iteT ?_
        refine ⟨_, rfl, _, _, _, _, _, rfl, (s2 _ _ (s1 _ _ he)), T.clKeyReader, T.n_KeyReader_letters, rfl, _, rfl, _, _, _, _, rfl, rfl, (.inl (s2 _ _ (s1 _ _ hd))), hc, _, rfl, _, _, _, _, _, rfl, (s2 _ _ (s1 _ _ he)), T.clKeyReader, T.n_KeyReader_letters, rfl, _, _, rfl, (.inl (s2 _ _ (s1 _ _ hd))), _, rfl, _, _, rfl, (.inl (s2 _ _ (s1 _ _ hd))), ?_⟩
        cases hc1 : s.lt.lookup (s.rg k1) with
        | none =>
          rw [hc1] at q1
          refine .inl ⟨rfl, ?_⟩
          exact q1
        | some c1 =>
          rw [hc1] at q1
          refine .inl ⟨rfl, ?_⟩
          have : decide (V.str (sL [c]) = V.str (sL [c1])) = decide (some c = some c1) := by
            by_cases h9 : c = c1
            · rw [h9, decide_eq_true rfl, decide_eq_true rfl]
            · rw [decide_eq_false (fun z => h9 (by injection z with z; simpa using sL_inj.mp z)), decide_eq_false (fun z => h9 (by injection z))]
          show Q (.bl (decide (V.str (sL [c]) = V.str (sL [c1])))) H21
          rw [this]
          exact q1
theorem ok_KeyReader_fewest_places (D : Df K "fewest_places" "KeyReader.fewest_places" s_KeyReader_fewest_places (ma K (ga K "KeyReader") "fewest_places")) (T : Tc w K mg) (G_KeyReader_open_groups : Kp P w K mg base 1 (ma K (ga K "KeyReader") "_open_groups") (spOpenG K)) (G_written_place : Kp P w K mg base 1 (ga K "written_place") (spWritten K)) : Kp P w K mg base 2 (ma K (ga K "KeyReader") "fewest_places") (spFewestP K) := by
  refine kp_of D sc_KeyReader_fewest_places (fun _ _ _ _ _ _ us hl => match us, hl with | [_], _ => rfl) ?_ (fun cdv A outer s H vs Q E hr h => ?_)
  · rintro vs H Q E ⟨e, x, d, a, st, s, os, rfl, _⟩
    rfl
  · obtain ⟨e, x, d, a, st, s, os, rfl, rdr, tx, ok, q⟩ := h
    obtain ⟨dx, g, as, he, hg, hd, ha, hos, hga⟩ := rdr.obj
    have hlen := ok.len
    have hnk := text_nk tx
    have hgood := tx.good
    have hfew := tx.few
    have hol := opn_le s
    refine ⟨_, (pss_one (ps_ret (pe_lc (own := [("key", 1)]) (g := gName 1) (tt := tYes) rfl sc_KeyReader_fewest_places.nd (pi_list (pe_methR0 (pv 0) T.clKeyReader T.m_KeyReader_open_groups G_KeyReader_open_groups.fnR (hr.mono (by omega)) pass0)) (blkOk_by (N := ["self", "key"]) (sc := defScope s_KeyReader_fewest_places) (by decide +kernel)) (fun _ _ _ _ _ => (pg_name (i := 1) sc_KeyReader_fewest_places.nd rfl (Or.inl rfl))) (fun _ _ _ _ _ => pts_nil) (fun _ _ _ _ _ => (pk_call G_written_place (hr.mono (by omega)) T.g_written_place (pa_cons (fldK K (fldK K (pv 0))) (pa_cons (pv 1) pa_nil))))))), ?_⟩
    obtain ⟨dx_x, ts_x, sp_x, as_x, ss_x, hx_x, hts_x, hst_x, hsp_x, hss_x⟩ := tx.obj
    have hty_x := typed_small tx
    have hnk_x := text_nk tx
    have hg_x := tx.good
    refine ⟨_, rfl, _, _, _, rfl, he, rfl, _, _, _, _, _, _, rfl, rdr, (by omega), fun l H2 n s1 e1 => ?_⟩
    have ne_e_l := ne_of_none he n
    have ne_g_l := ne_of_none hg n
    have ne_d_l := ne_of_none hd n
    have ne_a_l := ne_of_none ha n
    have ne_x_l := ne_of_none hx_x n
    refine ⟨_, rfl, ⟨_, (SqL.of e1)⟩, fun D1 n1 => ?_⟩
    have ne_e_D1 := ne_of_none (s1 _ _ he) n1
    have ne_g_D1 := ne_of_none (s1 _ _ hg) n1
    have ne_d_D1 := ne_of_none (s1 _ _ hd) n1
    have ne_a_D1 := ne_of_none (s1 _ _ ha) n1
    have ne_x_D1 := ne_of_none (s1 _ _ hx_x) n1
    have ne_l_D1 := ne_of_none e1 n1
    refine lc_map (walk_list (xs := nV (opn s))) n1 (fun i => V.int (wpl st ((opn s).getD i 0) : Nat)) (by rw [nV_len]; exact small_ok (by omega)) (fun H3 s3 => SqL.of (s3 _ _ e1)) ?_ ?_
    · rintro i v H3 H4 N hi s3 ⟨rfl, hu⟩ hN
      rw [nV_len] at hi
      cases (nV_get hi).symm.trans hu
      have hm : (opn s).getD i 0 ∈ opn s := by
        rw [List.getD_eq_getElem?_getD, List.getElem?_eq_getElem hi]
        exact List.getElem_mem hi
      have hm2 := (opn_mem.mp hm).1
      refine ⟨rfl, _, rfl, _, _, _, _, _, rfl, (s3 _ _ (s1 _ _ he)), T.clKeyReader, T.n_KeyReader_text, rfl, _, _, _, _, _, rfl, (s3 _ _ (s1 _ _ hx_x)), T.clT, T.nT2, rfl, _, rfl, _, _, _, _, rfl, (same_sqT (s1.trans s3) hsp_x), (SpansAt.same hss_x (s1.trans s3)), hg_x, (by omega), (by omega), fun H21 s2 => ?_⟩
      exact hN _ s2
    · intro H3 s3 hD3
      rw [nV_len, nV_maps] at hD3
      exact q _ _ (s1.free n1) (s1.trans s3) hD3
-- hint: self._letters.get(group, letter) => rget
theorem ok_KeyReader_text_with (D : Df K "text_with" "KeyReader.text_with" s_KeyReader_text_with (ma K (ga K "KeyReader") "text_with")) (T : Tc w K mg) (G_is_letter : Kp P w K mg base 1 (ga K "is_letter") spIsLetter) (G_Text_with_letters : Kp P w K mg base 7 (ma K (CT K) "with_letters") (spWith K)) : Kp P w K mg base 8 (ma K (ga K "KeyReader") "text_with") (spTextWith K) := by
  refine kp_of D sc_KeyReader_text_with (fun _ _ _ _ _ _ us hl => match us, hl with | [_, _], _ => rfl) ?_ (fun cdv A outer s H vs Q E hr h => ?_)
  · rintro vs H Q E ⟨e, x, d, a, c, st, s, os, rfl, _⟩
    rfl
  · obtain ⟨e, x, d, a, c, st, s, os, rfl, rdr, tx, ok, hc, q⟩ := h
    obtain ⟨dx, g, as, he, hg, hd, ha, hos, hga⟩ := rdr.obj
    have hlen := ok.len
    have hnk := text_nk tx
    have hfc : fitV (V.str (sL [c])) := by
      show (sL [c]).length ≤ _
      rw [sL_len]
      exact (by decide : 1 ≤ sizeLine)
    have hlv : isLetV (.str (sL [c])) = true := hc
    refine ⟨_, (pss_cons (ps_if (pt_not (pt_val (pk_call G_is_letter (hr.mono (by omega)) T.gIsLetter (pa_cons (pv 1) pa_nil)))) pss_never pss_nil) (pss_cons (ps_setLc (i := 2) (own := [("group", 3)]) (g := gName 3) (tt := tYes) rfl sc_KeyReader_text_with.nd rfl rfl (sw_true rfl rfl rfl (by decide +kernel)) (pi_list (fldK K (pv 0))) (blkOk_by (N := ["self", "letter", "letters", "group"]) (sc := defScope s_KeyReader_text_with) (by decide +kernel)) (fun _ _ _ _ _ => (pg_name (i := 3) sc_KeyReader_text_with.nd rfl (Or.inl rfl))) (fun _ _ _ _ _ => pts_nil) (fun _ _ _ _ _ => (pe_rget2 (hu9 hr.units) (fldK K (pv 0)) (pv 3) (pv 1) ⟨rfl, rfl, rfl, rfl⟩))) (pss_one (ps_ret (pe_methR (fldK K (pv 0)) T.clT T.mWith G_Text_with_letters.fnR (hr.mono (by omega)) pass0 (pa_cons (pe_joinK K pe_str (pv 2)) pa_nil)))))), ?_⟩
    obtain ⟨dx_x, ts_x, sp_x, as_x, ss_x, hx_x, hts_x, hst_x, hsp_x, hss_x⟩ := tx.obj
    have hty_x := typed_small tx
    have hnk_x := text_nk tx
    have hg_x := tx.good
    refine ⟨_, rfl, _, rfl, rfl, hfc, _, rfl, ?_⟩
    refine iF (nF hlv) ?_
    refine ⟨_, rfl, _, _, _, _, _, rfl, he, T.clKeyReader, T.n_KeyReader_groups, rfl, _, rfl, ⟨_, (SqL.of hg)⟩, fun D1 n => ?_⟩
    have ne_e_D1 := ne_of_none he n
    have ne_g_D1 := ne_of_none hg n
    have ne_d_D1 := ne_of_none hd n
    have ne_a_D1 := ne_of_none ha n
    have ne_x_D1 := ne_of_none hx_x n
    refine lc_map (walk_list (xs := nV s.gs)) (by assumption) (fun i => V.str (sL [(s.le i).getD c])) (by rw [nV_len]; exact small_ok (by omega)) (fun H3 s3 => SqL.of (s3 _ _ hg)) ?_ ?_
    · rintro i v H3 H4 N hi s3 ⟨rfl, hu⟩ hN
      rw [nV_len] at hi
      cases (nV_get hi).symm.trans hu
      have e9 : s.gs.getD i 0 = s.rg i := rfl
      rw [e9]
      refine ⟨rfl, _, rfl, _, _, _, _, _, rfl, (s3 _ _ he), T.clKeyReader, T.n_KeyReader_letters, rfl, _, _, rfl, (.inl (s3 _ _ hd)), _, rfl, _, rfl, _, _, rfl, (.inl (s3 _ _ hd)), ?_⟩
      have hN2 := hN H4 (Same.refl _)
      have e8 : s.le i = s.lt.lookup (s.rg i) := rfl
      rw [e8] at hN2
      cases hc1 : s.lt.lookup (s.rg i) with
      | none =>
        rw [hc1] at hN2
        exact hN2
      | some c1 =>
        rw [hc1] at hN2
        exact hN2
    · intro H3 s3 hD3
      rw [nV_len] at hD3
      refine ⟨_, rfl, _, _, _, _, _, rfl, (s3 _ _ he), T.clKeyReader, T.n_KeyReader_text, rfl, _, _, _, rfl, (s3 _ _ hx_x), rfl, ⟨_, rfl⟩, _, rfl, ?_⟩
      have hD4 : H3 D1 = some (.lst (((lettersOf s c).map fun c => sL [c]).map V.str)) := by
        rw [hD3]
        unfold lettersOf
        rw [List.map_map, List.map_map]
        rfl
      have hll : (lettersOf s c).length = nk st := by
        unfold lettersOf
        rw [List.length_map, List.length_range, hlen]
      refine ⟨"", D1, (lettersOf s c).map fun c => sL [c], rfl, rfl, .inl (SqL.of hD4), ?_, ?_⟩
      · rw [sum_one, List.length_map]
        have : (Str.length "" : Nat) = 0 := by decide +kernel
        rw [this]
        omega
      · rw [join_one]
        refine ⟨x, lettersOf s c, st, rfl, tx.same s3, hll, ?_, fun z H4 hz s4 tz => q z H4 (s3.free hz) (s3.trans s4) tz⟩
        refine List.all_eq_true.mpr fun c2 hc2 => ?_
        unfold lettersOf at hc2
        obtain ⟨k9, _, rfl⟩ := List.mem_map.mp hc2
        cases e7 : s.le k9 with
        | none => exact hc
        | some c3 => exact ok.let_ e7
end
end KL
namespace KL
open PySem PySem.Spec PyProof.Rows L2 Pk He
theorem put_r1 (a : V) : putF "_text" a ([] : List (Str × V)) = ([("_text", a)] : List (Str × V)) := rfl
theorem put_r2 (a b : V) : putF "_groups" b ([("_text", a)] : List (Str × V)) = ([("_text", a), ("_groups", b)] : List (Str × V)) := (putF_new (f := "_groups") (ns := ["_text"]) rfl (by decide +kernel)).trans rfl
theorem put_r3 (a b c : V) : putF "_letters" c ([("_text", a), ("_groups", b)] : List (Str × V)) = ([("_text", a), ("_groups", b), ("_letters", c)] : List (Str × V)) := (putF_new (f := "_letters") (ns := ["_text", "_groups"]) rfl (by decide +kernel)).trans rfl
theorem put_r4 (a b c d : V) : putF "_accepted" d ([("_text", a), ("_groups", b), ("_letters", c)] : List (Str × V)) = ([("_text", a), ("_groups", b), ("_letters", c), ("_accepted", d)] : List (Str × V)) := (putF_new (f := "_accepted") (ns := ["_text", "_groups", "_letters"]) rfl (by decide +kernel)).trans rfl
theorem put_r5 (x g d a : Addr) (c : V) : putF "_letters" c (rdF x g d a) = ([("_text", .ref x), ("_groups", .ref g), ("_letters", c), ("_accepted", .ref a)] : List (Str × V)) := rfl
theorem put_r6 (x g d a : Addr) (c : V) : putF "_groups" c (rdF x g d a) = ([("_text", .ref x), ("_groups", c), ("_letters", .ref d), ("_accepted", .ref a)] : List (Str × V)) := rfl
def spRdInit (K : Fr) : Sp := fun vs H Q _ => ∃ (e dx x : Addr) (st : List Stp), vs = [.ref e, .ref x] ∧ H e = some (.ins (CRd K) dx []) ∧ TA_ K H x st ∧
  ∀ d a H2, H d = none → H a = none → But e H H2 → RdrAt K H2 e x d a (rs0 (nk st)) [] → Q .non H2
def spLearn (K : Fr) : Sp := fun vs H Q _ => ∃ (e x d a gl : Addr) (n : Nat) (s : RS) (os : List Ob) (gsl wd : List Nat), vs = [.ref e, .ref gl, .str (sL wd)] ∧ RdrAt K H e x d a s os ∧ H gl = some (.lst (nV gsl)) ∧ gsl.length = wd.length ∧ wd.length ≤ 20 ∧ n ≤ 600 ∧ LtOk n s.lt ∧
  (∀ p ∈ gsl.zip wd, p.1 < n ∧ isLet p.2 = true) ∧ LearnOk s.lt (gsl.zip wd) ∧
  ∀ d2 H2, H d2 = none → But e H H2 → RdrAt K H2 e x d2 a ⟨s.gs, learnS s.lt (gsl.zip wd)⟩ os → Q .non H2
theorem RdrAt.app {K : Fr} {H H2 : Hp} {e x d a t : Addr} {s : RS} {os : List Ob} {o : Ob} (h : RdrAt K H e x d a s os) (b : But a H H2) (ha : ∀ as : List Addr, H a = some (.lst (as.map V.ref)) → H2 a = some (.lst (as.map V.ref ++ [.ref t]))) (ht : SqT K H t (obV o)) : RdrAt K H2 e x d a s (os ++ [o]) := by
  obtain ⟨dx, g, as, h1, h2, h3, h4, h5, h6⟩ := h.obj
  refine ⟨⟨dx, g, as ++ [t], b _ _ (ne_of h1 h4 (by intro z; cases z)) h1, b _ _ h6 h2, b _ _ (ne_of h3 h4 (by intro z; cases z)) h3, by rw [ha as h4, List.map_append]; rfl, ?_, h6⟩⟩
  exact (h5.but h4 (by intro xs z; cases z) (by intro o xs z; cases z) b).snoc (sqT_butL h4 b ht)
theorem RdrAt.app2 {K : Fr} {H H2 : Hp} {e x d a t : Addr} {s : RS} {os : List Ob} {o : Ob} {l : List V} (h : RdrAt K H e x d a s os) (b : But a H H2) (ha : H a = some (.lst l)) (ha2 : H2 a = some (.lst (l ++ [.ref t]))) (ht : SqT K H t (obV o)) : RdrAt K H2 e x d a s (os ++ [o]) :=
  h.app b (fun as9 h9 => by
    have e9 := ha.symm.trans h9
    injection e9 with e9
    injection e9 with e9
    rw [← e9]
    exact ha2) ht
theorem but_none {H H2 : Hp} {e p : Addr} (b : But e H H2) (n : e ≠ p) (h : H2 p = none) : H p = none := by
  cases z : H p with
  | none => rfl
  | some o => rw [b _ _ n.symm z] at h; cases h
section
variable {P : Program} {w : World} {K : Fr} {mg : Str → Option Value} {base : Heap} {f : Addr}
theorem ok_KeyReader_init (D : Df K "__init__" "KeyReader.__init__" s_KeyReader_init (ma K (ga K "KeyReader") "__init__")) (T : Tc w K mg) (G_Text_typed_keys : Kp P w K mg base 1 (pgA K (CT K) "typed_keys") (spTyped K)) : Kp P w K mg base 3 (ma K (ga K "KeyReader") "__init__") (spRdInit K) := by
  refine kp_of D sc_KeyReader_init (fun _ _ _ _ _ _ us hl => match us, hl with | [_, _], _ => rfl) ?_ (fun cdv A outer s H vs Q E hr h => ?_)
  · rintro vs H Q E ⟨e, dx, x, st, rfl, _⟩
    rfl
  · obtain ⟨e, dx, x, st, rfl, he, tx, q⟩ := h
    have hne : ga K "Text" ≠ ga K "KeyReader" := by first | exact T.ne_Text_KeyReader | exact T.ne_KeyReader_Text.symm
    have hne2 : ga K "Span" ≠ ga K "KeyReader" := by first | exact T.ne_Span_KeyReader | exact T.ne_KeyReader_Span.symm
    refine ⟨_, (pss_cons (ps_fld (pv 0) (pv 1) rfl) (pss_cons (ps_fld (pv 0) (pe_listRg rfl (by rfl) T.lst (prg_1 (by rfl) T.rng (pk_b1 (lenA K) T.len b_len (pk_prop (pv 1) T.clT T.pTyped G_Text_typed_keys (hr.mono (by omega)))))) rfl) (pss_cons (ps_fld (pv 0) pe_dnewK rfl) (pss_one (ps_fld (pv 0) (pe_lst pa_nil) rfl))))), ?_⟩
    obtain ⟨dx_x, ts_x, sp_x, as_x, ss_x, hx_x, hts_x, hst_x, hsp_x, hss_x⟩ := tx.obj
    have hty_x := typed_small tx
    have hnk_x := text_nk tx
    have hg_x := tx.good
    refine ⟨_, rfl, _, rfl, _, _, _, _, rfl, he, T.clKeyReader, T.n_KeyReader_text, (by (show 0 < _; decide)), ?_⟩
    rw [put_r1]
    generalize hE : upd H e _ = H1
    have b : But e H H1 := hE ▸ but_upd
    have e_e := (congrFun hE e).symm.trans upd_same
    clear hE
    refine ⟨_, rfl, _, _, _, rfl, (b _ _ (ne_of hx_x he (by intro z; injection z with z; exact hne z)) hx_x), ?_⟩
    have tx1 := text_butR he hne hne2 b tx
    refine ⟨_, _, rfl, tx1, (.inl ⟨_, rfl, (by exact small_ok (by omega)), _, rfl, ⟨(by omega), ⟨(by omega), ⟨(by omega), ⟨(by omega), (by omega)⟩⟩⟩⟩, fun q1 n => ?_⟩)⟩
    have ne_x_q1 := ne_of_none (b _ _ (ne_of hx_x he (by intro z; injection z with z; exact hne z)) hx_x) n
    have ne_e_q1 := ne_of_none e_e n
    generalize hE : upd H1 q1 _ = H11
    have s1 : Same H1 H11 := hE ▸ same_upd n
    have e_q1 := (congrFun hE q1).symm.trans upd_same
    clear hE
    refine ⟨_, rfl, _, _, _, _, rfl, (s1 _ _ e_e), T.clKeyReader, T.n_KeyReader_groups, (by (show 1 < _; decide)), ?_⟩
    rw [put_r2]
    generalize hE : upd H11 e _ = H12
    have b1 : But e H11 H12 := hE ▸ but_upd
    have e_e1 := (congrFun hE e).symm.trans upd_same
    clear hE
    refine fun p n1 => ?_
    have ne_x_p := ne_of_none (b1 _ _ (ne_of (s1 _ _ (b _ _ (ne_of hx_x he (by intro z; injection z with z; exact hne z)) hx_x)) (s1 _ _ e_e) (by intro z; injection z with z; exact hne z)) (s1 _ _ (b _ _ (ne_of hx_x he (by intro z; injection z with z; exact hne z)) hx_x))) n1
    have ne_q1_p := ne_of_none (b1 _ _ ne_e_q1.symm e_q1) n1
    have ne_e_p := ne_of_none e_e1 n1
    generalize hE : upd H12 p _ = H13
    have s2 : Same H12 H13 := hE ▸ same_upd n1
    have e_p := (congrFun hE p).symm.trans upd_same
    clear hE
    refine ⟨_, rfl, _, _, _, _, rfl, (s2 _ _ e_e1), T.clKeyReader, T.n_KeyReader_letters, (by (show 2 < _; decide)), ?_⟩
    rw [put_r3]
    generalize hE : upd H13 e _ = H14
    have b2 : But e H13 H14 := hE ▸ but_upd
    have e_e2 := (congrFun hE e).symm.trans upd_same
    clear hE
    refine ⟨(by (show 0 ≤ _; decide)), fun p1 n2 => ?_⟩
    have ne_x_p1 := ne_of_none (b2 _ _ (ne_of (s2 _ _ (b1 _ _ (ne_of (s1 _ _ (b _ _ (ne_of hx_x he (by intro z; injection z with z; exact hne z)) hx_x)) (s1 _ _ e_e) (by intro z; injection z with z; exact hne z)) (s1 _ _ (b _ _ (ne_of hx_x he (by intro z; injection z with z; exact hne z)) hx_x)))) (s2 _ _ e_e1) (by intro z; injection z with z; exact hne z)) (s2 _ _ (b1 _ _ (ne_of (s1 _ _ (b _ _ (ne_of hx_x he (by intro z; injection z with z; exact hne z)) hx_x)) (s1 _ _ e_e) (by intro z; injection z with z; exact hne z)) (s1 _ _ (b _ _ (ne_of hx_x he (by intro z; injection z with z; exact hne z)) hx_x))))) n2
    have ne_q1_p1 := ne_of_none (b2 _ _ ne_e_q1.symm (s2 _ _ (b1 _ _ ne_e_q1.symm e_q1))) n2
    have ne_p_p1 := ne_of_none (b2 _ _ ne_e_p.symm e_p) n2
    have ne_e_p1 := ne_of_none e_e2 n2
    refine ⟨_, rfl, ?_⟩
    refine ⟨_, _, _, _, rfl, (same_upd n2 _ _ e_e2), T.clKeyReader, T.n_KeyReader_accepted, (by (show 3 < _; decide)), ?_⟩
    rw [put_r4]
    generalize hE : upd H14 p1 _ = H15
    have s3 : Same H14 H15 := hE ▸ same_upd n2
    have e_p1 := (congrFun hE p1).symm.trans upd_same
    clear hE
    generalize hE : upd H15 e _ = H16
    have b3 : But e H15 H16 := hE ▸ but_upd
    have e_e3 := (congrFun hE e).symm.trans upd_same
    clear hE
    have bA : But e H H12 := b.trans ((Same.but s1).trans b1)
    have bB : But e H H14 := bA.trans ((Same.but s2).trans b2)
    refine q p p1 H16 (but_none bA ne_e_p n1) (but_none bB ne_e_p1 n2) (bB.trans ((Same.but s3).trans b3)) ⟨⟨dx, q1, [], e_e3, ?_, b3 _ _ ne_e_p.symm (s3 _ _ (b2 _ _ ne_e_p.symm e_p)), b3 _ _ ne_e_p1.symm e_p1, ObsAt.nil, ne_q1_p1⟩⟩
    have hq := b3 _ _ ne_e_q1.symm (s3 _ _ (b2 _ _ ne_e_q1.symm (s2 _ _ (b1 _ _ ne_e_q1.symm e_q1))))
    rw [hq, sL_len, typed_len]
    unfold rgV nV rs0
    simp
-- hint: dict(self._letters) => (pk_t1 (dictB K) T.dict_ b_dict $0)
-- hint: letters.setdefault(group, letter) => rsetd
theorem ok_KeyReader_learn (D : Df K "_learn" "KeyReader._learn" s_KeyReader_learn (ma K (ga K "KeyReader") "_learn")) (T : Tc w K mg) : Kp P w K mg base 1 (ma K (ga K "KeyReader") "_learn") (spLearn K) := by
  refine kp_of D sc_KeyReader_learn (fun _ _ _ _ _ _ us hl => match us, hl with | [_, _, _], _ => rfl) ?_ (fun cdv A outer s H vs Q E hr h => ?_)
  · rintro vs H Q E ⟨e, x, d, a, gl, n, s, os, gsl, wd, rfl, _⟩
    rfl
  · obtain ⟨e, x, d, a, gl, n, s, os, gsl, wd, rfl, rdr, hgl, hlen, hw, hn, hlt, hps, hok, q⟩ := h
    obtain ⟨dx, g, as, he, hg, hd, ha, hos, hga⟩ := rdr.obj
    have hzl : (gsl.zip wd).length = wd.length := by rw [List.length_zip, hlen, Nat.min_self]
    refine ⟨_, (pss_cons (ps_set (i := 3) sc_KeyReader_learn.nd rfl (Or.inl rfl) (pk_t1 (dictB K) T.dict_ b_dict (fldK K (pv 0)))) (pss_cons (ps_for PassesOwn.never rfl (pi_zipX (by rfl) T.zip (pa_cons (pv 1) (pa_cons (pv 2) pa_nil))) (pg_tup rfl (pgs_cons (pg_name (i := 4) sc_KeyReader_learn.nd rfl (Or.inl rfl)) (pgs_cons (pg_name (i := 5) sc_KeyReader_learn.nd rfl (Or.inl rfl)) pgs_nil))) (pss_one (ps_if (pt_cmpR (neB K hr.units) (pe_rsetd (pv 3) (pv 4) (pv 5) ⟨rfl, rfl, rfl, rfl⟩) (pv 5) (nomark _)) pss_never pss_nil))) (pss_one (ps_fld (pv 0) (pv 3) rfl)))), ?_⟩
    refine ⟨_, rfl, _, _, _, _, _, rfl, he, T.clKeyReader, T.n_KeyReader_letters, rfl, (.inr ⟨_, _, rfl, (.inl hd), fun p n1 => ?_⟩)⟩
    have ne_gl_p := ne_of_none hgl n1
    have ne_e_p := ne_of_none he n1
    have ne_g_p := ne_of_none hg n1
    have ne_d_p := ne_of_none hd n1
    have ne_a_p := ne_of_none ha n1
    generalize hE : upd H p _ = H1
    have s1 : Same H H1 := hE ▸ same_upd n1
    have e_p := (congrFun hE p).symm.trans upd_same
    clear hE
    refine ⟨_, rfl, _, rfl, ?_⟩
    refine ⟨.lst gl, .txt (sL wd), nV gsl, sgn (sL wd), rfl, SqL.of (s1 _ _ hgl), rfl, ?_⟩
    refine for_it (walk_zipX (K := K) (S := .lst gl) (S' := .txt (sL wd)) (xs := nV gsl) (ys := sgn (sL wd)) (n := wd.length) (by rw [nV_len, sgn_len]; omega))
      (fun i σ HB => ∃ v4 v5 : Option V, σ = [some (.ref e), some (.ref gl), some (.str (sL wd)), some (.ref p), v4, v5] ∧ But p H1 HB ∧ HB p = some (.dK (kvR (learnS s.lt ((gsl.zip wd).take i))))) ⟨none, none, rfl, But.refl _ _, e_p⟩ ?_ ?_ ?_
    · rintro i σ HB hi ⟨v4, v5, rfl, bB, eB⟩
      exact ⟨SqL.of (bB _ _ ne_gl_p (s1 _ _ hgl)), rfl⟩
    · rintro i v σ HB HC hi ⟨v4, v5, rfl, bB, eB⟩ ⟨T0, v1, v2, rfl, hT0, rfl, ev1, ev2⟩
      obtain ⟨c, hc, rfl⟩ := sgn_at ev2
      cases (nV_get (show i < gsl.length by omega)).symm.trans ev1
      have hgi : gsl[i]? = some (gsl.getD i 0) := by
        rw [List.getD_eq_getElem?_getD, List.getElem?_eq_getElem (by omega)]
        rfl
      generalize gsl.getD i 0 = gi at hgi ev1 ⊢
      have hpi : (gsl.zip wd)[i]? = some (gi, c) := by
        rw [List.getElem?_zip_eq_some]
        exact ⟨hgi, hc⟩
      have hsn := learnS_snoc (lt := s.lt) hpi
      have hoki := hok i gi c
      have hlt2 : LtOk n (learnS s.lt ((gsl.zip wd).take i)) := hlt.learn fun q hq => hps q (List.mem_of_mem_take hq)
      have hkn := hlt2.keys
      have hfw := hlt2.few
      generalize learnS s.lt ((gsl.zip wd).take i) = lt at eB hsn hoki hkn hfw ⊢
      generalize hE : upd HB T0 _ = H11
      have s2 : Same HB H11 := hE ▸ same_upd hT0
      have e_T0 := (congrFun hE T0).symm.trans upd_same
      clear hE
      refine ⟨_, _, rfl, (SqT.of e_T0), rfl, _, _, rfl, _, _, rfl, rfl, _, rfl, _, _, rfl, (.inl (s2 _ _ eB)), _, rfl, _, rfl, ?_⟩
      have ne_gl_T0 := ne_of_none ((but_new s1 bB n1) _ _ hgl) hT0
      have ne_e_T0 := ne_of_none ((but_new s1 bB n1) _ _ he) hT0
      have ne_g_T0 := ne_of_none ((but_new s1 bB n1) _ _ hg) hT0
      have ne_d_T0 := ne_of_none ((but_new s1 bB n1) _ _ hd) hT0
      have ne_a_T0 := ne_of_none ((but_new s1 bB n1) _ _ ha) hT0
      have ne_p_T0 := ne_of_none eB hT0
      generalize hσ : List.set _ _ _ = σ1
      simp only [L2.start, List.set_cons_zero, List.set_cons_succ, List.map_cons, List.map_nil, List.length_cons, List.length_nil, List.replicate_succ, List.replicate_zero, List.cons_append, List.nil_append, Nat.reduceAdd, Nat.reduceSub] at hσ
      subst hσ
      refine ⟨_, _, _, rfl, rfl, (s2 _ _ eB), hkn, (by omega), ?_, fun e1 => ?_⟩
      rotate_left 1
      generalize hE : upd H11 p _ = H12
      have b : But p H11 H12 := hE ▸ but_upd
      have s3 : Same H H12 := hE ▸ same_own ((but_new s1 bB n1).trans s2) n1
      have e_p1 := (congrFun hE p).symm.trans upd_same
      clear hE
      refine ⟨_, rfl, (.inl ⟨rfl, _, rfl, ?_⟩)⟩
      refine iF (nF (sT rfl)) ?_
      refine ⟨_, _, rfl, ((bB.trans (Same.but s2)).trans b), ?_⟩
      · rw [e_p1, hsn]
        unfold lrn1
        rw [e1]
        rfl
      · intro d9 hd9
        have hdc := hoki d9 hpi hd9
        subst hdc
        refine ⟨_, rfl, (.inl ⟨rfl, _, rfl, ?_⟩)⟩
        refine iF (nF (sT rfl)) ?_
        refine ⟨_, _, rfl, (bB.trans (Same.but s2)), ?_⟩
        rw [hsn]
        unfold lrn1
        rw [hd9]
        exact s2 _ _ eB
    · rintro σ HB ⟨v4, v5, rfl, bB, eB⟩
      rw [List.take_of_length_le (by omega)] at eB
      refine ⟨_, rfl, _, rfl, _, _, _, _, rfl, (bB _ _ ne_e_p (s1 _ _ he)), T.clKeyReader, T.n_KeyReader_letters, (by (show 4 < _; decide)), ?_⟩
      rw [put_r5]
      generalize hE : upd HB e _ = H11
      have b : But e HB H11 := hE ▸ but_upd
      have e_e := (congrFun hE e).symm.trans upd_same
      clear hE
      have sp1 : Same H HB := but_new s1 bB n1
      refine q p H11 n1 (fun b9 o9 h8 h9 => b _ _ h8 (sp1 _ _ h9)) ⟨⟨dx, g, as, e_e, ?_, ?_, ?_, ?_, hga⟩⟩
      · exact b _ _ (ne_of (sp1 _ _ hg) (sp1 _ _ he) (by intro z; cases z)) (sp1 _ _ hg)
      · exact b _ _ ne_e_p.symm eB
      · exact b _ _ (ne_of (sp1 _ _ ha) (sp1 _ _ he) (by intro z; cases z)) (sp1 _ _ ha)
      · exact (hos.same sp1).but (sp1 _ _ he) (by intro xs z; cases z) (by intro o xs z; cases z) b
end
end KL
namespace KL
open PySem PySem.Spec PyProof.Rows L2 Pk He
def spSee (K : Fr) : Sp := fun vs H Q _ => ∃ (e x d a : Addr) (p : Int) (c : Nat) (st : List Stp) (s : RS) (os : List Ob), vs = [.ref e, .int p, .str (sL [c])] ∧ RdrAt K H e x d a s os ∧ TA_ K H x st ∧ RsOk (nk st) s ∧ 0 ≤ p ∧ p < (sz st : Nat) ∧ isLet c = true ∧ os.length < 1000 ∧
  (∀ k dd, (ex st)[p.toNat]? = some k → s.le k = some dd → dd = c) ∧
  ∀ k d2 H2, (ex st)[p.toNat]? = some k → H d2 = none → But3 e d a H H2 → RdrAt K H2 e x d2 a ⟨s.gs, lrn1 s.lt (s.rg k, c)⟩ (os ++ [.see p.toNat c]) → RsOk (nk st) ⟨s.gs, lrn1 s.lt (s.rg k, c)⟩ → Q (.int ((kns ⟨s.gs, lrn1 s.lt (s.rg k, c)⟩).length : Nat)) H2
section
variable {P : Program} {w : World} {K : Fr} {mg : Str → Option Value} {base : Heap} {f : Addr}
theorem ok_KeyReader_see (D : Df K "see" "KeyReader.see" s_KeyReader_see (ma K (ga K "KeyReader") "see")) (T : Tc w K mg) (G_KeyReader_group_of : Kp P w K mg base 5 (ma K (ga K "KeyReader") "_group_of") (spGroupOf K)) (G_KeyReader_learn : Kp P w K mg base 1 (ma K (ga K "KeyReader") "_learn") (spLearn K)) (G_KeyReader_known_letters : Kp P w K mg base 1 (pgA K (ga K "KeyReader") "known_letters") (spKnown K)) (G_is_letter : Kp P w K mg base 1 (ga K "is_letter") spIsLetter) : Kp P w K mg base 8 (ma K (ga K "KeyReader") "see") (spSee K) := by
  refine kp_of D sc_KeyReader_see (fun _ _ _ _ _ _ us hl => match us, hl with | [_, _, _], _ => rfl) ?_ (fun cdv A outer s H vs Q E hr h => ?_)
  · rintro vs H Q E ⟨e, x, d, a, p, c, st, s, os, rfl, _⟩
    rfl
  · obtain ⟨e, x, d, a, p, c, st, s, os, rfl, rdr, tx, ok, h0, h1, hc, hos9, hok, q⟩ := h
    obtain ⟨dx, g, as, he, hg, hd, ha, hos, hga⟩ := rdr.obj
    have hlen := ok.len
    have hnk := text_nk tx
    have hal := hos.len
    have hasl : (as.map V.ref).length < sizeLine := by
      rw [List.length_map, hal]
      exact small_lt (by omega)
    have hne : ga K "Text" ≠ ga K "KeyReader" := by first | exact T.ne_Text_KeyReader | exact T.ne_KeyReader_Text.symm
    have hne2 : ga K "Span" ≠ ga K "KeyReader" := by first | exact T.ne_Span_KeyReader | exact T.ne_KeyReader_Span.symm
    have hfc : fitV (V.str (sL [c])) := by
      show (sL [c]).length ≤ _
      rw [sL_len]
      exact (by decide : 1 ≤ sizeLine)
    have hlv : isLetV (.str (sL [c])) = true := hc
    refine ⟨_, (pss_cons (ps_set (i := 3) sc_KeyReader_see.nd rfl (Or.inl rfl) (pe_methR (pv 0) T.clKeyReader T.m_KeyReader_group_of G_KeyReader_group_of.fnR (hr.mono (by omega)) pass0 (pa_cons (pv 1) pa_nil))) (pss_cons (ps_if (pt_not (pt_val (pk_call G_is_letter (hr.mono (by omega)) T.gIsLetter (pa_cons (pv 2) pa_nil)))) pss_never pss_nil) (pss_cons (ps_expr (pe_methR (pv 0) T.clKeyReader T.m_KeyReader_learn G_KeyReader_learn.fnR (hr.mono (by omega)) pass0 (pa_cons (pe_lst (pa_cons (pv 3) pa_nil)) (pa_cons (pv 2) pa_nil)))) (pss_cons (ps_expr (pe_bm PySem.F.plainAttrs_list PySem.F.slot_list_append PySem.F.type_list_append mt_append (fldK K (pv 0)) (pa_cons (pe_tup (pa_cons pe_str (pa_cons (pv 1) (pa_cons (pv 2) pa_nil)))) pa_nil))) (pss_one (ps_ret (pk_b1 (lenA K) T.len b_len (pk_prop (pv 0) T.clKeyReader T.p_KeyReader_known_letters G_KeyReader_known_letters (hr.mono (by omega)))))))))), ?_⟩
    obtain ⟨dx_x, ts_x, sp_x, as_x, ss_x, hx_x, hts_x, hst_x, hsp_x, hss_x⟩ := tx.obj
    have hty_x := typed_small tx
    have hnk_x := text_nk tx
    have hg_x := tx.good
    refine ⟨_, rfl, _, _, _, rfl, he, rfl, _, rfl, _, _, _, _, _, _, _, _, rfl, rdr, tx, ok, (by omega), (by omega), fun k H2 s1 e1 => ?_⟩
    have hlt_k := ex_lt _ _ (List.mem_of_getElem? e1)
    refine ⟨_, rfl, _, rfl, rfl, hfc, _, rfl, ?_⟩
    refine iF (nF hlv) ?_
    refine ⟨_, rfl, _, _, _, rfl, (s1 _ _ he), rfl, _, rfl, (by (show 1 ≤ _; decide)), fun p1 n => ?_⟩
    have ne_e_p1 := ne_of_none (s1 _ _ he) n
    have ne_g_p1 := ne_of_none (s1 _ _ hg) n
    have ne_d_p1 := ne_of_none (s1 _ _ hd) n
    have ne_a_p1 := ne_of_none (s1 _ _ ha) n
    have ne_x_p1 := ne_of_none (s1 _ _ hx_x) n
    generalize hE : upd H2 p1 _ = H1
    have s2 : Same H2 H1 := hE ▸ same_upd n
    have e_p1 := (congrFun hE p1).symm.trans upd_same
    clear hE
    have hg9 : s.rg k < nk st := ok.lt hlt_k
    refine ⟨_, rfl, e, x, d, a, p1, nk st, s, os, [s.rg k], [c], rfl, rdr.same (s1.trans s2), e_p1, rfl, by show 1 ≤ 20; decide, hnk, ok.ltOk, ?_, ?_, fun d2 H3 hd2 bL rdr2 => ?_⟩
    · intro p9 hp9
      cases List.mem_singleton.mp hp9
      exact ⟨hg9, hc⟩
    · intro i g9 c9 d9 hi hl9
      cases i with
      | zero => cases hi; exact hok k d9 e1 hl9
      | succ i => cases hi
    · have hls : learnS s.lt ([s.rg k].zip [c]) = lrn1 s.lt (s.rg k, c) := rfl
      rw [hls] at rdr2
      have ok2 : RsOk (nk st) ⟨s.gs, lrn1 s.lt (s.rg k, c)⟩ := ok.withLt (ok.ltOk.lrn1 hg9 hc)
      have tx3 := text_butR ((s1.trans s2) _ _ he) hne hne2 bL (tx.same (s1.trans s2))
      have fd2 : H d2 = none := (s1.trans s2).free hd2
      have b13 : But3 e d a H H3 := (Same.but3 (s1.trans s2)).trans (But.but3e bL)
      obtain ⟨dx3, g3, as3, he3, hg3, hd3, ha3, hos3, hga3⟩ := rdr2.obj
      have hasl3 : (as3.map V.ref).length < sizeLine := by
        rw [List.length_map, hos3.len]
        exact small_lt (by omega)
      refine ⟨_, rfl, _, _, _, _, _, rfl, he3, T.clKeyReader, T.n_KeyReader_accepted, rfl, (.inl ⟨rfl, ⟨_, (SqL.of ha3)⟩⟩), _, rfl, _, rfl, (by (show 3 ≤ _; decide)), fun p2 n1 => ?_⟩
      have ne_g_p2 := ne_of_none (bL _ _ (ne_of (s2 _ _ (s1 _ _ hg)) (s2 _ _ (s1 _ _ he)) (by intro z; cases z)) (s2 _ _ (s1 _ _ hg))) n1
      have ne_d_p2 := ne_of_none (bL _ _ (ne_of (s2 _ _ (s1 _ _ hd)) (s2 _ _ (s1 _ _ he)) (by intro z; cases z)) (s2 _ _ (s1 _ _ hd))) n1
      have ne_x_p2 := ne_of_none (bL _ _ (ne_of (s2 _ _ (s1 _ _ hx_x)) (s2 _ _ (s1 _ _ he)) (by intro z; injection z with z; exact hne z)) (s2 _ _ (s1 _ _ hx_x))) n1
      have ne_p1_p2 := ne_of_none (bL _ _ ne_e_p1.symm e_p1) n1
      have ne_e_p2 := ne_of_none he3 n1
      have ne_g3_p2 := ne_of_none hg3 n1
      have ne_d2_p2 := ne_of_none hd3 n1
      have ne_a_p2 := ne_of_none ha3 n1
      generalize hE : upd H3 p2 _ = H11
      have s3 : Same H3 H11 := hE ▸ same_upd n1
      have e_p2 := (congrFun hE p2).symm.trans upd_same
      clear hE
      refine ⟨_, _, _, rfl, rfl, (s3 _ _ ha3), (by omega), ?_⟩
      generalize hE : upd H11 a _ = H12
      have b : But a H11 H12 := hE ▸ but_upd
      have e_a := (congrFun hE a).symm.trans upd_same
      clear hE
      refine ⟨_, rfl, _, _, _, rfl, (b _ _ (ne_of (s3 _ _ he3) (s3 _ _ ha3) (by intro z; cases z)) (s3 _ _ he3)), ?_⟩
      have htup : SqT K H11 p2 (obV (.see p.toNat c)) := by
        refine SqT.of ?_
        rw [e_p2]
        show some (HO.tup [V.str "see", V.int p, V.str (sL [c])]) = some (HO.tup [V.str "see", V.int (p.toNat : Nat), V.str (sL [c])])
        rw [Int.toNat_of_nonneg h0]
      have rdr4 := (rdr2.same s3).app2 b (s3 _ _ ha3) e_a htup
      have hkl := kns_le ⟨s.gs, lrn1 s.lt (s.rg k, c)⟩
      have hgs9 : (⟨s.gs, lrn1 s.lt (s.rg k, c)⟩ : RS).gs.length = nk st := hlen
      refine ⟨e, x, d2, a, _, _, rfl, rdr4, by rw [hgs9]; exact hnk, fun l H4 hl s4 e4 => ?_⟩
      have hq := q k d2 H4 e1 fd2 (b13.trans ((Same.but3 s3).trans ((But.but3a b).trans (Same.but3 s4)))) (rdr4.same s4) ok2
      have hkk : (kvR (knw ⟨s.gs, lrn1 s.lt (s.rg k, c)⟩)).length = (kns ⟨s.gs, lrn1 s.lt (s.rg k, c)⟩).length := by
        rw [kvR_len]
        unfold knw
        rw [List.length_map]
      rw [← hkk] at hq
      refine (.inr (.inr ⟨_, _, rfl, e4, ?_⟩))
      have ne_g_l := ne_of_none (b _ _ hga (s3 _ _ (bL _ _ (ne_of (s2 _ _ (s1 _ _ hg)) (s2 _ _ (s1 _ _ he)) (by intro z; cases z)) (s2 _ _ (s1 _ _ hg))))) hl
      have ne_d_l := ne_of_none (b _ _ (ne_of (s3 _ _ (bL _ _ (ne_of (s2 _ _ (s1 _ _ hd)) (s2 _ _ (s1 _ _ he)) (by intro z; cases z)) (s2 _ _ (s1 _ _ hd)))) (s3 _ _ ha3) (by intro z; cases z)) (s3 _ _ (bL _ _ (ne_of (s2 _ _ (s1 _ _ hd)) (s2 _ _ (s1 _ _ he)) (by intro z; cases z)) (s2 _ _ (s1 _ _ hd))))) hl
      have ne_x_l := ne_of_none (b _ _ (ne_of (s3 _ _ (bL _ _ (ne_of (s2 _ _ (s1 _ _ hx_x)) (s2 _ _ (s1 _ _ he)) (by intro z; injection z with z; exact hne z)) (s2 _ _ (s1 _ _ hx_x)))) (s3 _ _ ha3) (by intro z; cases z)) (s3 _ _ (bL _ _ (ne_of (s2 _ _ (s1 _ _ hx_x)) (s2 _ _ (s1 _ _ he)) (by intro z; injection z with z; exact hne z)) (s2 _ _ (s1 _ _ hx_x))))) hl
      have ne_p1_l := ne_of_none (b _ _ ne_a_p1.symm (s3 _ _ (bL _ _ ne_e_p1.symm e_p1))) hl
      have ne_e_l := ne_of_none (b _ _ (ne_of (s3 _ _ he3) (s3 _ _ ha3) (by intro z; cases z)) (s3 _ _ he3)) hl
      have ne_g3_l := ne_of_none (b _ _ hga3 (s3 _ _ hg3)) hl
      have ne_d2_l := ne_of_none (b _ _ (ne_of_none ha fd2).symm (s3 _ _ hd3)) hl
      have ne_a_l := ne_of_none e_a hl
      exact hq
end
end KL
namespace KL
open PySem PySem.Spec PyProof.Rows L2 Pk He
/-- the groups of the keys from a place on -/
def grpsAt (st : List Stp) (s : RS) (p n : Nat) : List Nat := (List.range n).map fun i => s.rg ((ex st).getD (p + i) 0)
def spSeeW (K : Fr) : Sp := fun vs H Q _ => ∃ (e x d a : Addr) (p : Int) (wd : List Nat) (st : List Stp) (s : RS) (os : List Ob), vs = [.ref e, .int p, .str (sL wd)] ∧ RdrAt K H e x d a s os ∧ TA_ K H x st ∧ RsOk (nk st) s ∧ 0 ≤ p ∧ p + (wd.length : Nat) ≤ (sz st : Nat) ∧ 1 ≤ wd.length ∧ wd.length ≤ 20 ∧ wd.all isLet = true ∧ os.length < 1000 ∧
  LearnOk s.lt ((grpsAt st s p.toNat wd.length).zip wd) ∧
  ∀ d2 H2, H d2 = none → But3 e d a H H2 → RdrAt K H2 e x d2 a ⟨s.gs, learnS s.lt ((grpsAt st s p.toNat wd.length).zip wd)⟩ (os ++ [.word p.toNat wd]) → RsOk (nk st) ⟨s.gs, learnS s.lt ((grpsAt st s p.toNat wd.length).zip wd)⟩ →
    Q (.int ((kns ⟨s.gs, learnS s.lt ((grpsAt st s p.toNat wd.length).zip wd)⟩).length : Nat)) H2
section
variable {P : Program} {w : World} {K : Fr} {mg : Str → Option Value} {base : Heap} {f : Addr}
theorem ok_KeyReader_see_word (D : Df K "see_word" "KeyReader.see_word" s_KeyReader_see_word (ma K (ga K "KeyReader") "see_word")) (T : Tc w K mg) (G_KeyReader_group_of : Kp P w K mg base 5 (ma K (ga K "KeyReader") "_group_of") (spGroupOf K)) (G_KeyReader_learn : Kp P w K mg base 1 (ma K (ga K "KeyReader") "_learn") (spLearn K)) (G_KeyReader_known_letters : Kp P w K mg base 1 (pgA K (ga K "KeyReader") "known_letters") (spKnown K)) (G_is_number : Kp P w K mg base 1 (ga K "is_number") spIsNumber) (G_is_word : Kp P w K mg base 1 (ga K "is_word") spIsWord) (G_Text_size : Kp P w K mg base 1 (pgA K (CT K) "size") (spSize K)) : Kp P w K mg base 8 (ma K (ga K "KeyReader") "see_word") (spSeeW K) := by
  refine kp_of D sc_KeyReader_see_word (fun _ _ _ _ _ _ us hl => match us, hl with | [_, _, _], _ => rfl) ?_ (fun cdv A outer s H vs Q E hr h => ?_)
  · rintro vs H Q E ⟨e, x, d, a, p, wd, st, s, os, rfl, _⟩
    rfl
  · obtain ⟨e, x, d, a, p, wd, st, s, os, rfl, rdr, tx, ok, h0, h1, hw1, hw2, hwl, hos9, hok, q⟩ := h
    obtain ⟨p0, rfl⟩ := Int.eq_ofNat_of_zero_le h0
    obtain ⟨dx, g, as, he, hg, hd, ha, hos, hga⟩ := rdr.obj
    have hlen := ok.len
    have hnk := text_nk tx
    have hal := hos.len
    have hne : ga K "Text" ≠ ga K "KeyReader" := by first | exact T.ne_Text_KeyReader | exact T.ne_KeyReader_Text.symm
    have hne2 : ga K "Span" ≠ ga K "KeyReader" := by first | exact T.ne_Span_KeyReader | exact T.ne_KeyReader_Span.symm
    have hfc : fitV (V.str (sL wd)) := by
      show (sL wd).length ≤ _
      rw [sL_len]
      exact small_ok (by omega)
    have hwv : isWordV (.str (sL wd)) = true := by
      show (decide (1 ≤ (sL wd).length) && decide ((sL wd).length ≤ 20) && (sL wd).cps.toList.all isLet) = true
      rw [sL_len, decide_eq_true hw1, decide_eq_true hw2]
      exact hwl
    have hnv : isNum (.int (p0 : Nat)) 0 (sz st : Nat) = true := by
      show (decide (0 ≤ (p0 : Int)) && decide ((p0 : Int) ≤ (sz st : Nat))) = true
      rw [decide_eq_true h0, decide_eq_true (by omega)]
      rfl
    refine ⟨_, (pss_cons (ps_if (pt_not (pt_val (pk_call G_is_number (hr.mono (by omega)) T.gIsNumber (pa_cons (pv 1) (pa_cons pe_int (pa_cons (pk_prop (fldK K (pv 0)) T.clT T.pSize G_Text_size (hr.mono (by omega))) pa_nil)))))) pss_never pss_nil) (pss_cons (ps_if (pt_not (pt_val (pk_call G_is_word (hr.mono (by omega)) T.gIsWord (pa_cons (pv 2) pa_nil)))) pss_never pss_nil) (pss_cons (ps_setLc (i := 3) (own := [("at", 4)]) (g := gName 4) (tt := tYes) rfl sc_KeyReader_see_word.nd rfl rfl (sw_true rfl rfl rfl (by decide +kernel)) (pi_range1 (by rfl) T.rng (pa_cons (pk_b1 (lenA K) T.len b_len (pv 2)) pa_nil)) (blkOk_by (N := ["self", "first", "word", "groups", "at"]) (sc := defScope s_KeyReader_see_word) (by decide +kernel)) (fun _ _ _ _ _ => (pg_name (i := 4) sc_KeyReader_see_word.nd rfl (Or.inl rfl))) (fun _ _ _ _ _ => pts_nil) (fun _ _ _ _ _ => (pe_methR (pv 0) T.clKeyReader T.m_KeyReader_group_of G_KeyReader_group_of.fnR (hr.mono (by omega)) pass0 (pa_cons (pe_op (addA K) (pv 1) (pv 4)) pa_nil)))) (pss_cons (ps_expr (pe_methR (pv 0) T.clKeyReader T.m_KeyReader_learn G_KeyReader_learn.fnR (hr.mono (by omega)) pass0 (pa_cons (pv 3) (pa_cons (pv 2) pa_nil)))) (pss_cons (ps_expr (pe_bm PySem.F.plainAttrs_list PySem.F.slot_list_append PySem.F.type_list_append mt_append (fldK K (pv 0)) (pa_cons (pe_tup (pa_cons pe_str (pa_cons (pv 1) (pa_cons (pv 2) pa_nil)))) pa_nil))) (pss_one (ps_ret (pk_b1 (lenA K) T.len b_len (pk_prop (pv 0) T.clKeyReader T.p_KeyReader_known_letters G_KeyReader_known_letters (hr.mono (by omega))))))))))), ?_⟩
    obtain ⟨dx_x, ts_x, sp_x, as_x, ss_x, hx_x, hts_x, hst_x, hsp_x, hss_x⟩ := tx.obj
    have hty_x := typed_small tx
    have hnk_x := text_nk tx
    have hg_x := tx.good
    refine ⟨_, rfl, _, rfl, _, _, _, _, _, rfl, he, T.clKeyReader, T.n_KeyReader_text, rfl, _, _, _, rfl, hx_x, _, _, rfl, tx, _, _, _, rfl, rfl, _, rfl, ?_⟩
    refine iF (nF hnv) ?_
    refine ⟨_, rfl, _, rfl, rfl, hfc, fun H2 s1 => ?_⟩
    refine ⟨_, rfl, ?_⟩
    refine iF (nF hwv) ?_
    refine ⟨_, rfl, (.inl ⟨_, rfl, (by exact small_ok (by simp only [cV_len, nV_len, List.length_append, List.length_map, List.length_take, List.length_drop, List.length_range, sL_len, typed_len, lts_len, kvL_len]; omega)), _, rfl, (by omega), (by (simp only [cV_len, nV_len, List.length_append, List.length_map, List.length_take, List.length_drop, List.length_range, sL_len, typed_len, lts_len, kvL_len]; omega)), fun D1 n => ?_⟩)⟩
    have ne_e_D1 := ne_of_none (s1 _ _ he) n
    have ne_g_D1 := ne_of_none (s1 _ _ hg) n
    have ne_d_D1 := ne_of_none (s1 _ _ hd) n
    have ne_a_D1 := ne_of_none (s1 _ _ ha) n
    have ne_x_D1 := ne_of_none (s1 _ _ hx_x) n
    have hwn : (((sL wd).length : Nat) : Int).toNat = wd.length := by rw [sL_len]; rfl
    rw [hwn]
    have hexl := ex_len st hg_x
    have hgl : ∀ i, i < wd.length → ∃ k, (ex st)[p0 + i]? = some k ∧ (grpsAt st s p0 wd.length).getD i 0 = s.rg k := fun i hi => by
      have hl : p0 + i < (ex st).length := by omega
      refine ⟨(ex st)[p0 + i], List.getElem?_eq_getElem hl, ?_⟩
      unfold grpsAt
      rw [List.getD_eq_getElem?_getD, List.getElem?_map, List.getElem?_range hi]
      show s.rg ((ex st).getD (p0 + i) 0) = _
      rw [List.getD_eq_getElem?_getD, List.getElem?_eq_getElem hl]
      rfl
    have hgll : (grpsAt st s p0 wd.length).length = wd.length := by unfold grpsAt; rw [List.length_map, List.length_range]
    refine lc_map (walk_range (lo := 0) (n := wd.length)) n (fun i => V.int ((grpsAt st s p0 wd.length).getD i 0 : Nat)) (small_ok (by omega)) (fun _ _ => trivial) ?_ ?_
    · rintro i v H3 H4 N hi s3 ⟨rfl, rfl⟩ hN
      obtain ⟨k9, hk1, hk2⟩ := hgl i hi
      refine ⟨rfl, _, rfl, _, _, _, rfl, (s3 _ _ (s1 _ _ he)), rfl, _, rfl, _, rfl, (.inl ⟨_, _, rfl, rfl, _, _, _, _, _, _, _, _, rfl, (rdr.same (s1.trans s3)), (TextAt.same tx (s1.trans s3)), ok, (by omega), (by omega), fun k H21 s2 e1 => ?_⟩)⟩
      have hlt_k9 := ex_lt _ _ (List.mem_of_getElem? hk1)
      have hlt_k := ex_lt _ _ (List.mem_of_getElem? e1)
      refine qInt (hN _ s2) ?_
      rw [hk2]
      have hpi : ((p0 : Int) + (0 + (i : Int))).toNat = p0 + i := by omega
      rw [hpi, hk1] at e1
      cases e1
      rfl
    · intro H3 s3 hD3
      have hD4 : H3 D1 = some (.lst (nV (grpsAt st s p0 wd.length))) := by
        rw [hD3]
        unfold nV
        refine congrArg (fun z => some (HO.lst z)) ?_
        refine List.ext_getElem (by simp [hgll]) fun i h5 h6 => ?_
        simp only [List.length_map, List.length_range] at h5
        simp [List.getD_eq_getElem?_getD, List.getElem?_eq_getElem (show i < (grpsAt st s p0 wd.length).length by omega)]
      clear hD3
      have hok9 : LearnOk s.lt ((grpsAt st s p0 wd.length).zip wd) := hok
      have hlt9 := ok.ltOk
      have hps9 : ∀ p ∈ (grpsAt st s p0 wd.length).zip wd, p.1 < nk st ∧ isLet p.2 = true := fun q9 hq9 => by
        obtain ⟨m1, m2⟩ := List.of_mem_zip hq9
        refine ⟨?_, List.all_eq_true.mp hwl _ m2⟩
        unfold grpsAt at m1
        obtain ⟨j9, hj9, e9⟩ := List.mem_map.mp m1
        obtain ⟨k9, hk1, hk2⟩ := hgl j9 (List.mem_range.mp hj9)
        rw [← e9, List.getD_eq_getElem?_getD, hk1]
        exact ok.lt (ex_lt _ _ (List.mem_of_getElem? hk1))
      refine ⟨_, rfl, _, _, _, rfl, (s3 _ _ (s1 _ _ he)), rfl, _, rfl, _, rfl, _, _, _, _, _, _, _, _, _, _, rfl, (rdr.same (s1.trans s3)), hD4, hgll, (by omega), hnk_x, hlt9, hps9, hok9, fun d2 H21 n1 b h => ?_⟩
      have ne_e_d2 := ne_of_none ((s1.trans s3) _ _ he) n1
      have ne_g_d2 := ne_of_none ((s1.trans s3) _ _ hg) n1
      have ne_d_d2 := ne_of_none ((s1.trans s3) _ _ hd) n1
      have ne_a_d2 := ne_of_none ((s1.trans s3) _ _ ha) n1
      have ne_x_d2 := ne_of_none ((s1.trans s3) _ _ hx_x) n1
      have ne_D1_d2 := ne_of_none hD4 n1
      refine ⟨_, rfl, ?_⟩
      have sA : Same H H3 := s1.trans s3
      have ok2 : RsOk (nk st) ⟨s.gs, learnS s.lt ((grpsAt st s p0 wd.length).zip wd)⟩ := ok.withLt (ok.ltOk.learn hps9)
      have fd2 : H d2 = none := sA.free n1
      have b13 : But3 e d a H H21 := (Same.but3 sA).trans (But.but3e b)
      have q9 := q d2
      have rdr2 : RdrAt K H21 e x d2 a ⟨s.gs, learnS s.lt ((grpsAt st s p0 wd.length).zip wd)⟩ os := h
      have htn : (((p0 : Nat) : Int)).toNat = p0 := Int.toNat_natCast _
      rw [htn] at q9
      clear h
      have hgs9 : (⟨s.gs, learnS s.lt ((grpsAt st s p0 wd.length).zip wd)⟩ : RS).gs.length = nk st := hlen
      generalize hs9 : (⟨s.gs, learnS s.lt ((grpsAt st s p0 wd.length).zip wd)⟩ : RS) = s9 at rdr2 ok2 q9 hgs9
      obtain ⟨dx3, g3, as3, he3, hg3, hd3, ha3, hos3, hga3⟩ := rdr2.obj
      have hasl3 : (as3.map V.ref).length < sizeLine := by
        rw [List.length_map, hos3.len]
        exact small_lt (by omega)
      refine ⟨_, _, _, _, _, rfl, he3, T.clKeyReader, T.n_KeyReader_accepted, rfl, (.inl ⟨rfl, ⟨_, (SqL.of ha3)⟩⟩), _, rfl, _, rfl, (by (show 3 ≤ _; decide)), fun p n2 => ?_⟩
      have ne_g_p := ne_of_none (b _ _ (ne_of (sA _ _ hg) (sA _ _ he) (by intro z; cases z)) (sA _ _ hg)) n2
      have ne_d_p := ne_of_none (b _ _ (ne_of (sA _ _ hd) (sA _ _ he) (by intro z; cases z)) (sA _ _ hd)) n2
      have ne_x_p := ne_of_none (b _ _ (ne_of (sA _ _ hx_x) (sA _ _ he) (by intro z; injection z with z; exact hne z)) (sA _ _ hx_x)) n2
      have ne_D1_p := ne_of_none (b _ _ ne_e_D1.symm hD4) n2
      have ne_e_p := ne_of_none he3 n2
      have ne_g3_p := ne_of_none hg3 n2
      have ne_d2_p := ne_of_none hd3 n2
      have ne_a_p := ne_of_none ha3 n2
      generalize hE : upd H21 p _ = H1
      have s2 : Same H21 H1 := hE ▸ same_upd n2
      have e_p := (congrFun hE p).symm.trans upd_same
      clear hE
      refine ⟨_, _, _, rfl, rfl, (s2 _ _ ha3), (by omega), ?_⟩
      generalize hE : upd H1 a _ = H11
      have b1 : But a H1 H11 := hE ▸ but_upd
      have e_a := (congrFun hE a).symm.trans upd_same
      clear hE
      refine ⟨_, rfl, _, _, _, rfl, (b1 _ _ (ne_of (s2 _ _ he3) (s2 _ _ ha3) (by intro z; cases z)) (s2 _ _ he3)), ?_⟩
      have htup : SqT K H1 p (obV (.word p0 wd)) := SqT.of e_p
      have rdr4 := (rdr2.same s2).app2 b1 (s2 _ _ ha3) e_a htup
      have hkl := kns_le s9
      refine ⟨e, x, d2, a, _, _, rfl, rdr4, by rw [hgs9]; exact hnk, fun l H4 hl s4 e4 => ?_⟩
      have hq := q9 H4 fd2 (b13.trans ((Same.but3 s2).trans ((But.but3a b1).trans (Same.but3 s4)))) (rdr4.same s4) ok2
      have hkk : (kvR (knw s9)).length = (kns s9).length := by
        rw [kvR_len]
        unfold knw
        rw [List.length_map]
      rw [← hkk] at hq
      refine (.inr (.inr ⟨_, _, rfl, e4, ?_⟩))
      have ne_g_l := ne_of_none (b1 _ _ hga (s2 _ _ (b _ _ (ne_of (sA _ _ hg) (sA _ _ he) (by intro z; cases z)) (sA _ _ hg)))) hl
      have ne_d_l := ne_of_none (b1 _ _ (ne_of (s2 _ _ (b _ _ (ne_of (sA _ _ hd) (sA _ _ he) (by intro z; cases z)) (sA _ _ hd))) (s2 _ _ ha3) (by intro z; cases z)) (s2 _ _ (b _ _ (ne_of (sA _ _ hd) (sA _ _ he) (by intro z; cases z)) (sA _ _ hd)))) hl
      have ne_x_l := ne_of_none (b1 _ _ (ne_of (s2 _ _ (b _ _ (ne_of (sA _ _ hx_x) (sA _ _ he) (by intro z; injection z with z; exact hne z)) (sA _ _ hx_x))) (s2 _ _ ha3) (by intro z; cases z)) (s2 _ _ (b _ _ (ne_of (sA _ _ hx_x) (sA _ _ he) (by intro z; injection z with z; exact hne z)) (sA _ _ hx_x)))) hl
      have ne_D1_l := ne_of_none (b1 _ _ ne_a_D1.symm (s2 _ _ (b _ _ ne_e_D1.symm hD4))) hl
      have ne_e_l := ne_of_none (b1 _ _ (ne_of (s2 _ _ he3) (s2 _ _ ha3) (by intro z; cases z)) (s2 _ _ he3)) hl
      have ne_g3_l := ne_of_none (b1 _ _ hga3 (s2 _ _ hg3)) hl
      have ne_d2_l := ne_of_none (b1 _ _ ne_a_d2.symm (s2 _ _ hd3)) hl
      have ne_a_l := ne_of_none e_a hl
      exact hq
end
end KL
namespace KL
open PySem PySem.Spec PyProof.Rows L2 Pk He
def spHear (K : Fr) : Sp := fun vs H Q _ => ∃ (e x d a : Addr) (p p2 : Int) (st : List Stp) (s : RS) (os : List Ob), vs = [.ref e, .int p, .int p2] ∧ RdrAt K H e x d a s os ∧ TA_ K H x st ∧ RsOk (nk st) s ∧ 0 ≤ p ∧ p < (sz st : Nat) ∧ 0 ≤ p2 ∧ p2 < (sz st : Nat) ∧ os.length < 1000 ∧
  (∀ k m c c2, (ex st)[p.toNat]? = some k → (ex st)[p2.toNat]? = some m → s.le k = some c → s.le m = some c2 → c = c2) ∧
  ∀ k m H2, (ex st)[p.toNat]? = some k → (ex st)[p2.toNat]? = some m → But3 e d a H H2 → RdrAt K H2 e x d a (hearS s (min (s.rg k) (s.rg m)) (max (s.rg k) (s.rg m))) (os ++ [.hear p.toNat p2.toNat]) → RsOk (nk st) (hearS s (min (s.rg k) (s.rg m)) (max (s.rg k) (s.rg m))) →
    Q (.int ((26 ^ (opn (hearS s (min (s.rg k) (s.rg m)) (max (s.rg k) (s.rg m)))).length : Nat) : Int)) H2
theorem sort_two {a b : Int} {l : List Int} (hp : l.Perm [a, b]) (hs : l.Pairwise (· ≤ ·)) : l = [min a b, max a b] := by
  have hl := hp.length_eq
  match l, hl with
  | [x, y], _ =>
    have h1 : x ≤ y := by simpa using hs
    have m1 : a ∈ [x, y] := hp.mem_iff.mpr (by simp)
    have m2 : b ∈ [x, y] := hp.mem_iff.mpr (by simp)
    have m3 : x ∈ [a, b] := hp.mem_iff.mp (by simp)
    have m4 : y ∈ [a, b] := hp.mem_iff.mp (by simp)
    simp at m1 m2 m3 m4
    rw [show x = min a b by omega, show y = max a b by omega]
section
variable {P : Program} {w : World} {K : Fr} {mg : Str → Option Value} {base : Heap} {f : Addr}
-- hint: sorted([self._group_of(place), self._group_of(other)]) => (pk_b1 (cr_sortedB K) T.srt b_sorted $0)
-- hint: lst:least, gone => 1
-- hint: self._letters.get(gone, self._letters.get(least)) => rget
-- hint: self._letters.get(least) => rget
-- hint: self._letters.get(least, letter) => rget
-- hint: st:self._letters[least] => rdict
theorem ok_KeyReader_hear_alike (D : Df K "hear_alike" "KeyReader.hear_alike" s_KeyReader_hear_alike (ma K (ga K "KeyReader") "hear_alike")) (T : Tc w K mg) (G_KeyReader_group_of : Kp P w K mg base 5 (ma K (ga K "KeyReader") "_group_of") (spGroupOf K)) (G_KeyReader_count_texts : Kp P w K mg base 2 (ma K (ga K "KeyReader") "count_texts") (spCountT K)) : Kp P w K mg base 8 (ma K (ga K "KeyReader") "hear_alike") (spHear K) := by
  refine kp_of D sc_KeyReader_hear_alike (fun _ _ _ _ _ _ us hl => match us, hl with | [_, _, _], _ => rfl) ?_ (fun cdv A outer s H vs Q E hr h => ?_)
  · rintro vs H Q E ⟨e, x, d, a, p, p2, st, s, os, rfl, _⟩
    rfl
  · obtain ⟨e, x, d, a, p, p2, st, s, os, rfl, rdr, tx, ok, h0, h1, h2, h3, hos9, hok, q⟩ := h
    obtain ⟨dx, g, as, he, hg, hd, ha, hos, hga⟩ := rdr.obj
    have hlen := ok.len
    have hnk := text_nk tx
    have hal := hos.len
    refine ⟨_, (pss_cons (ps_asg (pk_b1 (cr_sortedB K) T.srt b_sorted (pe_lst (pa_cons (pe_methR (pv 0) T.clKeyReader T.m_KeyReader_group_of G_KeyReader_group_of.fnR (hr.mono (by omega)) pass0 (pa_cons (pv 1) pa_nil)) (pa_cons (pe_methR (pv 0) T.clKeyReader T.m_KeyReader_group_of G_KeyReader_group_of.fnR (hr.mono (by omega)) pass0 (pa_cons (pv 2) pa_nil)) pa_nil)))) (pg_lst rfl (pgs_cons (pg_name (i := 3) sc_KeyReader_hear_alike.nd rfl (Or.inr rfl)) (pgs_cons (pg_name (i := 4) sc_KeyReader_hear_alike.nd rfl (Or.inr rfl)) pgs_nil)))) (pss_cons (ps_set (i := 5) sc_KeyReader_hear_alike.nd rfl (Or.inl rfl) (pe_rget2 (hu9 hr.units) (fldK K (pv 0)) (pv 4) (pe_rget1 (hu9 hr.units) (fldK K (pv 0)) (pv 3) ⟨rfl, rfl, rfl, rfl⟩) ⟨rfl, rfl, rfl, rfl⟩)) (pss_cons (ps_if (pt_cmp (pc_notN (pv 5))) (pss_cons (ps_if (pt_cmpR (neB K hr.units) (pe_rget2 (hu9 hr.units) (fldK K (pv 0)) (pv 3) (pv 5) ⟨rfl, rfl, rfl, rfl⟩) (pv 5) (nomark _)) pss_never pss_nil) (pss_one (ps_asg (pv 5) (pg_sub (fldK K (pv 0)) (pv 3) (set_R (hu9 hr.units)))))) pss_nil) (pss_cons (ps_fld (pv 0) (pe_lc (own := [("group", 6)]) (g := gName 6) (tt := tYes) rfl sc_KeyReader_hear_alike.nd (pi_list (fldK K (pv 0))) (blkOk_by (N := ["self", "place", "other", "least", "gone", "letter", "group"]) (sc := defScope s_KeyReader_hear_alike) (by decide +kernel)) (fun _ _ _ _ _ => (pg_name (i := 6) sc_KeyReader_hear_alike.nd rfl (Or.inl rfl))) (fun _ _ _ _ _ => pts_nil) (fun _ _ _ _ _ => (pe_ifExp (pt_cmpR (eqB K hr.units) (pv 6) (pv 4) (nomark _)) (pv 3) (pv 6)))) rfl) (pss_cons (ps_expr (pe_bm PySem.F.plainAttrs_list PySem.F.slot_list_append PySem.F.type_list_append mt_append (fldK K (pv 0)) (pa_cons (pe_tup (pa_cons pe_str (pa_cons (pv 1) (pa_cons (pv 2) pa_nil)))) pa_nil))) (pss_one (ps_ret (pe_methR0 (pv 0) T.clKeyReader T.m_KeyReader_count_texts G_KeyReader_count_texts.fnR (hr.mono (by omega)) pass0)))))))), ?_⟩
    obtain ⟨dx_x, ts_x, sp_x, as_x, ss_x, hx_x, hts_x, hst_x, hsp_x, hss_x⟩ := tx.obj
    have hty_x := typed_small tx
    have hnk_x := text_nk tx
    have hg_x := tx.good
    refine ⟨_, rfl, _, _, _, rfl, he, rfl, _, rfl, _, _, _, _, _, _, _, _, rfl, rdr, tx, ok, (by omega), (by omega), fun k H2 s1 e1 => ?_⟩
    have hlt_k := ex_lt _ _ (List.mem_of_getElem? e1)
    refine ⟨_, rfl, _, _, _, rfl, (s1 _ _ he), rfl, _, rfl, _, _, _, _, _, _, _, _, rfl, (rdr.same s1), (TextAt.same tx s1), ok, (by omega), (by omega), fun k1 H21 s2 e2 => ?_⟩
    have hlt_k1 := ex_lt _ _ (List.mem_of_getElem? e2)
    refine ⟨(by (show 2 ≤ _; decide)), fun p1 n => ?_⟩
    have ne_e_p1 := ne_of_none ((s1.trans s2) _ _ he) n
    have ne_g_p1 := ne_of_none ((s1.trans s2) _ _ hg) n
    have ne_d_p1 := ne_of_none ((s1.trans s2) _ _ hd) n
    have ne_a_p1 := ne_of_none ((s1.trans s2) _ _ ha) n
    have ne_x_p1 := ne_of_none ((s1.trans s2) _ _ hx_x) n
    generalize hE : upd H21 p1 _ = H1
    have s3 : Same H21 H1 := hE ▸ same_upd n
    have e_p1 := (congrFun hE p1).symm.trans upd_same
    clear hE
    refine .inl ⟨p1, [(s.rg k : Int), (s.rg k1 : Int)], rfl, SqL.of e_p1, fun ns9 p9 hp9 hs9 hn9 => ?_⟩
    have hmm := sort_two hp9 hs9
    subst hmm
    have hlo : (min (s.rg k : Int) (s.rg k1 : Int)) = ((min (s.rg k) (s.rg k1) : Nat) : Int) := by omega
    have hhi : (max (s.rg k : Int) (s.rg k1 : Int)) = ((max (s.rg k) (s.rg k1) : Nat) : Int) := by omega
    rw [hlo, hhi]
    have q1 := q k k1
    have hg1 := ok.lt hlt_k
    have hg2 := ok.lt hlt_k1
    have hlohi : min (s.rg k) (s.rg k1) ≤ max (s.rg k) (s.rg k1) := by omega
    have hhin : max (s.rg k) (s.rg k1) < nk st := by omega
    have hlor : s.rg (min (s.rg k) (s.rg k1)) = min (s.rg k) (s.rg k1) := by
      rcases Nat.le_total (s.rg k) (s.rg k1) with z | z
      · rw [Nat.min_eq_left z]; exact (ok.root k hlt_k).2
      · rw [Nat.min_eq_right z]; exact (ok.root k1 hlt_k1).2
    have okH := ok.hear hlohi hhin hlor
    have hcc : ∀ c c2, s.lt.lookup (max (s.rg k) (s.rg k1)) = some c → s.lt.lookup (min (s.rg k) (s.rg k1)) = some c2 → c = c2 := fun c c2 h8 h9 => by
      rcases Nat.le_total (s.rg k) (s.rg k1) with z | z
      · rw [Nat.max_eq_right z] at h8
        rw [Nat.min_eq_left z] at h9
        exact (hok k k1 c2 c e1 e2 h9 h8).symm
      · rw [Nat.max_eq_left z] at h8
        rw [Nat.min_eq_right z] at h9
        exact hok k k1 c c2 e1 e2 h8 h9
    generalize min (s.rg k) (s.rg k1) = lo at q1 hlohi hlor okH hcc ⊢
    generalize max (s.rg k) (s.rg k1) = hi at q1 hlohi hhin okH hcc ⊢
    generalize hE : upd H1 p9 _ = H11
    have s4 : Same H1 H11 := hE ▸ same_upd hn9
    have e_p9 := (congrFun hE p9).symm.trans upd_same
    clear hE
    refine ⟨_, _, rfl, (SqL.of e_p9), rfl, _, _, rfl, _, _, rfl, rfl, _, rfl, _, _, _, _, _, rfl, (s4 _ _ (s3 _ _ (s2 _ _ (s1 _ _ he)))), T.clKeyReader, T.n_KeyReader_letters, rfl, _, _, rfl, (.inl (s4 _ _ (s3 _ _ (s2 _ _ (s1 _ _ hd))))), _, rfl, _, rfl, _, _, _, _, _, rfl, (s4 _ _ (s3 _ _ (s2 _ _ (s1 _ _ he)))), T.clKeyReader, T.n_KeyReader_letters, rfl, _, _, rfl, (.inl (s4 _ _ (s3 _ _ (s2 _ _ (s1 _ _ hd))))), _, rfl, _, _, rfl, (.inl (s4 _ _ (s3 _ _ (s2 _ _ (s1 _ _ hd))))), _, _, rfl, (.inl (s4 _ _ (s3 _ _ (s2 _ _ (s1 _ _ hd))))), _, rfl, ?_⟩
    have ne_e_p9 := ne_of_none (((s1.trans s2).trans s3) _ _ he) hn9
    have ne_g_p9 := ne_of_none (((s1.trans s2).trans s3) _ _ hg) hn9
    have ne_d_p9 := ne_of_none (((s1.trans s2).trans s3) _ _ hd) hn9
    have ne_a_p9 := ne_of_none (((s1.trans s2).trans s3) _ _ ha) hn9
    have ne_x_p9 := ne_of_none (((s1.trans s2).trans s3) _ _ hx_x) hn9
    have ne_p1_p9 := ne_of_none e_p1 hn9
    generalize hσ : List.set _ _ _ = σ1
    simp only [L2.start, List.set_cons_zero, List.set_cons_succ, List.map_cons, List.map_nil, List.length_cons, List.length_nil, List.replicate_succ, List.replicate_zero, List.cons_append, List.nil_append, Nat.reduceAdd, Nat.reduceSub] at hσ
    subst hσ
    refine ⟨_, rfl, ?_⟩
    refine cut_if (fun σ HB => ∃ v5 : V, σ = [some (.ref e), some (.int p), some (.int p2), some (.int (lo : Nat)), some (.int (hi : Nat)), some v5, none] ∧ But d H11 HB ∧ HB d = some (.dK (kvR (hearS s lo hi).lt))) ?_ ?_
    · intro D0 hrest
      have hkn := ok.keys
      have hfw := ok.few
      have hlt9 : (hearS s lo hi).lt = (match s.lt.lookup hi with | some c => putR s.lt lo c | none => match s.lt.lookup lo with | some c => putR s.lt lo c | none => s.lt) := rfl
      cases c1 : s.lt.lookup hi with
      | none =>
        cases c2 : s.lt.lookup lo with
        | none =>
          rw [c1, c2] at hlt9
          refine iteF ?_
          refine hrest _ _ ⟨_, rfl, But.refl _ _, ?_⟩
          rw [hlt9]
          exact (s4 _ _ (s3 _ _ (s2 _ _ (s1 _ _ hd))))
        | some c =>
          rw [c1, c2] at hlt9
          refine iteT ?_
          refine ⟨_, rfl, _, _, _, _, _, rfl, (s4 _ _ (s3 _ _ (s2 _ _ (s1 _ _ he)))), T.clKeyReader, T.n_KeyReader_letters, rfl, _, _, rfl, (.inl (s4 _ _ (s3 _ _ (s2 _ _ (s1 _ _ hd))))), _, rfl, _, rfl, _, _, rfl, (.inl (s4 _ _ (s3 _ _ (s2 _ _ (s1 _ _ hd))))), _, rfl, ?_⟩
          rw [c2]
          refine .inl ⟨rfl, false, congrArg V.bl (nF (decide_eq_true rfl)), ?_⟩
          refine iteF ?_
          refine ⟨_, rfl, _, rfl, _, _, _, _, _, rfl, (s4 _ _ (s3 _ _ (s2 _ _ (s1 _ _ he)))), T.clKeyReader, T.n_KeyReader_letters, rfl, _, rfl, _, _, _, _, rfl, rfl, rfl, (s4 _ _ (s3 _ _ (s2 _ _ (s1 _ _ hd)))), hkn, (by omega), ?_⟩
          generalize hE : upd H11 d _ = H12
          have b : But d H11 H12 := hE ▸ but_upd
          have e_d := (congrFun hE d).symm.trans upd_same
          clear hE
          refine hrest _ _ ⟨_, rfl, b, ?_⟩
          rw [hlt9]
          exact e_d
      | some c =>
        rw [c1] at hlt9
        refine iteT ?_
        refine ⟨_, rfl, _, _, _, _, _, rfl, (s4 _ _ (s3 _ _ (s2 _ _ (s1 _ _ he)))), T.clKeyReader, T.n_KeyReader_letters, rfl, _, _, rfl, (.inl (s4 _ _ (s3 _ _ (s2 _ _ (s1 _ _ hd))))), _, rfl, _, rfl, _, _, rfl, (.inl (s4 _ _ (s3 _ _ (s2 _ _ (s1 _ _ hd))))), _, rfl, ?_⟩
        have hgc : getL (s.lt.lookup lo) (getL (some c) (getL (s.lt.lookup lo) V.non)) = V.str (sL [c]) := by
          cases c2 : s.lt.lookup lo with
          | none => rfl
          | some c9 => rw [hcc c c9 c1 c2]; rfl
        have hgd : getL (some c) (getL (s.lt.lookup lo) V.non) = V.str (sL [c]) := rfl
        rw [hgc, hgd]
        refine .inl ⟨rfl, false, congrArg V.bl (nF (decide_eq_true rfl)), ?_⟩
        refine iteF ?_
        refine ⟨_, rfl, _, rfl, _, _, _, _, _, rfl, (s4 _ _ (s3 _ _ (s2 _ _ (s1 _ _ he)))), T.clKeyReader, T.n_KeyReader_letters, rfl, _, rfl, _, _, _, _, rfl, rfl, rfl, (s4 _ _ (s3 _ _ (s2 _ _ (s1 _ _ hd)))), hkn, (by omega), ?_⟩
        generalize hE : upd H11 d _ = H12
        have b : But d H11 H12 := hE ▸ but_upd
        have e_d := (congrFun hE d).symm.trans upd_same
        clear hE
        refine hrest _ _ ⟨_, rfl, b, ?_⟩
        rw [hlt9]
        exact e_d
    · rintro σ HB ⟨v5, rfl, bB, eB⟩
      refine ⟨_, rfl, _, _, _, _, _, rfl, (bB _ _ (ne_of (s4 _ _ (s3 _ _ (s2 _ _ (s1 _ _ he)))) (s4 _ _ (s3 _ _ (s2 _ _ (s1 _ _ hd)))) (by intro z; cases z)) (s4 _ _ (s3 _ _ (s2 _ _ (s1 _ _ he))))), T.clKeyReader, T.n_KeyReader_groups, rfl, _, rfl, ⟨_, (SqL.of (bB _ _ (ne_of (s4 _ _ (s3 _ _ (s2 _ _ (s1 _ _ hg)))) (s4 _ _ (s3 _ _ (s2 _ _ (s1 _ _ hd)))) (by intro z; cases z)) (s4 _ _ (s3 _ _ (s2 _ _ (s1 _ _ hg))))))⟩, fun D1 n1 => ?_⟩
      have ne_e_D1 := ne_of_none (bB _ _ (ne_of (s4 _ _ (s3 _ _ (s2 _ _ (s1 _ _ he)))) (s4 _ _ (s3 _ _ (s2 _ _ (s1 _ _ hd)))) (by intro z; cases z)) (s4 _ _ (s3 _ _ (s2 _ _ (s1 _ _ he))))) n1
      have ne_g_D1 := ne_of_none (bB _ _ (ne_of (s4 _ _ (s3 _ _ (s2 _ _ (s1 _ _ hg)))) (s4 _ _ (s3 _ _ (s2 _ _ (s1 _ _ hd)))) (by intro z; cases z)) (s4 _ _ (s3 _ _ (s2 _ _ (s1 _ _ hg))))) n1
      have ne_a_D1 := ne_of_none (bB _ _ (ne_of (s4 _ _ (s3 _ _ (s2 _ _ (s1 _ _ ha)))) (s4 _ _ (s3 _ _ (s2 _ _ (s1 _ _ hd)))) (by intro z; cases z)) (s4 _ _ (s3 _ _ (s2 _ _ (s1 _ _ ha))))) n1
      have ne_x_D1 := ne_of_none (bB _ _ (ne_of (s4 _ _ (s3 _ _ (s2 _ _ (s1 _ _ hx_x)))) (s4 _ _ (s3 _ _ (s2 _ _ (s1 _ _ hd)))) (by intro z; cases z)) (s4 _ _ (s3 _ _ (s2 _ _ (s1 _ _ hx_x))))) n1
      have ne_p1_D1 := ne_of_none (bB _ _ ne_d_p1.symm (s4 _ _ e_p1)) n1
      have ne_p9_D1 := ne_of_none (bB _ _ ne_d_p9.symm e_p9) n1
      have ne_d_D1 := ne_of_none eB n1
      have sF : Same H H11 := s1.trans (s2.trans (s3.trans s4))
      have hgB : HB g = some (.lst (nV s.gs)) := bB _ _ (ne_of (sF _ _ hg) (sF _ _ hd) (by intro z; cases z)) (sF _ _ hg)
      have hal2 : (hearS s lo hi).gs.length = s.gs.length := by unfold hearS; rw [List.length_map]
      refine lc_map (walk_list (xs := nV s.gs)) n1 (fun i => V.int ((hearS s lo hi).gs.getD i 0 : Nat)) (by rw [nV_len]; exact small_ok (by omega)) (fun H3 s3 => SqL.of (s3 _ _ hgB)) ?_ ?_
      · rintro i v H3 H4 N hi9 s5 ⟨rfl, hu⟩ hN
        rw [nV_len] at hi9
        cases (nV_get hi9).symm.trans hu
        have e9 : s.gs.getD i 0 = s.rg i := rfl
        have e8 : (hearS s lo hi).gs.getD i 0 = if s.rg i = hi then lo else s.rg i := hear_rg hi9
        rw [e9]
        rw [e8] at hN
        refine ⟨rfl, _, rfl, _, rfl, (.inl ⟨rfl, _, rfl, ?_⟩)⟩
        refine iV (fun hv => ?_) fun hv => ?_
        · rw [if_pos (by omega)] at hN
          refine ⟨_, rfl, ?_⟩
          exact hN _ (Same.refl _)
        · rw [if_neg (by omega)] at hN
          refine ⟨_, rfl, ?_⟩
          exact hN _ (Same.refl _)
      · intro H3 s5 hD3
        rw [nV_len, ← hal2] at hD3
        have hD4 : H3 D1 = some (.lst (nV (hearS s lo hi).gs)) := by
          rw [hD3]
          unfold nV
          refine congrArg (fun z => some (HO.lst z)) ?_
          refine List.ext_getElem (by simp) fun i h5 h6 => ?_
          simp only [List.length_map, List.length_range] at h5
          simp [List.getD_eq_getElem?_getD, List.getElem?_eq_getElem h5]
        clear hD3
        refine ⟨_, rfl, _, _, _, _, rfl, (s5 _ _ (bB _ _ (ne_of (sF _ _ he) (sF _ _ hd) (by intro z; cases z)) (sF _ _ he))), T.clKeyReader, T.n_KeyReader_groups, (by (show 4 < _; decide)), ?_⟩
        rw [put_r6]
        generalize hE : upd H3 e _ = H12
        have b : But e H3 H12 := hE ▸ but_upd
        have e_e := (congrFun hE e).symm.trans upd_same
        clear hE
        refine ⟨_, rfl, _, _, _, _, _, rfl, e_e, T.clKeyReader, T.n_KeyReader_accepted, rfl, (.inl ⟨rfl, ⟨_, (SqL.of (b _ _ (ne_of (s5 _ _ (bB _ _ (ne_of (sF _ _ ha) (sF _ _ hd) (by intro z; cases z)) (sF _ _ ha))) (s5 _ _ (bB _ _ (ne_of (sF _ _ he) (sF _ _ hd) (by intro z; cases z)) (sF _ _ he))) (by intro z; cases z)) (s5 _ _ (bB _ _ (ne_of (sF _ _ ha) (sF _ _ hd) (by intro z; cases z)) (sF _ _ ha)))))⟩⟩), _, rfl, _, rfl, (by (show 3 ≤ _; decide)), fun p3 n2 => ?_⟩
        have ne_a_p3 := ne_of_none (b _ _ (ne_of (s5 _ _ (bB _ _ (ne_of (sF _ _ ha) (sF _ _ hd) (by intro z; cases z)) (sF _ _ ha))) (s5 _ _ (bB _ _ (ne_of (sF _ _ he) (sF _ _ hd) (by intro z; cases z)) (sF _ _ he))) (by intro z; cases z)) (s5 _ _ (bB _ _ (ne_of (sF _ _ ha) (sF _ _ hd) (by intro z; cases z)) (sF _ _ ha)))) n2
        have ne_p1_p3 := ne_of_none (b _ _ ne_e_p1.symm (s5 _ _ (bB _ _ ne_d_p1.symm (s4 _ _ e_p1)))) n2
        have ne_p9_p3 := ne_of_none (b _ _ ne_e_p9.symm (s5 _ _ (bB _ _ ne_d_p9.symm e_p9))) n2
        have ne_d_p3 := ne_of_none (b _ _ (ne_of (s5 _ _ eB) (s5 _ _ (bB _ _ (ne_of (sF _ _ he) (sF _ _ hd) (by intro z; cases z)) (sF _ _ he))) (by intro z; cases z)) (s5 _ _ eB)) n2
        have ne_g_p3 := ne_of_none (b _ _ (ne_of (s5 _ _ hgB) (s5 _ _ (bB _ _ (ne_of (sF _ _ he) (sF _ _ hd) (by intro z; cases z)) (sF _ _ he))) (by intro z; cases z)) (s5 _ _ hgB)) n2
        have ne_D1_p3 := ne_of_none (b _ _ ne_e_D1.symm hD4) n2
        have ne_e_p3 := ne_of_none e_e n2
        generalize hE : upd H12 p3 _ = H13
        have s6 : Same H12 H13 := hE ▸ same_upd n2
        have e_p3 := (congrFun hE p3).symm.trans upd_same
        clear hE
        refine ⟨_, _, _, rfl, rfl, (s6 _ _ (b _ _ (ne_of (s5 _ _ (bB _ _ (ne_of (sF _ _ ha) (sF _ _ hd) (by intro z; cases z)) (sF _ _ ha))) (s5 _ _ (bB _ _ (ne_of (sF _ _ he) (sF _ _ hd) (by intro z; cases z)) (sF _ _ he))) (by intro z; cases z)) (s5 _ _ (bB _ _ (ne_of (sF _ _ ha) (sF _ _ hd) (by intro z; cases z)) (sF _ _ ha))))), (by exact small_ok (by simp only [cV_len, nV_len, List.length_append, List.length_map, List.length_take, List.length_drop, List.length_range, sL_len, typed_len, lts_len, kvL_len]; omega)), ?_⟩
        generalize hE : upd H13 a _ = H14
        have b1 : But a H13 H14 := hE ▸ but_upd
        have e_a := (congrFun hE a).symm.trans upd_same
        clear hE
        refine ⟨_, rfl, _, _, _, rfl, (b1 _ _ (ne_of (s6 _ _ e_e) (s6 _ _ (b _ _ (ne_of (s5 _ _ (bB _ _ (ne_of (sF _ _ ha) (sF _ _ hd) (by intro z; cases z)) (sF _ _ ha))) (s5 _ _ (bB _ _ (ne_of (sF _ _ he) (sF _ _ hd) (by intro z; cases z)) (sF _ _ he))) (by intro z; cases z)) (s5 _ _ (bB _ _ (ne_of (sF _ _ ha) (sF _ _ hd) (by intro z; cases z)) (sF _ _ ha))))) (by intro z; cases z)) (s6 _ _ e_e)), rfl, ?_⟩
        have hne : ga K "Text" ≠ ga K "KeyReader" := by first | exact T.ne_Text_KeyReader | exact T.ne_KeyReader_Text.symm
        have he3 : H3 e = some (.ins (CRd K) dx (rdF x g d a)) := s5 _ _ (bB _ _ (ne_of (sF _ _ he) (sF _ _ hd) (by intro z; cases z)) (sF _ _ he))
        have ha3 : H3 a = some (.lst (as.map V.ref)) := s5 _ _ (bB _ _ (ne_of (sF _ _ ha) (sF _ _ hd) (by intro z; cases z)) (sF _ _ ha))
        have hd3 := s5 _ _ eB
        have ho3 : ObsAt K H3 as os := ((hos.same sF).but (sF _ _ hd) (by intro xs z; cases z) (by intro o xs z; cases z) bB).same s5
        have rdr12 : RdrAt K H12 e x d a (hearS s lo hi) os := ⟨⟨dx, D1, as, e_e, b _ _ (ne_of hD4 he3 (by intro z; cases z)) hD4, b _ _ (ne_of hd3 he3 (by intro z; cases z)) hd3, b _ _ (ne_of ha3 he3 (by intro z; cases z)) ha3, ho3.but he3 (by intro xs z; cases z) (by intro o xs z; cases z) b, ne_a_D1.symm⟩⟩
        have htup : SqT K H13 p3 (obV (.hear p.toNat p2.toNat)) := by
          refine SqT.of ?_
          rw [e_p3]
          show some (HO.tup [V.str "hear_alike", V.int p, V.int p2]) = some (HO.tup [V.str "hear_alike", V.int (p.toNat : Nat), V.int (p2.toNat : Nat)])
          rw [Int.toNat_of_nonneg h0, Int.toNat_of_nonneg h2]
        have rdr14 := (rdr12.same s6).app2 b1 (s6 _ _ (b _ _ (ne_of ha3 he3 (by intro z; cases z)) ha3)) e_a htup
        have b14 : But3 e d a H H14 := (Same.but3 sF).trans ((But.but3d bB).trans ((Same.but3 s5).trans ((But.but3e b).trans ((Same.but3 s6).trans (But.but3a b1)))))
        refine ⟨e, x, d, a, _, _, rfl, rdr14, by rw [hal2, hlen]; exact hnk, fun H15 s15 => ?_⟩
        exact q1 H15 e1 e2 (b14.trans (Same.but3 s15)) (rdr14.same s15) okH
end
end KL
namespace KL
open PySem PySem.Spec PyProof.Rows L2 Pk He
section
variable {P : Program} {w : World} {K : Fr} {mg : Str → Option Value} {base : Heap} {f : Addr}
theorem scTaken : FnScope ["_law_row", "_law_many", "_law_found", "_law_cell"] ["_law_row", "_law_many"] (defScope sTaken) := ⟨rfl, rfl, rfl, by decide +kernel, rfl, by decide +kernel, by decide +kernel⟩
theorem ok_taken (D : Df K "_law_taken" "_law_taken" sTaken f) (T : Tc w K mg) : Kp P w K mg base 1 f (spTaken K) := by
  refine kp_of D scTaken (fun _ _ _ _ _ _ us hl => match us, hl with | [_, _], _ => rfl) ?_ (fun cdv A outer s H vs Q E hr h => ?_)
  · rintro vs H Q E ⟨r, m, rfl, _⟩
    rfl
  · obtain ⟨r, m, rfl, ⟨scr, ns⟩, ⟨i, seed, held, hrow, hscr, hi, hs0, hs1, hh, hne⟩, hm0, hm1, q⟩ := h
    have at_ : ∀ (H2 : Hp) (a b c : Int), H2 r = some (.lst [.ref scr, .int a, .int b, .int c]) → SqL K H2 r [.ref scr, .int a, .int b, .int c] := fun H2 a b c e => SqL.of e
    refine ⟨_, (pss_cons (ps_if (pt_cmpR op_gt (pe_ix ix_list (pv 0) pe_int (fun _ _ => rfl)) pe_int (nomark _)) (pss_cons (ps_set (i := 2) scTaken.nd rfl (Or.inl rfl) (pe_op op_mod (pk_t1 call_int1 T.int b_int (pe_ix ix_list (pv 0) pe_int (fun _ _ => rfl))) (pv 1))) (pss_cons (ps_asg (pe_op op_fdiv (pe_ix ix_list (pv 0) pe_int (fun _ _ => rfl)) (pv 1)) (pg_sub (pv 0) pe_int set_list)) (pss_one (ps_ret (pv 2))))) pss_nil) (pss_cons (ps_asg (pe_op op_add (pe_ix ix_list (pv 0) pe_int (fun _ _ => rfl)) pe_int) (pg_sub (pv 0) pe_int set_list)) (pss_cons (ps_if (pt_cmpR op_gt (pe_ix ix_list (pv 0) pe_int (fun _ _ => rfl)) (pk_b1 call_len_seq T.len b_len (pe_ix ix_list (pv 0) pe_int (fun _ _ => rfl))) (nomark _)) (pss_cons (ps_asg (pe_op op_mod (pk_t1 call_int1 T.int b_int (pe_op op_add (pe_op op_mul (pe_ix ix_list (pv 0) pe_int (fun _ _ => rfl)) pe_int) pe_int)) pe_int) (pg_sub (pv 0) pe_int set_list)) (pss_one (ps_ret (pe_op op_mod (pk_t1 call_int1 T.int b_int (pe_op op_fdiv (pe_ix ix_list (pv 0) pe_int (fun _ _ => rfl)) pe_int)) (pv 1))))) pss_nil) (pss_cons (ps_set (i := 3) scTaken.nd rfl (Or.inl rfl) (pe_ix ix_list (pe_ix ix_list (pv 0) pe_int (fun _ _ => rfl)) (pe_op op_sub (pe_ix ix_list (pv 0) pe_int (fun _ _ => rfl)) pe_int) (fun _ _ => rfl))) (pss_cons (ps_asg (pe_op op_mod (pk_t1 call_int1 T.int b_int (pe_op op_add (pe_op op_add (pe_op op_mul (pe_ix ix_list (pv 0) pe_int (fun _ _ => rfl)) pe_int) (pv 3)) pe_int)) pe_int) (pg_sub (pv 0) pe_int set_list)) (pss_cons (ps_if (pt_cmpR op_ge (pv 3) (pe_op op_pow pe_int pe_int) (nomark _)) (pss_one (ps_asg (pe_op op_fdiv (pv 3) (pv 1)) (pg_sub (pv 0) pe_int set_list))) pss_nil) (pss_one (ps_ret (pe_op op_mod (pk_t1 call_int1 T.int b_int (pv 3)) (pv 1)))))))))), ?_⟩
    refine ⟨_, rfl, r, _, 3, _, rfl, rfl, SqL.of hrow, rfl, _, _, rfl, rfl, _, rfl, ?_⟩
    refine ite2 (fun h1 => ?_) fun h1 => ?_
    · have h1 : 0 < held := of_decide_eq_true h1
      refine ⟨_, rfl, r, _, 3, _, rfl, rfl, SqL.of hrow, rfl, .inl ⟨_, rfl, _, rfl, _, _, rfl, rfl, hm0, ?_⟩⟩
      refine ⟨_, rfl, r, _, 3, _, rfl, rfl, SqL.of hrow, rfl, _, rfl, _, _, rfl, rfl, ⟨hm0, hm1⟩, _, rfl, r, _, 3, 3, rfl, rfl, hrow, rfl, ?_⟩
      refine ⟨_, rfl, ?_⟩
      refine q _ _ ⟨i, seed, held / m, upd_same, hne _ _ hscr, hi, hs0, hs1, Int.ediv_nonneg hh (Int.le_of_lt hm0), hne⟩ but_upd (Int.emod_nonneg _ (by omega)) (Int.emod_lt_of_pos _ hm0)
    · refine ⟨_, rfl, r, _, 1, _, rfl, rfl, SqL.of hrow, rfl, _, _, rfl, rfl, _, rfl, r, _, 1, 1, rfl, rfl, hrow, rfl, ?_⟩
      have r1 : (upd H r (.lst [.ref scr, .int (i + 1), .int seed, .int held])) r = some (.lst [.ref scr, .int (i + 1), .int seed, .int held]) := upd_same
      have q1 : SqL K (upd H r (.lst [.ref scr, .int (i + 1), .int seed, .int held])) scr (ns.map V.int) := hne _ _ hscr
      have b1 : But r H (upd H r (.lst [.ref scr, .int (i + 1), .int seed, .int held])) := but_upd
      change tSeq _ _ _ _ (upd H r (.lst [.ref scr, .int (i + 1), .int seed, .int held]))
      generalize upd H r (.lst [.ref scr, .int (i + 1), .int seed, .int held]) = H1 at r1 q1 b1
      refine ⟨_, rfl, r, _, 1, _, rfl, rfl, SqL.of r1, rfl, _, rfl, r, _, 0, _, rfl, rfl, SqL.of r1, rfl, scr, _, rfl, .inl q1, _, _, rfl, rfl, _, rfl, ?_⟩
      refine ite2 (fun h2 => ?_) fun h2 => ?_
      · refine ⟨_, rfl, r, _, 2, _, rfl, rfl, SqL.of r1, rfl, _, _, rfl, rfl, .inl ⟨by omega, by omega⟩, _, _, rfl, rfl, .inl ⟨_, rfl, _, _, rfl, rfl, (by show (0 : Int) < 2147483647; decide), _, rfl, r, _, 2, 2, rfl, rfl, r1, rfl, ?_⟩⟩
        have r2 : (upd H1 r (.lst [.ref scr, .int (i + 1), .int ((seed * 48271 + 11) % 2147483647), .int held])) r = some (.lst [.ref scr, .int (i + 1), .int ((seed * 48271 + 11) % 2147483647), .int held]) := upd_same
        have q2 : SqL K (upd H1 r (.lst [.ref scr, .int (i + 1), .int ((seed * 48271 + 11) % 2147483647), .int held])) scr (ns.map V.int) := hne _ _ q1
        have b2 : But r H (upd H1 r (.lst [.ref scr, .int (i + 1), .int ((seed * 48271 + 11) % 2147483647), .int held])) := b1.trans but_upd
        refine ⟨_, rfl, r, _, 2, _, rfl, rfl, SqL.of r2, rfl, _, _, rfl, rfl, ⟨by decide, by decide⟩, .inl ⟨_, rfl, _, rfl, _, _, rfl, rfl, hm0, ?_⟩⟩
        exact q _ _ ⟨i + 1, _, held, r2, q2, by omega, Int.emod_nonneg _ (by decide), Int.emod_lt_of_pos _ (by decide), hh, hne⟩ b2 (Int.emod_nonneg _ (by omega)) (Int.emod_lt_of_pos _ hm0)
      · have h2 : i < (ns.length : Int) := by
          rcases Int.lt_or_le i ns.length with h3 | h3
          · exact h3
          · exact absurd (decide_eq_true (by rw [List.length_map]; omega)) h2
        obtain ⟨c, hc⟩ : ∃ c, ns[i.toNat]? = some c := ⟨ns[i.toNat]'(by omega), List.getElem?_eq_getElem (by omega)⟩
        have hix : atI (ns.map V.int) (i + 1 - 1) = some (.int c) := by
          rw [show i + 1 - 1 = ((i.toNat : Nat) : Int) by omega]
          refine atI_nat ?_
          rw [List.getElem?_map, hc]
          rfl
        refine ⟨_, rfl, r, _, 0, _, rfl, rfl, SqL.of r1, rfl, _, rfl, r, _, 1, _, rfl, rfl, SqL.of r1, rfl, _, _, rfl, rfl, scr, _, _, _, rfl, rfl, q1, hix, ?_⟩
        refine ⟨_, rfl, r, _, 2, _, rfl, rfl, SqL.of r1, rfl, _, _, rfl, rfl, .inl ⟨by omega, by omega⟩, _, rfl, _, _, rfl, rfl, _, _, rfl, rfl, .inl ⟨_, rfl, _, _, rfl, rfl, (by show (0 : Int) < 2147483647; decide), _, rfl, r, _, 2, 2, rfl, rfl, r1, rfl, ?_⟩⟩
        have r2 : (upd H1 r (.lst [.ref scr, .int (i + 1), .int ((seed * 48271 + c + 11) % 2147483647), .int held])) r = some (.lst [.ref scr, .int (i + 1), .int ((seed * 48271 + c + 11) % 2147483647), .int held]) := upd_same
        have q2 : SqL K (upd H1 r (.lst [.ref scr, .int (i + 1), .int ((seed * 48271 + c + 11) % 2147483647), .int held])) scr (ns.map V.int) := hne _ _ q1
        have b2 : But r H (upd H1 r (.lst [.ref scr, .int (i + 1), .int ((seed * 48271 + c + 11) % 2147483647), .int held])) := b1.trans but_upd
        change tSeq _ _ _ _ (upd H1 r (.lst [.ref scr, .int (i + 1), .int ((seed * 48271 + c + 11) % 2147483647), .int held]))
        generalize upd H1 r (.lst [.ref scr, .int (i + 1), .int ((seed * 48271 + c + 11) % 2147483647), .int held]) = H2 at r2 q2 b2
        refine ⟨_, rfl, _, _, rfl, rfl, ⟨by decide, by decide, by decide⟩, _, _, rfl, rfl, _, rfl, ?_⟩
        refine ite2 (fun h3 => ?_) fun h3 => ?_
        · have h3 : (1000000000000000000 : Int) ≤ c := of_decide_eq_true h3
          refine ⟨_, rfl, _, rfl, _, _, rfl, rfl, ⟨hm0, hm1⟩, _, rfl, r, _, 3, 3, rfl, rfl, r2, rfl, ?_⟩
          refine ⟨_, rfl, .inl ⟨_, rfl, _, rfl, _, _, rfl, rfl, hm0, ?_⟩⟩
          exact q _ _ ⟨i + 1, _, c / m, upd_same, hne _ _ q2, by omega, Int.emod_nonneg _ (by decide), Int.emod_lt_of_pos _ (by decide), Int.ediv_nonneg (by omega) (Int.le_of_lt hm0), hne⟩ (b2.trans but_upd) (Int.emod_nonneg _ (by omega)) (Int.emod_lt_of_pos _ hm0)
        · refine ⟨_, rfl, .inl ⟨_, rfl, _, rfl, _, _, rfl, rfl, hm0, ?_⟩⟩
          exact q _ _ ⟨i + 1, _, held, r2, q2, by omega, Int.emod_nonneg _ (by decide), Int.emod_lt_of_pos _ (by decide), hh, hne⟩ b2 (Int.emod_nonneg _ (by omega)) (Int.emod_lt_of_pos _ hm0)
end
end KL
namespace KL
open PySem PySem.Spec PyProof.Rows L2 Pk He
def spWord2 (K : Fr) : Sp := fun vs H Q _ => ∃ (r : Addr) (m : Int), vs = [.ref r, .int m] ∧ ∃ S : Addr × List Int, RowAt K S H r ∧ 1 ≤ m ∧ m ≤ 20 ∧
  ∀ (ls : List Nat) (H2 : Hp), RowAt K S H2 r → But r H H2 → 1 ≤ ls.length → (ls.length : Int) ≤ m → ls.all isLet = true → ls.all isAz = true → Q (.str (sL ls)) H2
/-- the drawn steps stand at a -/
structure Drawn (K : Fr) (H : Hp) (a : Addr) (m c : Nat) (st : List Stp) : Prop where
  tup : ∃ as : List Addr, SqT K H a (as.map V.ref) ∧ StepsAt K H as st
  good : Goes m 0 st
  few : st.length ≤ c
  some_ : 1 ≤ c → 20 ≤ m → st ≠ []
  az : (typed st).all isAz = true
def spSteps (K : Fr) : Sp := fun vs H Q _ => ∃ (r : Addr) (c m : Nat), vs = [.ref r, .int c, .int m] ∧ ∃ S : Addr × List Int, RowAt K S H r ∧ c ≤ 30 ∧ m ≤ 1000000 ∧
  ∀ (a : Addr) (st : List Stp) (H2 : Hp), RowAt K S H2 r → But r H H2 → Drawn K H2 a m c st → Q (.ref a) H2
def spStepsI (K : Fr) : Sp := fun vs H Q _ => ∃ (r : Addr) (c m : Int), vs = [.ref r, .int c, .int m] ∧ ∃ S : Addr × List Int, RowAt K S H r ∧ 1 ≤ c ∧ c ≤ 30 ∧ 20 ≤ m ∧ m ≤ 1000000 ∧
  ∀ (a : Addr) (as : List Addr) (st : List Stp) (H2 : Hp), RowAt K S H2 r → But r H H2 → SqT K H2 a (as.map V.ref) → StepsAt K H2 as st → as.length ≤ 30 → Goes most 0 st → (st.length : Int) ≤ c → (sz st : Int) ≤ m → 0 < sz st → Q (.ref a) H2
def spStepsZ (K : Fr) : Sp := fun vs H Q _ => ∃ (r : Addr) (c m : Int), vs = [.ref r, .int c, .int m] ∧ ∃ S : Addr × List Int, RowAt K S H r ∧ 1 ≤ c ∧ c ≤ 30 ∧ 20 ≤ m ∧ m ≤ 1000000 ∧
  ∀ (a : Addr) (as : List Addr) (st : List Stp) (H2 : Hp), RowAt K S H2 r → But r H H2 → SqT K H2 a (as.map V.ref) → StepsAt K H2 as st → as.length ≤ 30 → Goes most 0 st → (st.length : Int) ≤ c → (sz st : Int) ≤ m → 0 < sz st → (typed st).all isAz = true → Q (.ref a) H2
section
variable {P : Program} {w : World} {K : Fr} {S : Addr × List Int} {mg : Str → Option Value} {base : Heap} {f : Addr} {k : Nat}
theorem scWord : FnScope ["_law_row", "_law_most", "_law_word_here", "_law_k"] ["_law_row", "_law_most"] (defScope sWord) := ⟨rfl, rfl, rfl, by decide +kernel, rfl, by decide +kernel, by decide +kernel⟩
theorem abcz_at {v : Int} (h0 : 0 ≤ v) (h1 : v < 4) : ∃ c, (Str.ofString "abcz").cps[v.toNat]? = some c ∧ isLet c = true ∧ isAz c = true := by
  have h : v = 0 ∨ v = 1 ∨ v = 2 ∨ v = 3 := by omega
  rcases h with rfl | rfl | rfl | rfl
  · exact ⟨97, by decide +kernel, rfl, rfl⟩
  · exact ⟨98, by decide +kernel, rfl, rfl⟩
  · exact ⟨99, by decide +kernel, rfl, rfl⟩
  · exact ⟨122, by decide +kernel, rfl, rfl⟩
theorem ok_word (D : Df K "_law_word" "_law_word" sWord f) (T : Tc w K mg) (GT : Kp P w K mg base 1 (ga K "_law_taken") (spTaken K)) : Kp P w K mg base 2 f (spWord2 K) := by
  refine kp_of D scWord (fun _ _ _ _ _ _ us hl => match us, hl with | [_, _], _ => rfl) ?_ (fun cdv A outer s H vs Q E hr h => ?_)
  · rintro vs H Q E ⟨r, m, rfl, _⟩
    rfl
  · obtain ⟨r, m, rfl, S, hrow, h1, h2, q⟩ := h
    refine ⟨_, (pss_cons (ps_set (i := 2) scWord.nd rfl (Or.inl rfl) pe_str) (pss_cons (ps_for PassesOwn.never rfl (pi_range1 (by rfl) T.rng (pa_cons (pe_op op_add pe_int (pk_call GT (hr.mono (by decide)) T.gTaken (pa_cons (pv 0) (pa_cons (pv 1) pa_nil)))) pa_nil)) (pg_name (i := 3) scWord.nd rfl (Or.inl rfl)) (pss_one (ps_set (i := 2) scWord.nd rfl (Or.inl rfl) (pe_op op_add_str (pv 2) (pe_item_str pe_str (pk_call GT (hr.mono (by decide)) T.gTaken (pa_cons (pv 0) (pa_cons pe_int pa_nil))) (fun _ _ => rfl)))))) (pss_one (ps_ret (pv 2))))), ?_⟩
    refine ⟨_, rfl, _, rfl, r, m, rfl, S, hrow, by omega, by omega, fun v H1 row1 b1 hv0 hv1 => ?_⟩
    refine ⟨_, _, rfl, rfl, 1 + v, rfl, by omega, by omega, ?_⟩
    refine for_range (lo := 0) (fun i σ H2 => ∃ (ls : List Nat) (v3 : Option V), σ = [some (.ref r), some (.int m), some (.str (sL ls)), v3] ∧ ls.length = i ∧ ls.all isLet = true ∧ ls.all isAz = true ∧ RowAt K S H2 r ∧ But r H H2) ⟨[], none, rfl, rfl, rfl, rfl, row1, b1⟩ ?_ ?_
    · rintro i σ H2 hi ⟨ls, v3, rfl, hl, hlet, haz, row2, b2⟩
      refine ⟨_, rfl, _, rfl, r, 4, rfl, S, row2, by decide, by decide, fun z H3 row3 b3 hz0 hz1 => ?_⟩
      obtain ⟨c, hc, hcl, hca⟩ := abcz_at hz0 hz1
      refine ⟨_, _, c, rfl, rfl, hz0, by omega, (by show z < ((Str.ofString "abcz").length : Int); exact hz1), hc, ?_⟩
      refine ⟨sL ls, ⟨#[c]⟩, rfl, rfl, ?_, ?_⟩
      · rw [sL_len, hl]
        exact Nat.le_trans (show i + 1 ≤ 100 by omega) (by decide)
      · refine ⟨ls ++ [c], some (.int (0 + (i : Int))), ?_, by simp [hl], by rw [List.all_append, hlet]; simp [hcl], by rw [List.all_append, haz]; simp [hca], row3, b2.trans b3⟩
        show ([some (.ref r), some (.int m), some (.str (sL ls ++ sL [c])), some (.int (0 + (i : Int)))] : L2.St) = _
        rw [sL_app]
    · rintro σ H2 ⟨ls, v3, rfl, hl, hlet, haz, row2, b2⟩
      exact ⟨_, rfl, q ls H2 row2 b2 (by omega) (by omega) hlet haz⟩
/-- size == 0 or a draw is 0 -/
theorem size_or {σ : L2.St} {H : Hp} {r : Addr} {z : Int} {Q : Bool → Hp → Prop} (h4 : σ[4]? = some (some (.int z))) (h0 : σ[0]? = some (some (.ref r))) (hrow : RowAt K S H r) (q1 : ∀ H3, RowAt K S H3 r → But r H H3 → Q true H3) (q2 : z ≠ 0 → ∀ H3, RowAt K S H3 r → But r H H3 → Q false H3) :
    tOr (tTest (tOp rEq (tVar 4) (tC (.int 0)))) (tTest (tOp rEq (tCl (spTaken K) (tCons (tVar 0) (tCons (tC (.int 3)) tNil))) (tC (.int 0)))) σ H Q := by
  refine ⟨_, h4, rfl, _, rfl, ?_⟩
  by_cases hz : z = 0
  · rw [decide_eq_true (by rw [hz])]
    exact iteT (q1 H hrow (But.refl _ _))
  · rw [decide_eq_false (fun e => hz (by injection e))]
    refine iteF ?_
    refine ⟨_, h0, r, 3, rfl, S, hrow, by decide, by decide, fun v H3 row3 b3 hv0 hv1 => ⟨rfl, _, rfl, ?_⟩⟩
    by_cases hv : v = 0
    · rw [decide_eq_true (by rw [hv])]
      exact q1 H3 row3 b3
    · rw [decide_eq_false (fun e => hv (by injection e))]
      exact q2 hz H3 row3 b3
theorem scSteps : FnScope ["_law_row", "_law_count", "_law_most", "_law_steps_here", "_law_size", "_law_k", "_law_word_here", "_law_first", "_law_last", "_law_times"] ["_law_row", "_law_count", "_law_most"] (defScope sSteps) := ⟨rfl, rfl, rfl, by decide +kernel, rfl, by decide +kernel, by decide +kernel⟩
theorem three_at {a b c v : Int} (h0 : 0 ≤ v) (h1 : v < 3) : ∃ x : Int, atI [V.int a, V.int b, V.int c] v = some (.int x) ∧ (x = a ∨ x = b ∨ x = c) := by
  have h : v = 0 ∨ v = 1 ∨ v = 2 := by omega
  rcases h with rfl | rfl | rfl
  · exact ⟨a, rfl, .inl rfl⟩
  · exact ⟨b, rfl, .inr (.inl rfl)⟩
  · exact ⟨c, rfl, .inr (.inr rfl)⟩
theorem two_at {a b v : Int} (h0 : 0 ≤ v) (h1 : v < 2) : ∃ x : Int, atI [V.int a, V.int b] v = some (.int x) ∧ (x = a ∨ x = b) := by
  have h : v = 0 ∨ v = 1 := by omega
  rcases h with rfl | rfl
  · exact ⟨a, rfl, .inl rfl⟩
  · exact ⟨b, rfl, .inr rfl⟩
theorem ok_steps (D : Df K "_law_steps" "_law_steps" sSteps f) (T : Tc w K mg) (GT : Kp P w K mg base 1 (ga K "_law_taken") (spTaken K)) (GWd : Kp P w K mg base 2 (ga K "_law_word") (spWord2 K)) : Kp P w K mg base 3 f (spSteps K) := by
  refine kp_of D scSteps (fun _ _ _ _ _ _ us hl => match us, hl with | [_, _, _], _ => rfl) ?_ (fun cdv A outer s H vs Q E hr h => ?_)
  · rintro vs H Q E ⟨r, c, m, rfl, _⟩
    rfl
  · obtain ⟨r, c, m, rfl, S, hrow, hc, hm, q⟩ := h
    refine ⟨_, (pss_cons (ps_par (i := 3) (j := 4) rfl scSteps.nd rfl rfl (by decide) rfl rfl (pa_cons (pe_lst pa_nil) (pa_cons pe_int pa_nil)) (by rfl)) (pss_cons (ps_for PassesOwn.never rfl (pi_range1 (by rfl) T.rng (pa_cons (pv 1) pa_nil)) (pg_name (i := 5) scSteps.nd rfl (Or.inl rfl)) (pss_one (ps_if (pw_or (pt_cmpR op_eq (pv 4) pe_int (nomark _)) (pw_or1 (pt_cmpR op_eq (pk_call GT (hr.mono (by decide)) T.gTaken (pa_cons (pv 0) (pa_cons pe_int pa_nil))) pe_int (nomark _)))).pt (pss_cons (ps_set (i := 6) scSteps.nd rfl (Or.inl rfl) (pk_call GWd (hr.mono (by decide)) T.gWord (pa_cons (pv 0) (pa_cons (pe_ix ix_list (pe_lst (pa_cons pe_int (pa_cons pe_int (pa_cons pe_int pa_nil)))) (pk_call GT (hr.mono (by decide)) T.gTaken (pa_cons (pv 0) (pa_cons pe_int pa_nil))) (fun _ _ => rfl)) pa_nil)))) (pss_one (ps_if (pt_cmpR op_le (pe_op op_add (pv 4) (pk_b1 call_len_str T.len b_len (pv 6))) (pv 2) (nomark _)) (pss_one (ps_par (i := 3) (j := 4) rfl scSteps.nd rfl rfl (by decide) rfl rfl (pa_cons (pe_op op_cat (pv 3) (pe_lst (pa_cons (pe_tup (pa_cons pe_str (pa_cons (pv 6) pa_nil))) pa_nil))) (pa_cons (pe_op op_add (pv 4) (pk_b1 call_len_str T.len b_len (pv 6))) pa_nil)) (by rfl))) pss_nil))) (pss_cons (ps_set (i := 7) scSteps.nd rfl (Or.inl rfl) (pk_call GT (hr.mono (by decide)) T.gTaken (pa_cons (pv 0) (pa_cons (pv 4) pa_nil)))) (pss_cons (ps_set (i := 8) scSteps.nd rfl (Or.inl rfl) (pe_op op_add (pv 7) (pk_call GT (hr.mono (by decide)) T.gTaken (pa_cons (pv 0) (pa_cons (pe_ix ix_list (pe_lst (pa_cons (pe_op op_sub (pv 4) (pv 7)) (pa_cons (pe_callB (call_min2 rfl) (by rfl) T.min b_min (pa_cons pe_int (pa_cons (pe_op op_sub (pv 4) (pv 7)) pa_nil))) pa_nil))) (pk_call GT (hr.mono (by decide)) T.gTaken (pa_cons (pv 0) (pa_cons pe_int pa_nil))) (fun _ _ => rfl)) pa_nil))))) (pss_cons (ps_set (i := 9) scSteps.nd rfl (Or.inl rfl) (pe_op op_add pe_int (pk_call GT (hr.mono (by decide)) T.gTaken (pa_cons (pv 0) (pa_cons (pe_ix ix_list (pe_lst (pa_cons pe_int (pa_cons pe_int (pa_cons pe_int pa_nil)))) (pk_call GT (hr.mono (by decide)) T.gTaken (pa_cons (pv 0) (pa_cons pe_int pa_nil))) (fun _ _ => rfl)) pa_nil))))) (pss_one (ps_if (pt_cmpR op_le (pe_op op_add (pv 4) (pe_op op_mul (pe_op op_add (pe_op op_sub (pv 8) (pv 7)) pe_int) (pv 9))) (pv 2) (nomark _)) (pss_one (ps_par (i := 3) (j := 4) rfl scSteps.nd rfl rfl (by decide) rfl rfl (pa_cons (pe_op op_cat (pv 3) (pe_lst (pa_cons (pe_tup (pa_cons pe_str (pa_cons (pv 7) (pa_cons (pv 8) (pa_cons (pv 9) pa_nil))))) pa_nil))) (pa_cons (pe_op op_add (pv 4) (pe_op op_mul (pe_op op_add (pe_op op_sub (pv 8) (pv 7)) pe_int) (pv 9))) pa_nil)) (by rfl))) pss_nil)))))))) (pss_one (ps_ret (pk_t1 call_tuple_of T.tup b_tuple (pv 3)))))), ?_⟩
    refine ⟨Nat.zero_le _, fun L hL => ⟨_, _, rfl, ?_⟩⟩
    have nLr := row_ne hrow hL
    refine ⟨_, rfl, (c : Int), rfl, by omega, by omega, ?_⟩
    refine for_range (lo := 0) (fun i σ H2 => ∃ (L : Addr) (as : List Addr) (st : List Stp) (v5 v6 v7 v8 v9 : Option V), σ = [some (.ref r), some (.int c), some (.int m), some (.ref L), some (.int (sz st : Nat)), v5, v6, v7, v8, v9] ∧
      RowAt K S H2 r ∧ But r H H2 ∧ H2 L = some (.lst (as.map V.ref)) ∧ L ≠ r ∧ StepsAt K H2 as st ∧ Goes m 0 st ∧ st.length ≤ i ∧ (1 ≤ i → 20 ≤ m → st ≠ []) ∧ (typed st).all isAz = true)
      ⟨L, [], [], none, none, none, none, none, rfl, hrow.upd hL, (Same.but (same_upd hL)), upd_same, nLr, StepsAt.nil, trivial, Nat.le_refl _, fun h => absurd h (by decide), rfl⟩ ?_ ?_
    · rintro i σ H2 hi ⟨L, as, st, v5, v6, v7, v8, v9, rfl, row2, b2, hL2, nLr, hst, good, hlen, hne, haz⟩
      have hi30 : i < c := hi
      have hszm : sz st ≤ m := by
        rcases Decidable.em (st = []) with e | e
        · rw [e]
          exact Nat.zero_le _
        · have := goes_sz good e
          omega
      refine size_or rfl rfl row2 (fun H3 row3 b3 => ?_) (fun hz H3 row3 b3 => ?_)
      · refine iteT ?_
        refine ⟨_, rfl, (by show 3 ≤ sizeLine; decide), fun p hp => ?_⟩
        have npr := row_ne row3 hp
        refine ⟨_, rfl, r, 3, rfl, S, row3.upd hp, by decide, by decide, fun v H4 row4 b4 hv0 hv1 => ?_⟩
        obtain ⟨x, hx, hx2⟩ := three_at (a := 2) (b := 5) (c := 20) hv0 hv1
        refine ⟨p, _, v, _, rfl, rfl, SqL.of (b4 _ _ npr upd_same), hx, r, x, rfl, S, row4, by omega, by omega, fun ls H5 row5 b5 hl1 hl2 hlet hlaz => ?_⟩
        have b25 : But r H2 H5 := b3.trans ((Same.but (same_upd hp)).trans (b4.trans b5))
        have hL5 := b25 _ _ nLr hL2
        have hst5 : StepsAt K H5 as st := steps_row row2 b25 hst
        have hls : (sL ls).length ≤ sizeLine := by
          rw [sL_len]
          exact Nat.le_trans (show ls.length ≤ 20 by omega) (by decide)
        refine ⟨_, rfl, _, rfl, _, rfl, hls, _, _, rfl, rfl, _, rfl, _, _, rfl, rfl, _, rfl, ?_⟩
        refine ite2 (fun h1 => ?_) fun h1 => ?_
        · have h1 := of_decide_eq_true h1
          rw [sL_len] at h1
          refine ⟨_, rfl, _, rfl, (by show 2 ≤ sizeLine; decide), fun t ht => ⟨(by show 1 ≤ sizeLine; decide), fun l hl => ?_⟩⟩
          have s6 : Same H5 (upd (upd H5 t (.tup [.str "write", .str (sL ls)])) l (.lst [.ref t])) := (same_upd ht).trans (same_upd hl)
          have nlt : t ≠ l := fun e => by
            rw [← e, upd_same] at hl
            cases hl
          have htt : (upd (upd H5 t (.tup [.str "write", .str (sL ls)])) l (.lst [.ref t])) t = some (.tup [.str "write", .str (sL ls)]) := by
            rw [upd_ne nlt, upd_same]
          refine ⟨L, l, _, _, rfl, rfl, s6 _ _ hL5, upd_same, ?_, fun M2 hL6 => ?_⟩
          · rw [List.length_map, hst.len]
            exact Nat.le_trans (show st.length + 1 ≤ 100 by omega) (by decide)
          · have s7 := s6.trans (same_upd (o := .lst (as.map V.ref ++ [.ref t])) hL6)
            refine ⟨_, rfl, _, rfl, _, rfl, hls, _, _, rfl, rfl, _, _, rfl, ?_⟩
            refine ⟨M2, as ++ [t], st ++ [.wr ls], some (.int (0 + (i : Int))), some (.str (sL ls)), v7, v8, v9, ?_, row5.same s7, (b2.trans b25).trans (Same.but s7), by rw [upd_same, List.map_append]; rfl, row_ne (row5.same s6) hL6, (hst5.same s7).snoc ?_, ?_, by simp; omega, fun _ _ => by simp, by rw [typed_app, List.all_append, haz]; show (true && (ls ++ []).all isAz) = true; rw [List.append_nil, hlaz]; rfl⟩
            · show ([some (.ref r), some (.int c), some (.int m), some (.ref M2), some (.int ((sz st : Int) + ((sL ls).length : Int))), some (.int (0 + (i : Int))), some (.str (sL ls)), v7, v8, v9] : L2.St) = [some (.ref r), some (.int c), some (.int m), some (.ref M2), some (.int (sz (st ++ [.wr ls]) : Nat)), _, _, _, _, _]
              rw [sL_len, sz_app, ← Int.natCast_add]
              rfl
            · exact .inl (.inl (same_upd hL6 _ _ htt))
            · refine goes_app.mpr ⟨good, ?_, ?_, trivial⟩
              · simp only [Stp.ok, Bool.and_eq_true, decide_eq_true_eq]
                exact ⟨⟨hl1, by omega⟩, hlet⟩
              · show 0 + sz st + ls.length ≤ m
                omega
        · refine ⟨L, as, st, _, _, _, _, _, rfl, row5, b2.trans b25, hL5, nLr, hst5, good, by omega, fun _ h20 => ?_, haz⟩
          intro e
          subst e
          refine h1 (decide_eq_true ?_)
          rw [sL_len]
          show ((0 : Nat) : Int) + (ls.length : Int) ≤ (m : Int)
          omega
      · refine iteF ?_
        have hz0 : 0 < sz st := by omega
        refine ⟨_, rfl, _, rfl, r, (sz st : Int), rfl, S, row3, by omega, by omega, fun v H4 row4 b4 hv0 hv1 => ?_⟩
        obtain ⟨fN, rfl⟩ := Int.eq_ofNat_of_zero_le hv0
        refine ⟨_, rfl, _, rfl, _, rfl, _, rfl, _, _, rfl, rfl, _, rfl, _, rfl, _, _, rfl, rfl, _, _, rfl, (by show 2 ≤ sizeLine; decide), fun p hp => ?_⟩
        have npr := row_ne row4 hp
        refine ⟨_, rfl, r, 2, rfl, S, row4.upd hp, by decide, by decide, fun v2 H5 row5 b5 hw0 hw1 => ?_⟩
        obtain ⟨x, hx, hx2⟩ := two_at (a := (sz st : Int) - fN) (b := if (sz st : Int) - fN < 4 then (sz st : Int) - fN else 4) hw0 hw1
        have hx3 : 1 ≤ x ∧ x ≤ (sz st : Int) - fN := by
          rcases hx2 with e | e
          · omega
          · rw [e]
            split <;> omega
        refine ⟨p, _, v2, _, rfl, rfl, SqL.of (b5 _ _ npr upd_same), hx, r, x, rfl, S, row5, by omega, by omega, fun v3 H6 row6 b6 hu0 hu1 => ?_⟩
        obtain ⟨dN, rfl⟩ := Int.eq_ofNat_of_zero_le hu0
        refine ⟨_, _, rfl, rfl, ?_⟩
        refine ⟨_, rfl, (by show 3 ≤ sizeLine; decide), fun p2 hp2 => ?_⟩
        have npr2 := row_ne row6 hp2
        refine ⟨_, rfl, r, 3, rfl, S, row6.upd hp2, by decide, by decide, fun v4 H7 row7 b7 hy0 hy1 => ?_⟩
        obtain ⟨y, hy, hy2⟩ := three_at (a := 1) (b := 3) (c := 9) hy0 hy1
        refine ⟨p2, _, v4, _, rfl, rfl, SqL.of (b7 _ _ npr2 upd_same), hy, r, y, rfl, S, row7, by omega, by omega, fun v5 H8 row8 b8 ht0 ht1 => ?_⟩
        obtain ⟨tN, rfl⟩ := Int.eq_ofNat_of_zero_le ht0
        have b28 : But r H2 H8 := b3.trans (b4.trans ((Same.but (same_upd hp)).trans (b5.trans (b6.trans ((Same.but (same_upd hp2)).trans (b7.trans b8))))))
        have hL8 := b28 _ _ nLr hL2
        have hst8 : StepsAt K H8 as st := steps_row row2 b28 hst
        refine ⟨_, _, rfl, rfl, ?_⟩
        have ew : ((fN : Int) + (dN : Int) - (fN : Int) + 1) * (1 + (tN : Int)) = (((fN + dN + 1 - fN) * (1 + tN) : Nat) : Int) := by
          rw [show ((fN : Int) + (dN : Int) - (fN : Int) + 1) = ((fN + dN + 1 - fN : Nat) : Int) by omega, show (1 + (tN : Int)) = ((1 + tN : Nat) : Int) by omega, ← Int.natCast_mul]
        refine ⟨_, rfl, _, rfl, _, rfl, _, _, rfl, rfl, _, _, rfl, rfl, _, rfl, _, _, rfl, rfl, .inr ⟨by omega, by omega⟩, _, _, rfl, rfl, _, rfl, _, _, rfl, rfl, _, rfl, ?_⟩
        refine ite2 (fun h1 => ?_) fun h1 => ?_
        · have h1 := of_decide_eq_true h1
          have h1 : (sz st : Int) + ((fN : Int) + (dN : Int) - (fN : Int) + 1) * (1 + (tN : Int)) ≤ (m : Int) := h1
          rw [ew] at h1
          refine ⟨_, rfl, _, rfl, _, rfl, _, rfl, (by show 4 ≤ sizeLine; decide), fun t ht => ⟨(by show 1 ≤ sizeLine; decide), fun l hl => ?_⟩⟩
          have nlt : t ≠ l := fun e => by
            rw [← e, upd_same] at hl
            cases hl
          have s9 := (same_upd ht).trans (same_upd (o := .lst [.ref t]) hl)
          refine ⟨L, l, _, _, rfl, rfl, s9 _ _ hL8, upd_same, ?_, fun M2 hM => ?_⟩
          · rw [List.length_map, hst.len]
            exact Nat.le_trans (show st.length + 1 ≤ 100 by omega) (by decide)
          · have s10 := s9.trans (same_upd (o := .lst (as.map V.ref ++ [.ref t])) hM)
            refine ⟨_, rfl, _, rfl, _, rfl, _, _, rfl, rfl, _, _, rfl, rfl, _, rfl, _, _, rfl, rfl, .inr ⟨by omega, by omega⟩, _, _, rfl, rfl, _, _, rfl, ?_⟩
            refine ⟨M2, as ++ [t], st ++ [.pa fN (fN + dN) (1 + tN)], some (.int (0 + (i : Int))), v6, some (.int fN), some (.int ((fN : Int) + dN)), some (.int (1 + (tN : Int))), ?_, row8.same s10, (b2.trans b28).trans (Same.but s10), by rw [upd_same, List.map_append]; rfl, row_ne (row8.same s9) hM, (hst8.same s10).snoc ?_, ?_, by simp; omega, fun _ _ => by simp, by rw [typed_app, List.all_append, haz]; rfl⟩
            · show ([some (.ref r), some (.int c), some (.int m), some (.ref M2), some (.int ((sz st : Int) + ((fN : Int) + (dN : Int) - (fN : Int) + 1) * (1 + (tN : Int)))), _, _, _, _, _] : L2.St) = [some (.ref r), some (.int c), some (.int m), some (.ref M2), some (.int (sz (st ++ [.pa fN (fN + dN) (1 + tN)]) : Nat)), _, _, _, _, _]
              rw [ew, sz_app, ← Int.natCast_add]
              rfl
            · refine .inl (.inl (same_upd hM _ _ ?_))
              rw [upd_ne nlt, upd_same]
              rfl
            · refine goes_app.mpr ⟨good, ?_, ?_, trivial⟩
              · simp only [Stp.ok, Bool.and_eq_true, decide_eq_true_eq]
                omega
              · show 0 + sz st + (fN + dN + 1 - fN) * (1 + tN) ≤ m
                omega
        · refine ⟨L, as, st, some (.int (0 + (i : Int))), v6, some (.int fN), some (.int ((fN : Int) + dN)), some (.int (1 + (tN : Int))), rfl, row8, b2.trans b28, hL8, nLr, hst8, good, by omega, fun _ _ e => ?_, haz⟩
          rw [e] at hz0
          exact absurd hz0 (Nat.lt_irrefl _)
    · rintro σ H2 ⟨L, as, st, v5, v6, v7, v8, v9, rfl, row2, b2, hL2, nLr, hst, good, hlen, hne, haz⟩
      refine ⟨_, rfl, L, _, rfl, .inl ⟨SqL.of hL2, fun p hp => ?_⟩⟩
      exact q p st _ (row2.upd hp) (b2.trans (Same.but (same_upd hp))) ⟨⟨as, .inl (.inl upd_same), hst.same (same_upd hp)⟩, good, hlen, hne, haz⟩
theorem stepsI (G : Kp P w K mg base k f (spSteps K)) : Kp P w K mg base k f (spStepsI K) := by
  refine Kp.sub G fun vs H Q E h => ?_
  obtain ⟨r, c, m, rfl, S, row, h1, h2, h3, h4, q⟩ := h
  refine ⟨r, c.toNat, m.toNat, by rw [Int.toNat_of_nonneg (by omega), Int.toNat_of_nonneg (by omega)], S, row, by omega, by omega, fun a st H2 row2 b2 d => ?_⟩
  obtain ⟨⟨as, ht, hst⟩, good, few, some_⟩ := d
  have hne := some_ (by omega) (by omega)
  have hmo : m.toNat ≤ most := by
    have hmost : most = 1000000000000000000 := rfl
    omega
  have g2 := goes_mono hmo good
  have hz := goes_sz good hne
  rw [Nat.zero_add] at hz
  exact q a as st H2 row2 b2 ht hst (by rw [hst.len]; omega) g2 (by omega) (by omega) (sz_pos g2 hne)
theorem stepsZ (G : Kp P w K mg base k f (spSteps K)) : Kp P w K mg base k f (spStepsZ K) := by
  refine Kp.sub G fun vs H Q E h => ?_
  obtain ⟨r, c, m, rfl, S, row, h1, h2, h3, h4, q⟩ := h
  refine ⟨r, c.toNat, m.toNat, by rw [Int.toNat_of_nonneg (by omega), Int.toNat_of_nonneg (by omega)], S, row, by omega, by omega, fun a st H2 row2 b2 d => ?_⟩
  obtain ⟨⟨as, ht, hst⟩, good, few, some_, haz⟩ := d
  have hne := some_ (by omega) (by omega)
  have hmo : m.toNat ≤ most := by
    have hmost : most = 1000000000000000000 := rfl
    omega
  have g2 := goes_mono hmo good
  have hz := goes_sz good hne
  rw [Nat.zero_add] at hz
  exact q a as st H2 row2 b2 ht hst (by rw [hst.len]; omega) g2 (by omega) (by omega) (sz_pos g2 hne) haz
end
end KL
namespace KL
open PySem PySem.Spec PyProof.Rows L2 Pk He
def spCheckRange (K : Fr) : Sp := fun vs H Q _ => ∃ (x : Addr) (a b : Int) (st : List Stp), vs = [.ref x, .int a, .int b] ∧ TA_ K H x st ∧ 0 ≤ a ∧ a ≤ b + 1 ∧ b < (sz st : Nat) ∧ Q .non H
section
variable {P : Program} {w : World} {K : Fr} {mg : Str → Option Value} {base : Heap} {f : Addr}
theorem ok_check_range (D : Df K "_check_range" "_check_range" sCheckRange (ga K "_check_range")) (T : Tc w K mg) (G_is_number : Kp P w K mg base 1 (ga K "is_number") spIsNumber) (G_Text_size : Kp P w K mg base 1 (pgA K (CT K) "size") (spSize K)) : Kp P w K mg base 3 (ga K "_check_range") (spCheckRange K) := by
  refine kp_of D sc_check_range (fun _ _ _ _ _ _ us hl => match us, hl with | [_, _, _], _ => rfl) ?_ (fun cdv A outer s H vs Q E hr h => ?_)
  · rintro vs H Q E ⟨x, a, b, st, rfl, _⟩
    rfl
  · obtain ⟨x, a, b, st, rfl, t, h0, h1, h2, q⟩ := h
    obtain ⟨dx, ts, sp, as, ss, hx, _⟩ := t.obj
    have e1 : isNum (.int a) 0 (sz st : Nat) = true := by
      show (decide ((0 : Int) ≤ a) && decide (a ≤ (sz st : Nat))) = true
      rw [decide_eq_true (by omega), decide_eq_true (by omega)]
      rfl
    have e2 : isNum (.int b) (a - 1) ((sz st : Int) - 1) = true := by
      show (decide (a - 1 ≤ b) && decide (b ≤ (sz st : Int) - 1)) = true
      rw [decide_eq_true (by omega), decide_eq_true (by omega)]
      rfl
    refine ⟨_, (pss_one (ps_if (pw_or (pt_not (pt_val (pk_call G_is_number (hr.mono (by omega)) T.gIsNumber (pa_cons (pv 1) (pa_cons pe_int (pa_cons (pk_prop (pv 0) T.clT T.pSize G_Text_size (hr.mono (by omega))) pa_nil)))))) (pw_or1 (pt_not (pt_val (pk_call G_is_number (hr.mono (by omega)) T.gIsNumber (pa_cons (pv 2) (pa_cons (pe_op op_sub (pv 1) pe_int) (pa_cons (pe_op op_sub (pk_prop (pv 0) T.clT T.pSize G_Text_size (hr.mono (by omega))) pe_int) pa_nil)))))))).pt pss_never pss_nil)), ?_⟩
    refine ⟨_, rfl, _, rfl, _, _, _, rfl, hx, _, _, rfl, t, _, _, _, rfl, rfl, _, rfl, ?_⟩
    refine iF (nF e1) ?_
    refine ⟨_, rfl, _, rfl, _, _, rfl, rfl, _, rfl, _, _, _, rfl, hx, _, _, rfl, t, _, _, rfl, rfl, _, _, _, rfl, rfl, _, rfl, ?_⟩
    refine iF (nF e2) ?_
    exact q
end
end KL
namespace KL
open PySem PySem.Spec PyProof.Rows L2 Pk He
def spBetween (K : Fr) : Sp := fun vs H Q _ => ∃ (x : Addr) (a b : Int) (st : List Stp), vs = [.ref x, .int a, .int b] ∧ TA_ K H x st ∧ 0 ≤ a ∧ a ≤ b + 1 ∧ b < (sz st : Nat) ∧ b - a + 1 ≤ 1000 ∧
  ∀ H2, Same H H2 → Q (.str (sL (((lts st).take (b + 1).toNat).drop a.toNat))) H2
theorem map_signs (l : List Nat) (a n : Nat) (h : a + n ≤ l.length) : (List.range n).map (fun i => V.str (sL [l.getD (a + i) 0])) = ((((l.take (a + n)).drop a).map fun c => sL [c]).map V.str) := by
  refine List.ext_getElem (by simp; omega) fun i h1 h2 => ?_
  simp only [List.length_map, List.length_range] at h1
  simp [List.getD_eq_getElem?_getD, List.getElem?_eq_getElem (show a + i < l.length by omega)]
section
variable {P : Program} {w : World} {K : Fr} {mg : Str → Option Value} {base : Heap} {f : Addr}
-- hint: text[place] => own
theorem ok_letters_between (D : Df K "letters_between" "letters_between" s_letters_between (ga K "letters_between")) (T : Tc w K mg) (G_check_range : Kp P w K mg base 3 (ga K "_check_range") (spCheckRange K)) (G_Text_getitem : Kp P w K mg base 3 (ma K (CT K) "__getitem__") (spGet K)) : Kp P w K mg base 5 (ga K "letters_between") (spBetween K) := by
  have G_Text_getitem := getI G_Text_getitem
  refine kp_of D sc_letters_between (fun _ _ _ _ _ _ us hl => match us, hl with | [_, _, _], _ => rfl) ?_ (fun cdv A outer s H vs Q E hr h => ?_)
  · rintro vs H Q E ⟨x, a, b, st, rfl, _⟩
    rfl
  · obtain ⟨x, a0, b0, st, rfl, t, h0, h1, h2, h3, q⟩ := h
    obtain ⟨a, rfl⟩ := Int.eq_ofNat_of_zero_le h0
    obtain ⟨e, rfl⟩ : ∃ e : Nat, b0 = (e : Int) - 1 := ⟨(b0 + 1).toNat, by omega⟩
    obtain ⟨dx, ts, sp, as, ss, hx, hts, has, hsp, hss⟩ := t.obj
    rw [show ((e : Int) - 1 + 1).toNat = e by omega, show (a : Int).toNat = a by omega] at q
    have hszm := sz_most t.good
    have hmost : most = 1000000000000000000 := rfl
    refine ⟨_, (pss_cons (ps_expr (pk_call G_check_range (hr.mono (by omega)) T.gCheckRange (pa_cons (pv 0) (pa_cons (pv 1) (pa_cons (pv 2) pa_nil))))) (pss_cons (ps_if (pt_cmpR op_gt (pe_op (addA K) (pe_op op_sub (pv 2) (pv 1)) pe_int) (pe_gIx T.c_MOST_LETTERS) (nomark _)) pss_never pss_nil) (pss_one (ps_ret (pe_joinK K pe_str (pe_lc (own := [("place", 3)]) (g := gName 3) (tt := tYes) rfl sc_letters_between.nd (pi_range2 (by rfl) T.rng (pa_cons (pv 1) (pa_cons (pe_op (addA K) (pv 2) pe_int) pa_nil))) (blkOk_by (N := ["text", "first", "last", "place"]) (sc := defScope s_letters_between) (by decide +kernel)) (fun _ _ _ _ _ => (pg_name (i := 3) sc_letters_between.nd rfl (Or.inl rfl))) (fun _ _ _ _ _ => pts_nil) (fun _ _ _ _ _ => (pe_getO T.oGet G_Text_getitem.fnR (hr.mono (by omega)) pass0 (pv 0) (pv 3))))))))), ?_⟩
    refine ⟨_, rfl, _, rfl, _, rfl, _, _, _, _, rfl, t, (by omega), (by omega), (by omega), _, rfl, _, rfl, _, _, rfl, rfl, (.inl ⟨_, _, rfl, rfl, _, _, rfl, rfl, _, rfl, ?_⟩)⟩
    refine iF (dF (by omega)) ?_
    refine ⟨⟨_, rfl⟩, _, rfl, _, rfl, (.inl ⟨_, _, rfl, rfl, _, _, rfl, ⟨(by omega), ⟨(by omega), ⟨(by omega), (by omega)⟩⟩⟩, fun D1 n => ?_⟩)⟩
    have ne_x_D1 := ne_of_none hx n
    have en : ((e : Int) - 1 + 1 - (a : Int)).toNat = e - a := by omega
    rw [en]
    have hle := lts_len st
    have hel := ex_len _ t.good
    refine lc_map (walk_range (lo := (a : Int)) (n := e - a)) n (fun i => V.str (sL [(lts st).getD (a + i) 0])) (small_ok (by omega)) (fun _ _ => trivial) ?_ ?_
    · rintro i v H2 H3 N hi s2 ⟨rfl, rfl⟩ hN
      refine ⟨rfl, _, rfl, _, rfl, _, _, _, rfl, (s2 _ _ hx), _, _, _, rfl, (TextAt.same t s2), (by omega), (by omega), fun k c H2 s1 e1 e2 => ?_⟩
      have hlt_k := ex_lt _ _ (List.mem_of_getElem? e1)
      refine qStr (hN _ s1) ?_
      rw [show ((a : Int) + (i : Int)).toNat = a + i by omega] at e1
      have eg : (lts st).getD (a + i) 0 = c := by rw [List.getD_eq_getElem?_getD, lts_at e1, ltr_at e2]; rfl
      rw [eg]
    · intro H2 s2 hD2
      rw [map_signs _ _ _ (by omega), show a + (e - a) = e by omega] at hD2
      refine ⟨_, _, _, rfl, rfl, (.inl (SqL.of hD2)), ?_, ?_⟩
      rotate_left 1
      refine qStr (q _ s2) ?_
      · rw [join_one]
      · rw [sum_one, List.length_map]
        show _ + _ * 0 ≤ _
        rw [List.length_drop, List.length_take]
        omega
end
end KL
namespace KL
open PySem PySem.Spec PyProof.Rows L2 Pk He
/-- what is known is true -/
structure Tru (st : List Stp) (s : RS) : Prop where
  gr : ∀ k, k < nk st → ltr st k = ltr st (s.rg k)
  lt : ∀ g d, s.lt.lookup g = some d → d = ltr st g
theorem Tru.le {st : List Stp} {s : RS} (h : Tru st s) {k d : Nat} (hk : k < nk st) (e : s.le k = some d) : d = ltr st k := (h.lt _ _ e).trans (h.gr k hk).symm
theorem tru0 (st : List Stp) : Tru st (rs0 (nk st)) := ⟨fun k hk => by rw [rg_rs0 hk], fun g d h => by cases h⟩
theorem Tru.lrn1 {st : List Stp} {s : RS} (h : Tru st s) (g : Nat) : Tru st ⟨s.gs, lrn1 s.lt (g, ltr st g)⟩ := ⟨h.gr, fun x d e => by
  have e2 : (Pk.lrn1 s.lt (g, ltr st g)).lookup x = some d := e
  rw [lrn1_at] at e2
  cases e3 : s.lt.lookup x with
  | some d2 => rw [e3] at e2; cases e2; exact h.lt _ _ e3
  | none =>
    rw [e3] at e2
    by_cases z : x = g
    · subst z
      simp at e2
      exact e2.symm
    · simp [z] at e2⟩
theorem Tru.learn {st : List Stp} : ∀ (ps : List (Nat × Nat)) {s : RS}, Tru st s → (∀ p ∈ ps, p.2 = ltr st p.1) → Tru st ⟨s.gs, learnS s.lt ps⟩ ∧ LearnOk s.lt ps
  | [], s, h, _ => ⟨h, fun i g c d hi => by simp at hi⟩
  | p :: ps, s, h, hp => by
    obtain ⟨g, c⟩ := p
    have hc : c = ltr st g := hp _ List.mem_cons_self
    subst hc
    obtain ⟨h1, h2⟩ := Tru.learn ps (h.lrn1 g) fun q hq => hp q (List.mem_cons_of_mem _ hq)
    refine ⟨h1, fun i g2 c2 d hi hl => ?_⟩
    cases i with
    | zero =>
      cases hi
      exact h.lt _ _ hl
    | succ i => exact h2 i g2 c2 d hi hl
theorem Tru.hear {st : List Stp} {s : RS} {lo hi : Nat} (h : Tru st s) (ok : RsOk (nk st) s) (e : ltr st lo = ltr st hi) : Tru st (hearS s lo hi) := by
  have hl := ok.len
  refine ⟨fun k hk => ?_, fun g d hd => ?_⟩
  · rw [hear_rg (by omega), h.gr k hk]
    by_cases z : s.rg k = hi
    · rw [if_pos z, z, e]
    · rw [if_neg z]
  · have hp : ∀ c, c = ltr st lo → (putR s.lt lo c).lookup g = some d → d = ltr st g := fun c hc hq => by
      rw [lookup_put] at hq
      by_cases z : g = lo
      · rw [if_pos z] at hq
        cases hq
        rw [hc, z]
      · rw [if_neg z] at hq
        exact h.lt _ _ hq
    have hd2 : (match s.lt.lookup hi with | some c => putR s.lt lo c | none => match s.lt.lookup lo with | some c => putR s.lt lo c | none => s.lt).lookup g = some d := hd
    cases e1 : s.lt.lookup hi with
    | some c => rw [e1] at hd2; exact hp c ((h.lt _ _ e1).trans e.symm) hd2
    | none =>
      rw [e1] at hd2
      cases e2 : s.lt.lookup lo with
      | some c => rw [e2] at hd2; exact hp c (h.lt _ _ e2) hd2
      | none => rw [e2] at hd2; exact h.lt _ _ hd2
/-- the row stood when the reader's list was not yet -/
def FarRow (K : Fr) (S : Addr × List Int) (r a : Addr) : Prop := ∃ H0, RowAt K S H0 r ∧ H0 a = none
theorem RowAt.but3 {K : Fr} {S : Addr × List Int} {H H2 : Hp} {r e d a C dx : Addr} {fs : List (Str × V)} {kvs : List (Key × V)} (f : FarRow K S r a) (he : H e = some (.ins C dx fs)) (hd : H d = some (.dK kvs)) (b : But3 e d a H H2) (h : RowAt K S H r) : RowAt K S H2 r := by
  obtain ⟨H0, h0, hD⟩ := f
  have n := row_ne h0 hD
  obtain ⟨_, _, _, _, g0, _⟩ := h0
  obtain ⟨i, sd, hd2, h1, h2, h3⟩ := h
  refine ⟨i, sd, hd2, b _ _ (ne_of h1 he (by intro z; cases z)) (ne_of h1 hd (by intro z; cases z)) n.symm h1, ?_, h3⟩
  have key : S.1 ≠ a → SqL K H2 S.1 (S.2.map V.int) := fun ne => by
    rcases h2 with (z | ⟨u, z⟩) | z
    · exact .inl (.inl (b _ _ (ne_of z he (by intro z; cases z)) (ne_of z hd (by intro z; cases z)) ne z))
    · exact .inl (.inr ⟨u, b _ _ (ne_of z he (by intro z; cases z)) (ne_of z hd (by intro z; cases z)) ne z⟩)
    · exact .inr z
  rcases g0 with (g | ⟨u, g⟩) | g
  · exact key (ne_of_none g hD)
  · exact key (ne_of_none g hD)
  · exact .inr g
theorem open_count {n : Nat} {s : RS} (ok : RsOk n s) {out : List Int} (hn : out.Nodup) (hm : ∀ k, k ∈ out ↔ k ∈ ((List.range n).filter fun k => !(s.le k).isSome).map fun k => ((s.rg k : Nat) : Int)) : out.length = (opn s).length := by
  have h2 : ((opn s).map fun k => ((k : Nat) : Int)).Nodup := List.pairwise_map.mpr ((opn_asc s).imp fun {a b} z => by omega)
  have := (List.perm_ext_iff_of_nodup hn h2).mpr fun g => ?_
  · rw [this.length_eq, List.length_map]
  · have hl := ok.len
    rw [hm, List.mem_map, List.mem_map]
    constructor
    · rintro ⟨k, hk, rfl⟩
      rw [List.mem_filter, List.mem_range, Bool.not_eq_true'] at hk
      obtain ⟨h1, h3⟩ := hk
      refine ⟨s.rg k, opn_mem.mpr ⟨by have := ok.lt h1; omega, (ok.root k h1).2, ?_⟩, rfl⟩
      cases e : s.lt.lookup (s.rg k) with
      | none => rfl
      | some c =>
        have e2 : s.le k = some c := e
        rw [e2] at h3
        cases h3
    · rintro ⟨k, hk, rfl⟩
      obtain ⟨h1, h3, h4⟩ := opn_mem.mp hk
      refine ⟨k, ?_, by rw [h3]⟩
      rw [List.mem_filter, List.mem_range]
      refine ⟨by omega, ?_⟩
      have e2 : s.le k = none := by
        show s.lt.lookup (s.rg k) = none
        rw [h3]
        exact h4
      rw [e2]
      rfl
def spPower (K : Fr) : Sp := fun vs H Q _ => ∃ (b : Nat) (n : Nat), vs = [.int (b : Nat), .int (n : Nat)] ∧ b < 1000 ∧ n ≤ 1000 ∧ Q (.int ((b ^ n : Nat) : Int)) H
def spIsTold (K : Fr) : Sp := fun vs H Q _ => ∃ (e x d a L : Addr) (st : List Stp) (s : RS) (os : List Ob), vs = [.ref e, .ref x, .ref L] ∧ RdrAt K H e x d a s os ∧ TA_ K H x st ∧ RsOk (nk st) s ∧ Tru st s ∧ H L = some (.lst (nV s.gs)) ∧ sz st ≤ 1000 ∧
  ∀ H2, Same H H2 → Q (.bl true) H2
section
variable {P : Program} {w : World} {K : Fr} {mg : Str → Option Value} {base : Heap} {f : Addr}
theorem ok_law_power (D : Df K "_law_power" "_law_power" s_law_power (ga K "_law_power")) (T : Tc w K mg) : Kp P w K mg base 1 (ga K "_law_power") (spPower K) := by
  refine kp_of D sc_law_power (fun _ _ _ _ _ _ us hl => match us, hl with | [_, _], _ => rfl) ?_ (fun cdv A outer s H vs Q E hr h => ?_)
  · rintro vs H Q E ⟨b, n, rfl, _⟩
    rfl
  · obtain ⟨b, n, rfl, hb, hn, q⟩ := h
    refine ⟨_, (pss_cons (ps_set (i := 2) sc_law_power.nd rfl (Or.inl rfl) pe_int) (pss_cons (ps_for PassesOwn.never rfl (pi_range1 (by rfl) T.rng (pa_cons (pv 1) pa_nil)) (pg_name (i := 3) sc_law_power.nd rfl (Or.inl rfl)) (pss_one (ps_set (i := 2) sc_law_power.nd rfl (Or.inl rfl) (pe_op mulB (pv 2) (pv 0))))) (pss_one (ps_ret (pv 2))))), ?_⟩
    refine ⟨_, rfl, _, rfl, (by omega), (by omega), ?_⟩
    refine for_range (lo := 0) (n := n) (fun i σ HB => ∃ v3 : Option V, σ = [some (.int (b : Nat)), some (.int (n : Nat)), some (.int ((b ^ i : Nat) : Int)), v3] ∧ HB = H) ⟨none, rfl, rfl⟩ ?_ ?_
    · rintro i σ HB hi ⟨v3, rfl, rfl⟩
      refine ⟨_, rfl, _, rfl, (.inl ⟨_, _, rfl, rfl, (by exact .inr ⟨by omega, by omega⟩), _, rfl, ?_⟩)⟩
      exact rfl
    · rintro σ HB ⟨v3, rfl, rfl⟩
      exact ⟨_, rfl, q⟩
-- hint: _law_known[_law_key] => rdict
-- hint: lock:[_law_key for _law_key in _law_known if _law_known[_law_key] != _law_text.typed_keys[_law_key]] => 1
-- hint: pi:_law_known => pi_keys
-- hint: list(_law_known) => (pk_t1 (listB K) T.lst b_list $0)
-- hint: sorted(_law_known) => (pk_b1 (cr_sortedB K) T.srt b_sorted $0)
-- hint: _law_key not in _law_known => pc_rnotin (hu9 hr.units)
-- hint: _law_reader[_law_place] => own:KeyReader
-- hint: _law_known.get(_law_text(_law_place), None) => rget
theorem ok_law_is_told (D : Df K "_law_is_told" "_law_is_told" s_law_is_told (ga K "_law_is_told")) (T : Tc w K mg) (G_KeyReader_known_letters : Kp P w K mg base 1 (pgA K (ga K "KeyReader") "known_letters") (spKnown K)) (G_KeyReader_count_texts : Kp P w K mg base 2 (ma K (ga K "KeyReader") "count_texts") (spCountT K)) (G_KeyReader_getitem : Kp P w K mg base 5 (ma K (ga K "KeyReader") "__getitem__") (spRdGet K)) (G_law_power : Kp P w K mg base 1 (ga K "_law_power") (spPower K)) (G_Text_typed_keys : Kp P w K mg base 1 (pgA K (CT K) "typed_keys") (spTyped K)) (G_Text_size : Kp P w K mg base 1 (pgA K (CT K) "size") (spSize K)) (G_Text_call : Kp P w K mg base 3 (ma K (CT K) "__call__") (spCall K)) : Kp P w K mg base 9 (ga K "_law_is_told") (spIsTold K) := by
  have G_Text_call := callI G_Text_call
  have G_KeyReader_getitem := rdGetI G_KeyReader_getitem
  refine kp_of D sc_law_is_told (fun _ _ _ _ _ _ us hl => match us, hl with | [_, _, _], _ => rfl) ?_ (fun cdv A outer s H vs Q E hr h => ?_)
  · rintro vs H Q E ⟨e, x, d, a, L, st, s, os, rfl, _⟩
    rfl
  · obtain ⟨e, x, d, a, L, st, s, os, rfl, rdr, tx, ok, tru, hL, hsz, q⟩ := h
    obtain ⟨dx, g, as, he, hg, hd, ha, hos, hga⟩ := rdr.obj
    have hlen := ok.len
    have hnk := text_nk tx
    have hkl := kns_le s
    have hkw : (knw s).length = (kns s).length := by unfold knw; rw [List.length_map]
    refine ⟨_, (pss_cons (ps_asg (pe_tup (pa_cons (pk_prop (pv 0) T.clKeyReader T.p_KeyReader_known_letters G_KeyReader_known_letters (hr.mono (by omega))) (pa_cons (pk_b1 (lenA K) T.len b_len (pk_prop (pv 1) T.clT T.pTyped G_Text_typed_keys (hr.mono (by omega)))) pa_nil))) (pg_tup rfl (pgs_cons (pg_name (i := 3) sc_law_is_told.nd rfl (Or.inr rfl)) (pgs_cons (pg_name (i := 4) sc_law_is_told.nd rfl (Or.inl rfl)) pgs_nil)))) (pss_cons (ps_if (pw_or (pt_cmpR (neB K hr.units) (pe_lock (pe_lc (own := [("_law_key", 7)]) (g := gName 7) rfl sc_law_is_told.nd (pi_keys (pv 3)) (blkOk_by (N := ["_law_reader", "_law_text", "_law_tied", "_law_known", "_law_keys", "_law_count", "_law_place", "_law_key"]) (sc := defScope s_law_is_told) (by decide +kernel)) (fun _ _ _ _ _ => (pg_name (i := 7) sc_law_is_told.nd rfl (Or.inl rfl))) (fun _ _ _ _ _ => (pts_one (pt_cmpR (neB K hr.units) (pe_rget (hu9 hr.units) (pv 3) (pv 7) (fun _ _ => rfl)) (pe_ix (ixS K) (pk_prop (pv 1) T.clT T.pTyped G_Text_typed_keys (hr.mono (by omega))) (pv 7) (fun _ _ => rfl)) (nomark _)))) (fun _ _ _ _ _ => (pv 7)))) (pe_lst pa_nil) (nomark _)) (pw_or1 (pt_cmpR (neB K hr.units) (pk_t1 (listB K) T.lst b_list (pv 3)) (pk_b1 (cr_sortedB K) T.srt b_sorted (pv 3)) (nomark _)))).pt (pss_one (ps_ret pe_bl)) pss_nil) (pss_cons (ps_set (i := 5) sc_law_is_told.nd rfl (Or.inl rfl) (pe_lenSetI K (by rfl) T.len (by rfl) T.set_ (pe_lc (own := [("_law_key", 7)]) (g := gName 7) rfl sc_law_is_told.nd (pi_range1 (by rfl) T.rng (pa_cons (pv 4) pa_nil)) (blkOk_by (N := ["_law_reader", "_law_text", "_law_tied", "_law_known", "_law_keys", "_law_count", "_law_place", "_law_key"]) (sc := defScope s_law_is_told) (by decide +kernel)) (fun _ _ _ _ _ => (pg_name (i := 7) sc_law_is_told.nd rfl (Or.inl rfl))) (fun _ _ _ _ _ => (pts_one (pt_cmp (pc_rnotin (hu9 hr.units) (pv 7) (pv 3))))) (fun _ _ _ _ _ => (pe_ix (ixS K) (pv 2) (pv 7) (fun _ _ => rfl)))))) (pss_cons (ps_if (pt_cmpR (neB K hr.units) (pe_methR0 (pv 0) T.clKeyReader T.m_KeyReader_count_texts G_KeyReader_count_texts.fnR (hr.mono (by omega)) pass0) (pk_call G_law_power (hr.mono (by omega)) T.g_law_power (pa_cons pe_int (pa_cons (pv 5) pa_nil))) (nomark _)) (pss_one (ps_ret pe_bl)) pss_nil) (pss_cons (ps_for PassesOwn.never rfl (pi_range3 (by rfl) T.rng (pa_cons pe_int (pa_cons (pk_prop (pv 1) T.clT T.pSize G_Text_size (hr.mono (by omega))) (pa_cons pe_int pa_nil)))) (pg_name (i := 6) sc_law_is_told.nd rfl (Or.inl rfl)) (pss_one (ps_if (pt_cmpR (neB K hr.units) (pe_getO T.o_KeyReader_getitem G_KeyReader_getitem.fnR (hr.mono (by omega)) pass0 (pv 0) (pv 6)) (pe_rget2 (hu9 hr.units) (pv 3) (pk_callO (pv 1) T.callO G_Text_call (hr.mono (by omega)) (pa_cons (pv 6) pa_nil)) pe_non ⟨rfl, rfl, rfl, rfl⟩) (nomark _)) (pss_one (ps_ret pe_bl)) pss_nil))) (pss_one (ps_ret pe_bl))))))), ?_⟩
    obtain ⟨dx_x, ts_x, sp_x, as_x, ss_x, hx_x, hts_x, hst_x, hsp_x, hss_x⟩ := tx.obj
    have hty_x := typed_small tx
    have hnk_x := text_nk tx
    have hg_x := tx.good
    refine ⟨_, rfl, _, _, _, rfl, he, _, _, _, _, _, _, rfl, rdr, (by omega), fun l H2 n s1 e1 => ?_⟩
    have ne_L_l := ne_of_none hL n
    have ne_e_l := ne_of_none he n
    have ne_g_l := ne_of_none hg n
    have ne_d_l := ne_of_none hd n
    have ne_a_l := ne_of_none ha n
    have ne_x_l := ne_of_none hx_x n
    refine ⟨_, rfl, _, _, _, rfl, (s1 _ _ hx_x), _, _, rfl, (TextAt.same tx s1), (.inl ⟨_, rfl, (by exact small_ok (by omega)), (by (show 2 ≤ _; decide)), fun p n1 => ?_⟩)⟩
    have ne_L_p := ne_of_none (s1 _ _ hL) n1
    have ne_e_p := ne_of_none (s1 _ _ he) n1
    have ne_g_p := ne_of_none (s1 _ _ hg) n1
    have ne_d_p := ne_of_none (s1 _ _ hd) n1
    have ne_a_p := ne_of_none (s1 _ _ ha) n1
    have ne_x_p := ne_of_none (s1 _ _ hx_x) n1
    have ne_l_p := ne_of_none e1 n1
    generalize hE : upd H2 p _ = H1
    have s2 : Same H2 H1 := hE ▸ same_upd n1
    have e_p := (congrFun hE p).symm.trans upd_same
    clear hE
    refine ⟨_, _, rfl, (SqT.of e_p), rfl, _, _, rfl, _, _, rfl, rfl, ?_⟩
    generalize hσ : List.set _ _ _ = σ1
    simp only [L2.start, List.set_cons_zero, List.set_cons_succ, List.map_cons, List.map_nil, List.length_cons, List.length_nil, List.replicate_succ, List.replicate_zero, List.cons_append, List.nil_append, Nat.reduceAdd, Nat.reduceSub] at hσ
    subst hσ
    have e1H := s2 _ _ e1
    refine ⟨l, _, e1H, trivial, fun od => ?_⟩
    have txL : TA_ K (upd H1 l (.frz od (.dK (kvR (knw s))))) x st := text_butK e1H but_upd (tx.same (s1.trans s2))
    have eLk : (upd H1 l (.frz od (.dK (kvR (knw s))))) l = some (.frz od (.dK (kvR (knw s)))) := upd_same
    have lck : ∀ H9, Same (upd H1 l (.frz od (.dK (kvR (knw s))))) H9 → Same H1 (upd H9 l (.dK (kvR (knw s)))) := fun H9 => lock_same e1H
    generalize upd H1 l (.frz od (.dK (kvR (knw s)))) = HL at txL eLk lck ⊢
    refine ⟨_, rfl, l, od, rfl, .inl ⟨kvR (knw s), eLk, fun D hD => ?_⟩⟩
    refine lc_keep walk_keys hD (fun _ => false) (fun _ => V.non) (by rw [kvR_len, hkw]; exact small_ok (by omega)) (fun H5 s5 => s5 _ _ eLk) ?_ ?_
    · rintro i v H3 H4 N N0 hi s3 ⟨rfl, k0, v0, hkv, rfl⟩ yes no
      unfold kvR at hkv
      rw [List.getElem?_map] at hkv
      obtain ⟨kc, hkc, ekc⟩ : ∃ kc : Nat × Nat, (knw s)[i]? = some kc ∧ (((.inl (kc.1 : Int) : Key)), V.str (sL [kc.2])) = (k0, v0) := by
        cases hw : (knw s)[i]? with
        | none => rw [hw] at hkv; cases hkv
        | some kc => rw [hw] at hkv; exact ⟨kc, rfl, Option.some.inj hkv⟩
      obtain ⟨k1, c1⟩ := kc
      cases ekc
      have hmem := List.mem_of_getElem? hkc
      have hlk : (knw s).lookup k1 = some c1 := mem_lookupR (by rw [knw_keys]; exact kns_nodup s) hmem
      have hk1 : k1 < nk st := by
        have h8 : k1 ∈ (knw s).map (·.1) := List.mem_map.mpr ⟨_, hmem, rfl⟩
        rw [knw_keys] at h8
        have := (kns_mem.mp h8).1
        omega
      have hle : s.le k1 = some c1 := by
        rw [knw_at, if_pos (by omega)] at hlk
        exact hlk
      have hct := tru.le hk1 hle
      have e8 : kV (.inl (k1 : Int)) = V.int (k1 : Nat) := rfl
      rw [e8]
      have hty1 := key_typed hk1
      have tx4 := txL.same s3
      obtain ⟨dx4, ts4, sp4, as4, ss4, hx4, hts4, hst4, hsp4, hss4⟩ := tx4.obj
      refine ⟨rfl, _, rfl, _, rfl, _, _, _, _, rfl, rfl, (.inr ⟨_, (s3 _ _ eLk)⟩), hlk, _, rfl, _, _, _, rfl, hx4, _, _, rfl, tx4, _, rfl, (.inr (.inr ⟨_, _, _, rfl, rfl, (by exact small_ok (by omega)), (at_typedI (by omega) (by omega)), (.inl ⟨rfl, _, rfl, ?_⟩)⟩))⟩
      have ne_l_D := ne_of_none eLk hD
      rw [hct, show ((k1 : Nat) : Int).toNat = k1 from Int.toNat_natCast _]
      refine iF (nF (decide_eq_true rfl)) ?_
      exact no rfl _ (Same.refl _)
    · intro H3 s3 hD3
      rw [keeps_none] at hD3
      refine ⟨s3 _ _ eLk, ?_⟩
      have sX := lck H3 s3
      have eX : (upd H3 l (.dK (kvR (knw s)))) l = some (.dK (kvR (knw s))) := upd_same
      have eD : (upd H3 l (.dK (kvR (knw s)))) D = some (.lst []) := by
        rw [upd_ne (ne_of_none eLk hD).symm]
        exact hD3
      generalize upd H3 l (.dK (kvR (knw s))) = HX at sX eX eD ⊢
      have txX : TA_ K HX x st := (tx.same (s1.trans s2)).same sX
      refine ⟨(by (show 0 ≤ _; decide)), fun p1 n2 => ?_⟩
      have ne_L_p1 := ne_of_none (((s1.trans s2).trans sX) _ _ hL) n2
      have ne_e_p1 := ne_of_none (((s1.trans s2).trans sX) _ _ he) n2
      have ne_g_p1 := ne_of_none (((s1.trans s2).trans sX) _ _ hg) n2
      have ne_d_p1 := ne_of_none (((s1.trans s2).trans sX) _ _ hd) n2
      have ne_a_p1 := ne_of_none (((s1.trans s2).trans sX) _ _ ha) n2
      have ne_x_p1 := ne_of_none (((s1.trans s2).trans sX) _ _ hx_x) n2
      have ne_l_p1 := ne_of_none eX n2
      have ne_D_p1 := ne_of_none eD n2
      generalize hE : upd HX p1 _ = H11
      have s4 : Same HX H11 := hE ▸ same_upd n2
      have e_p1 := (congrFun hE p1).symm.trans upd_same
      clear hE
      refine (.inr (.inl ⟨_, _, _, _, rfl, rfl, (.inl ⟨(SqL.of (s4 _ _ eD)), (SqL.of e_p1)⟩), rfl, rfl, _, rfl, ?_⟩))
      refine iF (nF (dT rfl)) ?_
      refine ⟨_, rfl, (.inr ⟨_, _, rfl, (.inl (s4 _ _ eX)), fun p2 n3 => ?_⟩)⟩
      have ne_L_p2 := ne_of_none ((((s1.trans s2).trans sX).trans s4) _ _ hL) n3
      have ne_e_p2 := ne_of_none ((((s1.trans s2).trans sX).trans s4) _ _ he) n3
      have ne_g_p2 := ne_of_none ((((s1.trans s2).trans sX).trans s4) _ _ hg) n3
      have ne_d_p2 := ne_of_none ((((s1.trans s2).trans sX).trans s4) _ _ hd) n3
      have ne_a_p2 := ne_of_none ((((s1.trans s2).trans sX).trans s4) _ _ ha) n3
      have ne_x_p2 := ne_of_none ((((s1.trans s2).trans sX).trans s4) _ _ hx_x) n3
      have ne_l_p2 := ne_of_none (s4 _ _ eX) n3
      have ne_D_p2 := ne_of_none (s4 _ _ eD) n3
      have ne_p1_p2 := ne_of_none e_p1 n3
      generalize hE : upd H11 p2 _ = H12
      have s5 : Same H11 H12 := hE ▸ same_upd n3
      have e_p2 := (congrFun hE p2).symm.trans upd_same
      clear hE
      refine ⟨_, rfl, ?_⟩
      have okn : (nV (kns s)).all okV = true := okV_nV _
      have e_p3 : H12 p2 = some (.lst (nV (kns s))) := by
        rw [e_p2]
        unfold nV kvR
        rw [← knw_keys, List.map_map, List.map_map]
        rfl
      clear e_p2
      refine .inr ⟨l, kvR (knw s), (kns s).map fun k => ((k : Nat) : Int), rfl, .inl (s5 _ _ (s4 _ _ eX)), ?_, ?_, ?_⟩
      · unfold kvR
        rw [← knw_keys, List.map_map, List.map_map, List.map_map]
        rfl
      · rw [List.length_map]
        omega
      · intro ys p9 hperm hsort hp9
        have hys : ys = (kns s).map fun k => ((k : Nat) : Int) := by
          have hnd : ((kns s).map fun k => ((k : Nat) : Int)).Pairwise (· < ·) := ints_asc (kns_asc s)
          refine asc_one (lt_of_le_nodup _ hsort (hperm.nodup_iff.mpr (hnd.imp fun z => Int.ne_of_lt z))) hnd fun k => hperm.mem_iff
        have hysV : ys.map V.int = nV (kns s) := by
          rw [hys]
          unfold nV
          rw [List.map_map]
          rfl
        rw [hysV]
        have s6 : Same H12 (upd H12 p9 (.lst (nV (kns s)))) := same_upd hp9
        have e_p9 : (upd H12 p9 (.lst (nV (kns s)))) p9 = some (.lst (nV (kns s))) := upd_same
        generalize upd H12 p9 (.lst (nV (kns s))) = H13 at s6 e_p9 ⊢
        refine .inr (.inl ⟨p2, p9, _, _, rfl, rfl, .inl ⟨SqL.of (s6 _ _ e_p3), SqL.of e_p9⟩, okn, okn, ?_⟩)
        refine ⟨_, rfl, ?_⟩
        refine iF (nF (decide_eq_true rfl)) ?_
        refine ⟨_, rfl, _, rfl, (by omega), (by omega), fun D1 n4 => ?_⟩
        have ne_L_D1 := ne_of_none ((((((s1.trans s2).trans sX).trans s4).trans s5).trans s6) _ _ hL) n4
        have ne_e_D1 := ne_of_none ((((((s1.trans s2).trans sX).trans s4).trans s5).trans s6) _ _ he) n4
        have ne_g_D1 := ne_of_none ((((((s1.trans s2).trans sX).trans s4).trans s5).trans s6) _ _ hg) n4
        have ne_d_D1 := ne_of_none ((((((s1.trans s2).trans sX).trans s4).trans s5).trans s6) _ _ hd) n4
        have ne_a_D1 := ne_of_none ((((((s1.trans s2).trans sX).trans s4).trans s5).trans s6) _ _ ha) n4
        have ne_x_D1 := ne_of_none ((((((s1.trans s2).trans sX).trans s4).trans s5).trans s6) _ _ hx_x) n4
        have ne_l_D1 := ne_of_none (((s4.trans s5).trans s6) _ _ eX) n4
        have ne_D_D1 := ne_of_none (((s4.trans s5).trans s6) _ _ eD) n4
        have ne_p1_D1 := ne_of_none ((s5.trans s6) _ _ e_p1) n4
        have ne_p2_D1 := ne_of_none (s6 _ _ e_p3) n4
        have ne_p9_D1 := ne_of_none e_p9 n4
        have hnt : (((sL (typed st)).length : Nat) : Int).toNat = nk st := by rw [sL_len, typed_len]; rfl
        rw [hnt]
        have s1X := ((s1.trans s2).trans (sX.trans (s4.trans (s5.trans s6))))
        have eX6 := s6 _ _ (s5 _ _ (s4 _ _ eX))
        refine lc_keep (walk_range (lo := 0) (n := nk st)) n4 (fun k => !(s.le k).isSome) (fun k => V.int (s.rg k : Nat)) (small_ok (by omega)) (fun _ _ => trivial) ?_ ?_
        · rintro i v H3 H4 N N0 hi s7 ⟨rfl, rfl⟩ yes no
          simp only [Int.zero_add]
          have hkl9 : (knw s).lookup i = s.le i := by rw [knw_at, if_pos (by omega)]
          have hat : atI (nV s.gs) (i : Int) = some (.int (s.rg i : Nat)) := atI_nat (nV_get (by omega))
          have hL4 : H4 L = some (.lst (nV s.gs)) := s7 _ _ (s1X _ _ hL)
          refine ⟨rfl, _, rfl, _, rfl, _, _, _, rfl, rfl, (.inl (s7 _ _ eX6)), _, rfl, ?_⟩
          rw [hkl9]
          cases hb : (s.le i).isSome with
          | true =>
            rw [hb] at no
            refine iteF ?_
            exact no rfl _ (Same.refl _)
          | false =>
            rw [hb] at yes
            refine iteT ?_
            refine ⟨_, rfl, _, rfl, (.inl ⟨_, _, _, _, rfl, rfl, (SqL.of hL4), hat, ?_⟩)⟩
            exact yes rfl _ (Same.refl _)
        · intro H3 s7 hD3
          have hns : keeps (nk st) (fun k => !(s.le k).isSome) (fun k => V.int (s.rg k : Nat)) = ((((List.range (nk st)).filter fun k => !(s.le k).isSome).map fun k => ((s.rg k : Nat) : Int))).map V.int := by
            unfold keeps
            rw [List.map_map]
            rfl
          rw [hns] at hD3
          refine ⟨D1, _, rfl, SqL.of hD3, ?_, fun out hout hmem => ?_⟩
          · rw [List.length_map]
            have := List.length_filter_le (fun k => !(s.le k).isSome) (List.range (nk st))
            rw [List.length_range] at this
            omega
          have hoc := open_count ok hout hmem
          have hol := opn_le s
          rw [hoc]
          have rdr7 := rdr.same (s1X.trans s7)
          have tx7 := tx.same (s1X.trans s7)
          refine ⟨_, rfl, _, _, _, rfl, (s7 _ _ (s1X _ _ he)), rfl, _, _, _, _, _, _, rfl, rdr7, (by omega), fun H21 s8 => ?_⟩
          refine ⟨_, rfl, _, _, rfl, (by decide), (by omega), (.inl ⟨rfl, _, rfl, ?_⟩)⟩
          refine iF (nF (vT rfl)) ?_
          refine ⟨_, rfl, _, _, _, rfl, (s8 _ _ (s7 _ _ (s1X _ _ hx_x))), _, _, rfl, (TextAt.same tx7 s8), ?_⟩
          have s1Y : Same H H21 := (s1X.trans s7).trans s8
          have eX9 : H21 l = some (.dK (kvR (knw s))) := s8 _ _ (s7 _ _ eX6)
          refine ⟨0, (sz st : Nat), 3, (sz st + 3 - 1) / 3, rfl, rgC_up (c := 3) (by decide) (by decide) (by omega), ?_⟩
          refine for_rangeC (lo := 0) (c := 3) (n := (sz st + 3 - 1) / 3) (fun i σ HB => ∃ v6 : Option V, σ = [some (.ref e), some (.ref x), some (.ref L), some (.ref l), some (.int ((sL (typed st)).length : Nat)), some (.int ((opn s).length : Nat)), v6, none] ∧ Same H21 HB) ⟨none, rfl, Same.refl _⟩ ?_ ?_
          · rintro i σ HB hi ⟨v6, rfl, sB⟩
            have hi3 : i * 3 < sz st := by omega
            have rdrB := rdr.same (s1Y.trans sB)
            have txB := tx.same (s1Y.trans sB)
            have eXB := sB _ _ eX9
            clear rdr rdr7 tx tx7 txX hx_x hts_x hst_x hsp_x hss_x
            obtain ⟨dx_x1, ts_x1, sp_x1, as_x1, ss_x1, hx_x, hts_x, hst_x, hsp_x, hss_x⟩ := txB.obj
            have hty_x1 := typed_small txB
            have hnk_x1 := text_nk txB
            have hg_x1 := txB.good
            refine ⟨_, rfl, _, rfl, _, _, _, rfl, (sB _ _ (s1Y _ _ he)), _, _, _, _, _, _, _, _, rfl, rdrB, txB, ok, (by omega), (by omega), fun k H22 s9 e2 => ?_⟩
            have hlt_k := ex_lt _ _ (List.mem_of_getElem? e2)
            refine ⟨_, rfl, _, _, rfl, (.inl (s9 _ _ eXB)), _, rfl, _, rfl, _, rfl, ⟨_, ⟨_, (s9 _ _ hx_x)⟩⟩, _, _, _, rfl, (TextAt.same txB s9), (by omega), (by omega), fun k1 H23 s10 e3 => ?_⟩
            obtain rfl := Option.some.inj ((e2).symm.trans e3)
            refine ⟨_, _, rfl, (.inl (s10 _ _ (s9 _ _ eXB))), ?_⟩
            have hkl9 : (knw s).lookup k = s.le k := by rw [knw_at, if_pos (by omega)]
            rw [hkl9]
            refine .inl ⟨by cases s.le k <;> rfl, _, rfl, ?_⟩
            refine iF (nF (decide_eq_true rfl)) ?_
            exact ⟨_, rfl, sB.trans (s9.trans s10)⟩
          · rintro σ HB ⟨v6, rfl, sB⟩
            exact q _ (s1Y.trans sB)
end
end KL
namespace KL
open PySem PySem.Spec PyProof.Rows L2 Pk He
theorem word_true {st : List Stp} {s : RS} {n p : Nat} (hs : s.gs.length = nk st) (tru : Tru st s) (hg : Goes most 0 st) (h : p + n ≤ sz st) :
    (((lts st).take (p + n)).drop p).length = n ∧ (((lts st).take (p + n)).drop p).all isLet = true ∧ ∀ q ∈ (grpsAt st s p n).zip (((lts st).take (p + n)).drop p), q.2 = ltr st q.1 := by
  have hexl := ex_len st hg
  have hll := lts_len st
  have hlen : (((lts st).take (p + n)).drop p).length = n := by
    rw [List.length_drop, List.length_take]
    omega
  have hat : ∀ i, i < n → ∃ k, (ex st)[p + i]? = some k ∧ k < nk st ∧ (((lts st).take (p + n)).drop p)[i]? = some (ltr st k) := fun i hi => by
    have hl : p + i < (ex st).length := by omega
    have e1 : (ex st)[p + i]? = some ((ex st)[p + i]) := List.getElem?_eq_getElem hl
    refine ⟨_, e1, ex_lt _ _ (List.mem_of_getElem? e1), ?_⟩
    rw [List.getElem?_drop, List.getElem?_take_of_lt (by omega)]
    exact lts_at e1
  refine ⟨hlen, List.all_eq_true.mpr fun c hc => ?_, fun q hq => ?_⟩
  · obtain ⟨i, hi⟩ := List.mem_iff_getElem?.mp hc
    have hin : i < n := by
      have := (List.getElem?_eq_some_iff.mp hi).1
      omega
    obtain ⟨k, _, hk, e⟩ := hat i hin
    rw [hi] at e
    cases e
    exact ltr_let (typed_let hg) hk
  · obtain ⟨i, hi⟩ := List.mem_iff_getElem?.mp hq
    obtain ⟨h1, h2⟩ := List.getElem?_zip_eq_some.mp hi
    have hin : i < n := by
      have := (List.getElem?_eq_some_iff.mp h2).1
      omega
    obtain ⟨k, e1, hk, e⟩ := hat i hin
    rw [h2] at e
    injection e with e
    unfold grpsAt at h1
    rw [List.getElem?_map, List.getElem?_range hin] at h1
    have h3 : s.rg ((ex st).getD (p + i) 0) = q.1 := Option.some.inj h1
    rw [List.getD_eq_getElem?_getD, e1] at h3
    have h4 : s.rg k = q.1 := h3
    rw [e, ← h4]
    exact tru.gr k hk
def spIsSeen (K : Fr) : Sp := fun vs H Q _ => ∃ (r e x d a L : Addr) (S : Addr × List Int) (st : List Stp) (s : RS) (os : List Ob), vs = [.ref r, .ref e, .ref x, .ref L] ∧ RowAt K S H r ∧ FarRow K S r a ∧ RdrAt K H e x d a s os ∧ TA_ K H x st ∧ RsOk (nk st) s ∧ Tru st s ∧ H L = some (.lst (nV s.gs)) ∧ L ≠ a ∧ 0 < sz st ∧ sz st ≤ 1000 ∧ os.length < 100 ∧
  ∀ (Lb d2 : Addr) (s2 : RS) (os2 : List Ob) H2, RowAt K S H2 r → RdrAt K H2 e x d2 a s2 os2 → TA_ K H2 x st → RsOk (nk st) s2 → Tru st s2 → H2 Lb = some (.lst (nV s2.gs)) → Lb ≠ a → os2.length = os.length + 1 → Q (.ref Lb) H2
section
variable {P : Program} {w : World} {K : Fr} {mg : Str → Option Value} {base : Heap} {f : Addr}
-- hint: _law_text[_law_place] => own
-- hint: _law_text[_law_other] => own
theorem ok_law_is_seen (D : Df K "_law_is_seen" "_law_is_seen" s_law_is_seen (ga K "_law_is_seen")) (T : Tc w K mg) (G_law_taken : Kp P w K mg base 1 (ga K "_law_taken") (spTaken K)) (G_KeyReader_see : Kp P w K mg base 8 (ma K (ga K "KeyReader") "see") (spSee K)) (G_KeyReader_see_word : Kp P w K mg base 8 (ma K (ga K "KeyReader") "see_word") (spSeeW K)) (G_KeyReader_hear_alike : Kp P w K mg base 8 (ma K (ga K "KeyReader") "hear_alike") (spHear K)) (G_KeyReader_count_texts : Kp P w K mg base 2 (ma K (ga K "KeyReader") "count_texts") (spCountT K)) (G_KeyReader_is_surely_alike : Kp P w K mg base 6 (ma K (ga K "KeyReader") "is_surely_alike") (spSurely K)) (G_KeyReader_known_letters : Kp P w K mg base 1 (pgA K (ga K "KeyReader") "known_letters") (spKnown K)) (G_letters_between : Kp P w K mg base 5 (ga K "letters_between") (spBetween K)) (G_Text_size : Kp P w K mg base 1 (pgA K (CT K) "size") (spSize K)) (G_Text_getitem : Kp P w K mg base 3 (ma K (CT K) "__getitem__") (spGet K)) (G_Text_call : Kp P w K mg base 3 (ma K (CT K) "__call__") (spCall K)) : Kp P w K mg base 12 (ga K "_law_is_seen") (spIsSeen K) := by
  have G_Text_getitem := getI G_Text_getitem
  have G_Text_call := callI G_Text_call
  refine kp_of D sc_law_is_seen (fun _ _ _ _ _ _ us hl => match us, hl with | [_, _, _, _], _ => rfl) ?_ (fun cdv A outer s H vs Q E hr h => ?_)
  · rintro vs H Q E ⟨r, e, x, d, a, L, S, st, s, os, rfl, _⟩
    rfl
  · obtain ⟨r, e, x, d, a, L, S, st, s, os, rfl, row, far, rdr, tx, ok, tru, hL, hLa, hz0, hz1, hos9, q⟩ := h
    obtain ⟨dx, g, as, he, hg, hd, ha, hos, hga⟩ := rdr.obj
    have hlen := ok.len
    have hnk := text_nk tx
    refine ⟨_, (pss_cons (ps_par3 (i := 4) (j := 5) (l := 6) rfl sc_law_is_seen.nd rfl rfl rfl (by decide) (by decide) (by decide) rfl rfl rfl (pa_cons (pk_call G_law_taken (hr.mono (by omega)) T.gTaken (pa_cons (pv 0) (pa_cons (pk_prop (pv 2) T.clT T.pSize G_Text_size (hr.mono (by omega))) pa_nil))) (pa_cons (pk_call G_law_taken (hr.mono (by omega)) T.gTaken (pa_cons (pv 0) (pa_cons (pk_prop (pv 2) T.clT T.pSize G_Text_size (hr.mono (by omega))) pa_nil))) (pa_cons (pk_call G_law_taken (hr.mono (by omega)) T.gTaken (pa_cons (pv 0) (pa_cons pe_int pa_nil))) pa_nil))) (by rfl)) (pss_cons (ps_if (pt_cmpR (eqB K hr.units) (pv 6) pe_int (nomark _)) (pss_one (ps_set (i := 7) sc_law_is_seen.nd rfl (Or.inl rfl) (pe_methR (pv 1) T.clKeyReader T.m_KeyReader_see G_KeyReader_see.fnR (hr.mono (by omega)) pass0 (pa_cons (pv 4) (pa_cons (pe_getO T.oGet G_Text_getitem.fnR (hr.mono (by omega)) pass0 (pv 2) (pv 4)) pa_nil))))) (pss_one (ps_if (pw_or (pt_cmpR (eqB K hr.units) (pv 6) pe_int (nomark _)) (pw_or1 (pt_cmpR (neB K hr.units) (pe_getO T.oGet G_Text_getitem.fnR (hr.mono (by omega)) pass0 (pv 2) (pv 4)) (pe_getO T.oGet G_Text_getitem.fnR (hr.mono (by omega)) pass0 (pv 2) (pv 5)) (nomark _)))).pt (pss_cons (ps_set (i := 8) sc_law_is_seen.nd rfl (Or.inl rfl) (pe_callB (call_min2 rfl) (by rfl) T.min b_min (pa_cons (pe_op op_sub (pk_prop (pv 2) T.clT T.pSize G_Text_size (hr.mono (by omega))) pe_int) (pa_cons (pe_op (addA K) (pv 4) (pk_call G_law_taken (hr.mono (by omega)) T.gTaken (pa_cons (pv 0) (pa_cons pe_int pa_nil)))) pa_nil)))) (pss_one (ps_set (i := 7) sc_law_is_seen.nd rfl (Or.inl rfl) (pe_methR (pv 1) T.clKeyReader T.m_KeyReader_see_word G_KeyReader_see_word.fnR (hr.mono (by omega)) pass0 (pa_cons (pv 4) (pa_cons (pk_call G_letters_between (hr.mono (by omega)) T.g_letters_between (pa_cons (pv 2) (pa_cons (pv 4) (pa_cons (pv 8) pa_nil)))) pa_nil)))))) (pss_cons (ps_asg (pe_tup (pa_cons (pe_callB (call_min2 rfl) (by rfl) T.min b_min (pa_cons (pe_ix (ixS K) (pv 3) (pk_callO (pv 2) T.callO G_Text_call (hr.mono (by omega)) (pa_cons (pv 4) pa_nil)) (fun _ _ => rfl)) (pa_cons (pe_ix (ixS K) (pv 3) (pk_callO (pv 2) T.callO G_Text_call (hr.mono (by omega)) (pa_cons (pv 5) pa_nil)) (fun _ _ => rfl)) pa_nil))) (pa_cons (pe_callB (call_max2 rfl) (by rfl) T.max b_max (pa_cons (pe_ix (ixS K) (pv 3) (pk_callO (pv 2) T.callO G_Text_call (hr.mono (by omega)) (pa_cons (pv 4) pa_nil)) (fun _ _ => rfl)) (pa_cons (pe_ix (ixS K) (pv 3) (pk_callO (pv 2) T.callO G_Text_call (hr.mono (by omega)) (pa_cons (pv 5) pa_nil)) (fun _ _ => rfl)) pa_nil))) pa_nil))) (pg_tup rfl (pgs_cons (pg_name (i := 9) sc_law_is_seen.nd rfl (Or.inr rfl)) (pgs_cons (pg_name (i := 10) sc_law_is_seen.nd rfl (Or.inr rfl)) pgs_nil)))) (pss_cons (ps_setLc (i := 3) (own := [("_law_head", 11)]) (g := gName 11) (tt := tYes) rfl sc_law_is_seen.nd rfl rfl (sw_true rfl rfl rfl (by decide +kernel)) (pi_list (pv 3)) (blkOk_by (N := ["_law_row", "_law_reader", "_law_text", "_law_tied", "_law_place", "_law_other", "_law_word_here", "_law_count", "_law_last", "_law_low", "_law_high", "_law_head"]) (sc := defScope s_law_is_seen) (by decide +kernel)) (fun _ _ _ _ _ => (pg_name (i := 11) sc_law_is_seen.nd rfl (Or.inl rfl))) (fun _ _ _ _ _ => pts_nil) (fun _ _ _ _ _ => (pe_ifExp (pt_cmpR (eqB K hr.units) (pv 11) (pv 10) (nomark _)) (pv 9) (pv 11)))) (pss_cons (ps_if (pw_or (pt_cmpR (neB K hr.units) (pe_methR (pv 1) T.clKeyReader T.m_KeyReader_hear_alike G_KeyReader_hear_alike.fnR (hr.mono (by omega)) pass0 (pa_cons (pv 4) (pa_cons (pv 5) pa_nil))) (pe_methR0 (pv 1) T.clKeyReader T.m_KeyReader_count_texts G_KeyReader_count_texts.fnR (hr.mono (by omega)) pass0) (nomark _)) (pw_or1 (pt_not (pt_val (pe_methR (pv 1) T.clKeyReader T.m_KeyReader_is_surely_alike G_KeyReader_is_surely_alike.fnR (hr.mono (by omega)) pass0 (pa_cons (pv 4) (pa_cons (pv 5) pa_nil))))))).pt (pss_one (ps_ret pe_non)) pss_nil) (pss_one (ps_set (i := 7) sc_law_is_seen.nd rfl (Or.inl rfl) (pk_b1 (lenA K) T.len b_len (pk_prop (pv 1) T.clKeyReader T.p_KeyReader_known_letters G_KeyReader_known_letters (hr.mono (by omega)))))))))))) (pss_one (ps_ret (pe_ifExp (pt_cmpR (eqB K hr.units) (pv 7) (pk_b1 (lenA K) T.len b_len (pk_prop (pv 1) T.clKeyReader T.p_KeyReader_known_letters G_KeyReader_known_letters (hr.mono (by omega)))) (nomark _)) (pv 3) pe_non))))), ?_⟩
    obtain ⟨dx_x, ts_x, sp_x, as_x, ss_x, hx_x, hts_x, hst_x, hsp_x, hss_x⟩ := tx.obj
    have hty_x := typed_small tx
    have hnk_x := text_nk tx
    have hg_x := tx.good
    have nr_x := text_ne row tx
    refine ⟨_, rfl, _, rfl, _, _, _, rfl, hx_x, _, _, rfl, tx, _, _, rfl, _, row, (by omega), (by omega), fun v H2 row1 b h h1 => ?_⟩
    refine ⟨_, rfl, _, rfl, _, _, _, rfl, (b _ _ nr_x hx_x), _, _, rfl, (text_row row b tx), _, _, rfl, _, row1, (by omega), (by omega), fun v1 H21 row2 b1 h2 h3 => ?_⟩
    refine ⟨_, rfl, _, _, rfl, _, row2, (by omega), (by omega), fun v2 H22 row3 b2 h4 h5 => ?_⟩
    refine ⟨_, _, _, rfl, _, rfl, (.inl ⟨rfl, _, rfl, ?_⟩)⟩
    generalize hσ : List.set _ _ _ = σ1
    simp only [L2.start, List.set_cons_zero, List.set_cons_succ, List.map_cons, List.map_nil, List.length_cons, List.length_nil, List.replicate_succ, List.replicate_zero, List.cons_append, List.nil_append, Nat.reduceAdd, Nat.reduceSub] at hσ
    subst hσ
    have bA : But r H H22 := b.trans (b1.trans b2)
    have rdrA := rdr.row row bA
    have hLA : H22 L = some (.lst (nV s.gs)) := bA _ _ (nV_row row hL) hL
    have txA : TA_ K H22 x st := text_row row bA tx
    clear rdr hx_x hts_x hst_x hsp_x hss_x dx g as he hg hd ha hos hga
    obtain ⟨dx, g, as, he, hg, hd, ha, hos, hga⟩ := rdrA.obj
    have hne : ga K "Text" ≠ ga K "KeyReader" := by first | exact T.ne_Text_KeyReader | exact T.ne_KeyReader_Text.symm
    have hne2 : ga K "Span" ≠ ga K "KeyReader" := by first | exact T.ne_Span_KeyReader | exact T.ne_KeyReader_Span.symm
    have hos9b : os.length < 1000 := by omega
    have hlet := typed_let txA.good
    refine iV (fun hv => ?_) fun hv => ?_
    · obtain ⟨dx_x1, ts_x1, sp_x1, as_x1, ss_x1, hx_x, hts_x, hst_x, hsp_x, hss_x⟩ := txA.obj
      have hty_x1 := typed_small txA
      have hnk_x1 := text_nk txA
      have hg_x1 := txA.good
      have nr_x1 := text_ne row3 txA
      refine ⟨_, rfl, _, _, _, rfl, he, rfl, _, rfl, _, rfl, _, rfl, _, _, _, rfl, hx_x, _, _, _, rfl, txA, (by omega), (by omega), fun k c H23 s1 e1 e2 => ?_⟩
      have hlt_k := ex_lt _ _ (List.mem_of_getElem? e1)
      refine ⟨_, _, _, _, _, _, _, _, _, rfl, (rdrA.same s1), (TextAt.same txA s1), ok, (by omega), (by omega), ?_, (by omega), ?_⟩
      rotate_left 1
      refine ⟨?_, fun k1 d2 H24 e3 n h6 h7 h8 => ?_⟩
      rotate_left 1
      have ne_d2 := row_ne (RowAt.same row3 s1) n
      obtain rfl := Option.some.inj ((e1).symm.trans e3)
      refine ⟨_, rfl, _, rfl, ?_⟩
      · have he2 := s1 _ _ he
        have hd2 := s1 _ _ hd
        have ha2 := s1 _ _ ha
        have row24 : RowAt K S H24 r := RowAt.but3 far he2 hd2 h6 (row3.same s1)
        have tx24 : TA_ K H24 x st := text_but3 he2 hne hne2 hd2 ha2 h6 (txA.same s1)
        obtain ⟨nLe, nLd⟩ := rdrA.ne hLA
        have hL24 : H24 L = some (.lst (nV s.gs)) := h6 _ _ nLe nLd hLa (s1 _ _ hLA)
        have hcl : c = ltr st k := (ltr_at e2).symm
        have hcg : c = ltr st (s.rg k) := hcl.trans (tru.gr k hlt_k)
        have tru24 : Tru st ⟨s.gs, lrn1 s.lt (s.rg k, c)⟩ := by rw [hcg]; exact tru.lrn1 _
        obtain ⟨dx4, g4, as4, he4, hg4, hd4, ha4, hos4, hga4⟩ := h7.obj
        have hgl4 : (⟨s.gs, lrn1 s.lt (s.rg k, c)⟩ : RS).gs.length ≤ 600 := by show s.gs.length ≤ 600; omega
        have hgs4 : (⟨s.gs, lrn1 s.lt (s.rg k, c)⟩ : RS).gs = s.gs := rfl
        rw [← hgs4] at hL24
        generalize (⟨s.gs, lrn1 s.lt (s.rg k, c)⟩ : RS) = s9 at h7 h8 hL24 tru24 he4 hg4 hd4 hgl4 hgs4 ⊢
        have hkw : (kvR (knw s9)).length = (kns s9).length := by rw [kvR_len]; unfold knw; rw [List.length_map]
        refine ⟨_, _, _, rfl, he4, _, _, _, _, _, _, rfl, h7, (by omega), fun l H25 n1 s2 e4 => ?_⟩
        have ne_l := row_ne row24 n1
        refine (.inr (.inr ⟨_, _, rfl, e4, (.inl ⟨rfl, _, rfl, ?_⟩)⟩))
        refine iT (vT (by omega)) ?_
        refine ⟨_, rfl, ?_⟩
        exact q L d2 s9 _ H25 (row24.same s2) (h7.same s2) (tx24.same s2) h8 tru24 (s2 _ _ hL24) hLa (by simp)
      · rw [← ltr_at e2]
        exact ltr_let hlet hlt_k
      · intro k9 d9 h9 hd9
        rw [e1] at h9
        cases h9
        rw [tru.le hlt_k hd9]
        exact ltr_at e2
    · obtain ⟨dx_x1, ts_x1, sp_x1, as_x1, ss_x1, hx_x, hts_x, hst_x, hsp_x, hss_x⟩ := txA.obj
      have hty_x1 := typed_small txA
      have hnk_x1 := text_nk txA
      have hg_x1 := txA.good
      have nr_x1 := text_ne row3 txA
      refine ⟨_, rfl, (.inl ⟨rfl, _, rfl, ?_⟩)⟩
      refine iOrS (fun HC sC => ?_) fun hz tl => ?_
      · dsimp only
        have rowC := row3.same sC
        have rdrC := rdrA.same sC
        have txC := txA.same sC
        have hLC := sC _ _ hLA
        have hW : ∀ v3 : Int, 0 ≤ v3 → v3 < 5 → 1 ≤ (((lts st).take ((if v + v3 < ((sz st : Nat) : Int) - 1 then v + v3 else ((sz st : Nat) : Int) - 1) + 1).toNat).drop v.toNat).length ∧ (((lts st).take ((if v + v3 < ((sz st : Nat) : Int) - 1 then v + v3 else ((sz st : Nat) : Int) - 1) + 1).toNat).drop v.toNat).all isLet = true ∧
            LearnOk s.lt ((grpsAt st s v.toNat (((lts st).take ((if v + v3 < ((sz st : Nat) : Int) - 1 then v + v3 else ((sz st : Nat) : Int) - 1) + 1).toNat).drop v.toNat).length).zip (((lts st).take ((if v + v3 < ((sz st : Nat) : Int) - 1 then v + v3 else ((sz st : Nat) : Int) - 1) + 1).toNat).drop v.toNat)) := fun v3 h8 h9 => by
          obtain ⟨m, hm⟩ : ∃ m, (if v + v3 < ((sz st : Nat) : Int) - 1 then v + v3 else ((sz st : Nat) : Int) - 1) = m := ⟨_, rfl⟩
          rw [hm]
          have hm3 : v ≤ m ∧ m < (sz st : Nat) ∧ m ≤ v + 4 := by split at hm <;> omega
          obtain ⟨pn, hpn⟩ := Int.eq_ofNat_of_zero_le (show 0 ≤ v by assumption)
          obtain ⟨n9, hn9⟩ : ∃ n9 : Nat, m + 1 = (pn : Int) + (n9 : Int) := ⟨(m + 1 - v).toNat, by omega⟩
          obtain ⟨w1, w2, w3⟩ := word_true (n := n9) (p := pn) hlen tru hg_x1 (by omega)
          have e8 : v.toNat = pn := by omega
          have e9 : (m + 1).toNat = pn + n9 := by omega
          rw [e8, e9, w1]
          exact ⟨by omega, w2, (tru.learn _ w3).2⟩
        refine iT rfl ?_
        refine ⟨_, rfl, _, _, _, rfl, (sC _ _ hx_x), _, _, rfl, txC, _, _, rfl, rfl, _, rfl, _, rfl, _, _, rfl, _, rowC, (by omega), (by omega), fun v3 H23 row4 b3 h6 h7 => ?_⟩
        refine (.inl ⟨_, _, rfl, rfl, _, _, rfl, _, rfl, _, _, _, rfl, (b3 _ _ (ins_ne (rowC.same (Same.refl _)) (sC _ _ he)) (sC _ _ he)), rfl, _, rfl, _, rfl, _, rfl, _, rfl, _, _, _, _, rfl, (text_row rowC b3 txC), (by omega), (by omega), (by omega), (by omega), fun H24 s1 => ?_⟩)
        refine ⟨_, _, _, _, _, _, _, _, _, rfl, (rdrC.row rowC (b3.trans (Same.but s1))), (text_row rowC (b3.trans (Same.but s1)) txC), ok, (by omega), (by (simp only [cV_len, nV_len, List.length_append, List.length_map, List.length_take, List.length_drop, List.length_range, sL_len, typed_len, lts_len, kvL_len]; omega)), ?_, (by (simp only [cV_len, nV_len, List.length_append, List.length_map, List.length_take, List.length_drop, List.length_range, sL_len, typed_len, lts_len, kvL_len]; omega)), ?_, (by omega), ?_⟩
        rotate_left 2
        refine ⟨?_, fun d2 H25 n h8 h9 h10 => ?_⟩
        rotate_left 1
        have ne_d2 := row_ne (RowAt.same row4 s1) n
        refine ⟨_, rfl, _, rfl, ?_⟩
        generalize hσ : List.set _ _ _ = σ1
        simp only [L2.start, List.set_cons_zero, List.set_cons_succ, List.map_cons, List.map_nil, List.length_cons, List.length_nil, List.replicate_succ, List.replicate_zero, List.cons_append, List.nil_append, Nat.reduceAdd, Nat.reduceSub] at hσ
        subst hσ
        · obtain ⟨m, hm⟩ : ∃ m, (if v + v3 < ((sz st : Nat) : Int) - 1 then v + v3 else ((sz st : Nat) : Int) - 1) = m := ⟨_, rfl⟩
          rw [hm] at h9 h10 ⊢
          have hm3 : v ≤ m ∧ m < (sz st : Nat) ∧ m ≤ v + 4 := by split at hm <;> omega
          obtain ⟨pn, hpn⟩ := Int.eq_ofNat_of_zero_le (show 0 ≤ v by assumption)
          obtain ⟨n9, hn9⟩ : ∃ n9 : Nat, m + 1 = (pn : Int) + (n9 : Int) := ⟨(m + 1 - v).toNat, by omega⟩
          obtain ⟨w1, w2, w3⟩ := word_true (n := n9) (p := pn) hlen tru hg_x1 (by omega)
          have e8 : v.toNat = pn := by omega
          have e9 : (m + 1).toNat = pn + n9 := by omega
          rw [e8, e9, w1] at h9 h10
          rw [e8, e9, w1]
          have tru24 := (tru.learn _ w3).1
          have rdr23 := rdrC.row rowC b3
          have rdr24 := rdr23.same s1
          obtain ⟨dx5, g5, as5, he5, hg5, hd5, ha5, hos5, hga5⟩ := rdr24.obj
          have row24 : RowAt K S H25 r := RowAt.but3 far he5 hd5 h8 (row4.same s1)
          have tx24 : TA_ K H25 x st := text_but3 he5 hne hne2 hd5 ha5 h8 ((text_row rowC b3 txC).same s1)
          obtain ⟨nLe, nLd⟩ := rdrA.ne hLA
          have hL24 : H25 L = some (.lst (nV s.gs)) := h8 _ _ nLe nLd hLa (s1 _ _ (b3 _ _ (nV_row rowC hLC) hLC))
          obtain ⟨dx4, g4, as4, he4, hg4, hd4, ha4, hos4, hga4⟩ := h9.obj
          clear he hg hd ha hos hga he5 hg5 hd5 ha5 hos5 hga5
          generalize hs9 : (⟨s.gs, learnS s.lt ((grpsAt st s pn n9).zip (((lts st).take (pn + n9)).drop pn))⟩ : RS) = s9 at h9 h10 tru24 he4 hg4 hd4
          have hgs4 : s9.gs = s.gs := by rw [← hs9]
          have hgl4 : s9.gs.length ≤ 600 := by rw [hgs4]; omega
          rw [← hgs4] at hL24
          have hkw : (kvR (knw s9)).length = (kns s9).length := by rw [kvR_len]; unfold knw; rw [List.length_map]
          refine ⟨_, _, _, rfl, he4, _, _, _, _, _, _, rfl, h9, (by omega), fun l H26 n1 s2 e1 => ?_⟩
          have ne_l := row_ne row24 n1
          refine (.inr (.inr ⟨_, _, rfl, e1, (.inl ⟨rfl, _, rfl, ?_⟩)⟩))
          refine iT (vT (by omega)) ?_
          refine ⟨_, rfl, ?_⟩
          exact q L d2 s9 _ _ (row24.same (by assumption)) (h9.same (by assumption)) (tx24.same (by assumption)) h10 tru24 ((by assumption : Same H25 _) _ _ hL24) hLa (by simp)
        · exact (hW _ (by assumption) (by assumption)).1
        · exact (hW _ (by assumption) (by assumption)).2.1
        · exact (hW _ (by assumption) (by assumption)).2.2
      · refine ⟨_, rfl, _, rfl, _, _, _, rfl, hx_x, _, _, _, rfl, txA, (by omega), (by omega), fun k c H23 s1 e1 e2 => ?_⟩
        have hlt_k := ex_lt _ _ (List.mem_of_getElem? e1)
        refine ⟨_, rfl, _, rfl, _, _, _, rfl, (s1 _ _ hx_x), _, _, _, rfl, (TextAt.same txA s1), (by omega), (by omega), fun k1 c1 H24 s2 e3 e4 => ?_⟩
        have hlt_k1 := ex_lt _ _ (List.mem_of_getElem? e3)
        refine (.inl ⟨rfl, _, rfl, ?_⟩)
        refine iBn (fun hne9 => tl _ (s1.trans s2)) fun heq => ?_
        clear tl
        have hat1 : atI (nV s.gs) (k : Int) = some (.int (s.rg k : Nat)) := atI_nat (nV_get (by omega))
        have hat2 : atI (nV s.gs) (k1 : Int) = some (.int (s.rg k1 : Nat)) := atI_nat (nV_get (by omega))
        have hcc : c = c1 := by injection heq with z; simpa using sL_inj.mp z
        have hll : ltr st k = ltr st k1 := by rw [ltr_at e2, ltr_at e4, hcc]
        refine ⟨_, rfl, _, rfl, _, rfl, _, rfl, ⟨_, ⟨_, (s2 _ _ (s1 _ _ hx_x))⟩⟩, _, _, _, rfl, (TextAt.same txA (s1.trans s2)), (by omega), (by omega), fun k2 H25 s3 e5 => ?_⟩
        obtain rfl := Option.some.inj ((e1).symm.trans e5)
        refine (.inl ⟨_, _, _, _, rfl, rfl, (SqL.of (s3 _ _ (s2 _ _ (s1 _ _ hLA)))), hat1, _, rfl, _, rfl, _, rfl, _, rfl, ⟨_, ⟨_, (s3 _ _ (s2 _ _ (s1 _ _ hx_x)))⟩⟩, _, _, _, rfl, (TextAt.same txA ((s1.trans s2).trans s3)), (by omega), (by omega), fun k2 H26 s4 e6 => ?_⟩)
        obtain rfl := Option.some.inj ((e3).symm.trans e6)
        refine (.inl ⟨_, _, _, _, rfl, rfl, (SqL.of (s4 _ _ (s3 _ _ (s2 _ _ (s1 _ _ hLA))))), hat2, _, _, rfl, _, rfl, _, rfl, _, rfl, _, rfl, ⟨_, ⟨_, (s4 _ _ (s3 _ _ (s2 _ _ (s1 _ _ hx_x))))⟩⟩, _, _, _, rfl, (TextAt.same txA (((s1.trans s2).trans s3).trans s4)), (by omega), (by omega), fun k2 H27 s5 e7 => ?_⟩)
        obtain rfl := Option.some.inj ((e5).symm.trans e7)
        refine (.inl ⟨_, _, _, _, rfl, rfl, (SqL.of (s5 _ _ (s4 _ _ (s3 _ _ (s2 _ _ (s1 _ _ hLA)))))), hat1, _, rfl, _, rfl, _, rfl, _, rfl, ⟨_, ⟨_, (s5 _ _ (s4 _ _ (s3 _ _ (s2 _ _ (s1 _ _ hx_x)))))⟩⟩, _, _, _, rfl, (TextAt.same txA ((((s1.trans s2).trans s3).trans s4).trans s5)), (by omega), (by omega), fun k2 H28 s6 e8 => ?_⟩)
        obtain rfl := Option.some.inj ((e6).symm.trans e8)
        refine (.inl ⟨_, _, _, _, rfl, rfl, (SqL.of (s6 _ _ (s5 _ _ (s4 _ _ (s3 _ _ (s2 _ _ (s1 _ _ hLA))))))), hat2, _, _, rfl, (by (show 2 ≤ _; decide)), fun p n => ?_⟩)
        have ne_p := row_ne (RowAt.same row3 (((((s1.trans s2).trans s3).trans s4).trans s5).trans s6)) n
        generalize hE : upd H28 p _ = H1
        have s7 : Same H28 H1 := hE ▸ same_upd n
        have e_p := (congrFun hE p).symm.trans upd_same
        clear hE
        refine ⟨_, _, rfl, (SqT.of e_p), rfl, _, _, rfl, _, _, rfl, rfl, _, rfl, _, rfl, ⟨_, (SqL.of (s7 _ _ (s6 _ _ (s5 _ _ (s4 _ _ (s3 _ _ (s2 _ _ (s1 _ _ hLA))))))))⟩, fun D1 n1 => ?_⟩
        have ne_D1 := row_ne (RowAt.same row3 ((((((s1.trans s2).trans s3).trans s4).trans s5).trans s6).trans s7)) n1
        generalize hσ : List.set _ _ _ = σ1
        simp only [L2.start, List.set_cons_zero, List.set_cons_succ, List.map_cons, List.map_nil, List.length_cons, List.length_nil, List.replicate_succ, List.replicate_zero, List.cons_append, List.nil_append, Nat.reduceAdd, Nat.reduceSub] at hσ
        subst hσ
        have hlo : (if ((s.rg k1 : Nat) : Int) < ((s.rg k : Nat) : Int) then ((s.rg k1 : Nat) : Int) else ((s.rg k : Nat) : Int)) = ((min (s.rg k) (s.rg k1) : Nat) : Int) := by split <;> omega
        have hhi : (if ((s.rg k1 : Nat) : Int) > ((s.rg k : Nat) : Int) then ((s.rg k1 : Nat) : Int) else ((s.rg k : Nat) : Int)) = ((max (s.rg k) (s.rg k1) : Nat) : Int) := by split <;> omega
        have hm1 : ltr st (min (s.rg k) (s.rg k1)) = ltr st (max (s.rg k) (s.rg k1)) := by
          have g1 := tru.gr k hlt_k
          have g2 := tru.gr k1 hlt_k1
          rcases Nat.le_total (s.rg k) (s.rg k1) with z | z
          · rw [Nat.min_eq_left z, Nat.max_eq_right z, ← g1, ← g2, hll]
          · rw [Nat.min_eq_right z, Nat.max_eq_left z, ← g1, ← g2, hll]
        rw [hlo, hhi]
        have truH := tru.hear ok hm1
        obtain ⟨lo, hloN⟩ : ∃ lo, min (s.rg k) (s.rg k1) = lo := ⟨_, rfl⟩
        obtain ⟨hi, hhiN⟩ : ∃ hi, max (s.rg k) (s.rg k1) = hi := ⟨_, rfl⟩
        rw [hloN, hhiN] at truH ⊢
        have sZ : Same H22 H1 := s1.trans (s2.trans (s3.trans (s4.trans (s5.trans (s6.trans s7)))))
        refine lc_map (walk_list (xs := nV s.gs)) n1 (fun i => V.int ((hearS s lo hi).gs.getD i 0 : Nat)) (by rw [nV_len]; exact small_ok (by omega)) (fun H3 s3 => SqL.of (s3 _ _ (sZ _ _ hLA))) ?_ ?_
        · rintro i u H3 H4 N hi9 s8 ⟨rfl, hu⟩ hN
          rw [nV_len] at hi9
          cases (nV_get hi9).symm.trans hu
          have e9 : s.gs.getD i 0 = s.rg i := rfl
          have e8 : (hearS s lo hi).gs.getD i 0 = if s.rg i = hi then lo else s.rg i := hear_rg hi9
          rw [e9]
          rw [e8] at hN
          refine ⟨rfl, _, rfl, _, rfl, (.inl ⟨rfl, _, rfl, ?_⟩)⟩
          refine iV (fun hv => ?_) fun hv => ?_
          · rw [if_pos (by omega)] at hN
            refine ⟨_, rfl, ?_⟩
            exact hN _ (Same.refl _)
          · rw [if_neg (by omega)] at hN
            refine ⟨_, rfl, ?_⟩
            exact hN _ (Same.refl _)
        · intro H3 s8 hD3
          have hal2 : (hearS s lo hi).gs.length = s.gs.length := by unfold hearS; rw [List.length_map]
          rw [nV_len, ← hal2] at hD3
          have hD4 : H3 D1 = some (.lst (nV (hearS s lo hi).gs)) := by
            rw [hD3]
            unfold nV
            refine congrArg (fun z => some (HO.lst z)) ?_
            refine List.ext_getElem (by simp) fun i h5 h6 => ?_
            simp only [List.length_map, List.length_range] at h5
            simp [List.getD_eq_getElem?_getD, List.getElem?_eq_getElem h5]
          clear hD3
          have rdrD := (rdrA.same sZ).same s8
          have txD := (txA.same sZ).same s8
          have rowD := (row3.same sZ).same s8
          obtain ⟨dx5, g5, as5, he5, hg5, hd5, ha5, hos5, hga5⟩ := rdrD.obj
          have hD1a : D1 ≠ a := (ne_of_none (sZ _ _ ha) n1).symm
          clear he hg hd ha hos hga
          have hkk : ∀ k9 m9 c9 c2, (ex st)[v.toNat]? = some k9 → (ex st)[v1.toNat]? = some m9 → s.le k9 = some c9 → s.le m9 = some c2 → c9 = c2 := fun k9 m9 c9 c2 g1 g2 g3 g4 => by
            rw [e1] at g1
            rw [e3] at g2
            cases g1
            cases g2
            rw [tru.le hlt_k g3, tru.le hlt_k1 g4, hll]
          refine ⟨_, rfl, _, _, _, rfl, he5, rfl, _, rfl, _, rfl, _, _, _, _, _, _, _, _, _, rfl, rdrD, txD, ok, (by omega), (by omega), (by omega), (by omega), (by omega), ?_⟩
          refine ⟨hkk, fun k2 m H29 e9 e10 h6 h7 h8 => ?_⟩
          obtain rfl := Option.some.inj ((e8).symm.trans e10)
          obtain rfl := Option.some.inj ((e7).symm.trans e9)
          refine ⟨_, rfl, ?_⟩
          have row29 : RowAt K S H29 r := RowAt.but3 far he5 hd5 h6 rowD
          have tx29 : TA_ K H29 x st := text_but3 he5 hne hne2 hd5 ha5 h6 txD
          obtain ⟨nDe, nDd⟩ := rdrD.ne hD4
          have hD29 : H29 D1 = some (.lst (nV (hearS s lo hi).gs)) := h6 _ _ nDe nDd hD1a hD4
          rw [hloN, hhiN] at h7 h8 ⊢
          obtain ⟨dx4, g4, as4, he4, hg4, hd4, ha4, hos4, hga4⟩ := h7.obj
          clear he5 hg5 hd5 ha5 hos5 hga5
          have hsur : surely (hearS s lo hi) ((hearS s lo hi).rg k) ((hearS s lo hi).rg k1) = true := by
            unfold surely
            rw [hear_rg (by omega), hear_rg (by omega)]
            have : (if s.rg k = hi then lo else s.rg k) = (if s.rg k1 = hi then lo else s.rg k1) := by
              split <;> split <;> omega
            rw [this, decide_eq_true rfl]
            rfl
          have hkw : (kvR (knw (hearS s lo hi))).length = (kns (hearS s lo hi)).length := by rw [kvR_len]; unfold knw; rw [List.length_map]
          generalize hearS s lo hi = s9 at h7 h8 truH hal2 hD4 hD29 hg4 hd4 hsur hkw ⊢
          have hgl4 : s9.gs.length ≤ 600 := by omega
          refine ⟨_, _, _, rfl, he4, rfl, _, _, _, _, _, _, rfl, h7, (by omega), fun H210 s10 => ?_⟩
          refine (.inl ⟨rfl, _, rfl, ?_⟩)
          refine iF (nF (vT rfl)) ?_
          refine ⟨_, rfl, _, _, _, rfl, (s10 _ _ he4), rfl, _, rfl, _, rfl, _, _, _, _, _, _, _, _, _, rfl, (h7.same s10), (TextAt.same tx29 s10), h8, (by omega), (by omega), (by omega), (by omega), fun k2 m H211 s11 e11 e12 => ?_⟩
          obtain rfl := Option.some.inj ((e10).symm.trans e12)
          obtain rfl := Option.some.inj ((e9).symm.trans e11)
          refine ⟨_, rfl, ?_⟩
          refine iF (nF hsur) ?_
          refine ⟨_, rfl, _, _, _, rfl, (s11 _ _ (s10 _ _ he4)), _, _, _, _, _, _, rfl, (h7.same (s10.trans s11)), (by omega), fun l H212 n2 s12 e13 => ?_⟩
          have ne_l := row_ne (RowAt.same row29 (s10.trans s11)) n2
          refine (.inr (.inr ⟨_, _, rfl, e13, _, rfl, _, rfl, _, _, _, rfl, (s12 _ _ (s11 _ _ (s10 _ _ he4))), _, _, _, _, _, _, rfl, (h7.same ((s10.trans s11).trans s12)), (by omega), fun l1 H213 n3 s13 e14 => ?_⟩))
          have ne_l1 := row_ne (RowAt.same row29 ((s10.trans s11).trans s12)) n3
          generalize hσ : List.set _ _ _ = σ1
          simp only [L2.start, List.set_cons_zero, List.set_cons_succ, List.map_cons, List.map_nil, List.length_cons, List.length_nil, List.replicate_succ, List.replicate_zero, List.cons_append, List.nil_append, Nat.reduceAdd, Nat.reduceSub] at hσ
          subst hσ
          refine (.inr (.inr ⟨_, _, rfl, e14, (.inl ⟨rfl, _, rfl, ?_⟩)⟩))
          refine iT (vT rfl) ?_
          refine ⟨_, rfl, ?_⟩
          have sE : Same H29 H213 := s10.trans (s11.trans (s12.trans s13))
          exact q D1 d s9 _ H213 (row29.same sE) (h7.same sE) (tx29.same sE) h8 truH (sE _ _ hD29) hD1a (by simp)
end
end KL
namespace KL
open PySem PySem.Spec PyProof.Rows L2 Pk He
theorem typed_relet (ls : List Nat) : ∀ (st : List Stp) (n : Nat), n + nk st ≤ ls.length → typed (relet ls n st) = (ls.drop n).take (nk st)
  | [], n, h => by simp [relet, typed, nk]
  | .wr w :: r, n, h => by
    have e1 : nk (.wr w :: r) = w.length + nk r := by simp [nk, Stp.ks]
    rw [e1] at h ⊢
    have ih := typed_relet ls r (n + w.length) (by omega)
    show (ls.drop n).take w.length ++ typed (relet ls (n + w.length) r) = _
    rw [ih, List.take_add, List.drop_drop]
  | .pa f l t :: r, n, h => by
    have e1 : nk (.pa f l t :: r) = nk r := by simp [nk, Stp.ks]
    rw [e1] at h ⊢
    exact typed_relet ls r n h
theorem typed_relet0 {ls : List Nat} {st : List Stp} (h : ls.length = nk st) : typed (relet ls 0 st) = ls := by
  rw [typed_relet ls st 0 (by omega), List.drop_zero, ← h, List.take_length]
theorem all_map (l : List Nat) : (List.range l.length).map (fun i => V.str (sL [l.getD i 0])) = (l.map (fun c => sL [c])).map V.str := by
  refine List.ext_getElem (by simp) fun i h1 h2 => ?_
  simp only [List.length_map, List.length_range] at h1
  simp [List.getD_eq_getElem?_getD, List.getElem?_eq_getElem h1]
section
variable {ls : List Nat} {st : List Stp}
theorem nk_relet (h : ls.length = nk st) : nk (relet ls 0 st) = nk st := by rw [← typed_len, typed_relet0 h, h]
theorem sz_relet (hg : Goes most 0 st) (hl : ls.all isLet = true) (h : ls.length = nk st) : sz (relet ls 0 st) = sz st := by
  have g2 := goes_relet (n := 0) hl hg (by omega)
  rw [← ex_len _ g2, ex_relet h, ex_len _ hg]
theorem cnt_relet (h : ls.length = nk st) (k p : Nat) : cnt (relet ls 0 st) k p = cnt st k p := by
  unfold Pk.cnt
  rw [ex_relet h]
theorem cntP_relet (h : ls.length = nk st) (P : Nat → Bool) (p : Nat) : cntP (relet ls 0 st) P p = cntP st P p := by
  unfold cntP
  rw [ex_relet h]
theorem lP_relet (h : ls.length = nk st) (c k : Nat) : lP (relet ls 0 st) c k = (ls.getD k 0 == c) := by
  unfold lP
  rw [typed_relet0 h]
theorem cntP_congr {P L : Nat → Bool} (h : ∀ k, k < nk st → P k = L k) (p : Nat) : cntP st P p = cntP st L p := by
  unfold cntP
  refine List.countP_congr fun x hx => ?_
  rw [h x (ex_lt st x (List.mem_of_mem_take hx))]
theorem set_len (k c : Nat) : ((typed st).set k c).length = nk st := by rw [List.length_set, typed_len]
theorem set_let {k c : Nat} (hl : (typed st).all isLet = true) (hc : isLet c = true) : ((typed st).set k c).all isLet = true := by
  rw [List.all_eq_true] at hl ⊢
  intro x hx
  rcases List.mem_or_eq_of_mem_set hx with z | z
  · exact hl x z
  · rw [z]
    exact hc
/-- a letter that did not stand there is counted as the key that got it -/
theorem cntP_new {k c : Nat} (hk : k < nk st) (hc : c ∉ typed st) (p : Nat) : cntP (relet ((typed st).set k c) 0 st) (lP (relet ((typed st).set k c) 0 st) c) p = cnt st k p := by
  rw [cntP_relet (set_len k c), ← cnt_in]
  refine cntP_congr (fun x hx => ?_) p
  rw [lP_relet (set_len k c), isIn_one, List.getD_eq_getElem?_getD, List.getElem?_set]
  by_cases e : k = x
  · rw [if_pos e, if_pos (by rw [typed_len]; exact hk), decide_eq_true e.symm]
    simp
  · rw [if_neg e, decide_eq_false (fun z => e z.symm), key_typed hx]
    show (ltr st x == c) = false
    rw [beq_eq_false_iff_ne]
    intro z
    exact hc (z ▸ List.mem_of_getElem? (key_typed hx))
end
theorem relet_self (l : List Nat) : ∀ (st : List Stp) (n : Nat), (l.drop n).take (nk st) = typed st → relet l n st = st
  | [], n, _ => rfl
  | .wr w :: r, n, h => by
    have e1 : nk (.wr w :: r) = w.length + nk r := by simp [nk, Stp.ks]
    have e2 : typed (.wr w :: r) = w ++ typed r := rfl
    rw [e1, e2, List.take_add] at h
    have hl : ((l.drop n).take w.length).length = w.length := by
      have h2 := congrArg List.length h
      simp only [List.length_append, List.length_take, List.length_drop, typed_len] at h2 ⊢
      omega
    obtain ⟨h1, h2⟩ := List.append_inj h hl
    rw [List.drop_drop] at h2
    show Stp.wr ((l.drop n).take w.length) :: relet l (n + w.length) r = _
    rw [h1, relet_self l r (n + w.length) h2]
  | .pa f a t :: r, n, h => by
    have e1 : nk (.pa f a t :: r) = nk r := by simp [nk, Stp.ks]
    rw [e1] at h
    show Stp.pa f a t :: relet l n r = _
    rw [relet_self l r n h]
end KL
namespace KL
open PySem PySem.Spec PyProof.Rows L2 Pk He
theorem opn_lrn {s : RS} {g c : Nat} (hl : s.lt.lookup g = none) : opn ⟨s.gs, lrn1 s.lt (g, c)⟩ = (opn s).filter fun k => decide (k ≠ g) := by
  unfold opn
  rw [List.filter_filter]
  refine List.filter_congr fun k _ => ?_
  show (decide (k = s.rg k) && !((lrn1 s.lt (g, c)).lookup k).isSome) = (decide (k ≠ g) && (decide (k = s.rg k) && !(s.lt.lookup k).isSome))
  rw [lrn1_at]
  by_cases e : k = g
  · subst e
    rw [hl]
    simp
  · cases s.lt.lookup k with
    | none => simp [e]
    | some d => simp
theorem opn_next {s : RS} {g c : Nat} {rest : List Nat} (h : opn s = g :: rest) : opn ⟨s.gs, lrn1 s.lt (g, c)⟩ = rest := by
  have hm : g ∈ opn s := by rw [h]; exact List.mem_cons_self
  have ha := opn_asc s
  rw [opn_lrn (opn_mem.mp hm).2.2, h]
  rw [h, List.pairwise_cons] at ha
  rw [List.filter_cons, if_neg (by simp)]
  refine List.filter_eq_self.mpr fun k hk => ?_
  have := ha.1 k hk
  exact decide_eq_true (by omega)
theorem kns_lt {s : RS} {k : Nat} (hk : k < s.gs.length) (h : s.le k = none) : (kns s).length < s.gs.length := by
  unfold kns
  have h2 : ((List.range s.gs.length).filter fun k => (s.le k).isSome).length < (List.range s.gs.length).length := List.length_filter_lt_length_iff_exists.mpr ⟨k, List.mem_range.mpr hk, by rw [h]; decide⟩
  rwa [List.length_range] at h2
theorem places_asc {st : List Stp} {s : RS} (hg : Goes most 0 st) (hl : s.gs.length = nk st) : ((opn s).map (wpl st)).Pairwise (· < ·) := by
  refine List.pairwise_map.mpr ?_
  refine List.Pairwise.imp_of_mem (fun {a b} ha hb hab => ?_) (opn_asc s)
  exact wpl_mono hg hab (by have := (opn_mem.mp hb).1; omega)
section
variable {P : Program} {w : World} {K : Fr} {mg : Str → Option Value} {base : Heap} {f : Addr}
-- hint: _law_known.get(_law_key, 'q') => rget
-- hint: _law_key not in _law_known => pc_rnotin (hu9 hr.units)
-- hint: _law_text[_law_place] => own
-- hint: sorted(_law_places) => (pk_b1 (cr_sortedB K) T.srt b_sorted $0)
theorem ok_law {fd : FuncData} (D : FunD K "law" "law" (defArgs sLaw) (defBody sLaw) (defScope sLaw) [] [] f fd) (T : Tc w K mg) (G_law_taken : Kp P w K mg base 1 (ga K "_law_taken") (spTaken K)) (G_law_steps : Kp P w K mg base 3 (ga K "_law_steps") (spSteps K)) (G_law_is_seen : Kp P w K mg base 12 (ga K "_law_is_seen") (spIsSeen K)) (G_law_is_told : Kp P w K mg base 9 (ga K "_law_is_told") (spIsTold K)) (G_KeyReader_init : Kp P w K mg base 3 (ma K (ga K "KeyReader") "__init__") (spRdInit K)) (G_KeyReader_text_with : Kp P w K mg base 8 (ma K (ga K "KeyReader") "text_with") (spTextWith K)) (G_KeyReader_known_letters : Kp P w K mg base 1 (pgA K (ga K "KeyReader") "known_letters") (spKnown K)) (G_KeyReader_fewest_places : Kp P w K mg base 2 (ma K (ga K "KeyReader") "fewest_places") (spFewestP K)) (G_KeyReader_see : Kp P w K mg base 8 (ma K (ga K "KeyReader") "see") (spSee K)) (G_KeyReader_count_texts : Kp P w K mg base 2 (ma K (ga K "KeyReader") "count_texts") (spCountT K)) (G_Text_of_steps : Kp P w K mg base 7 (He5.wf K (CT K) "classmethod" "of_steps") (spOf K)) (G_Text_size : Kp P w K mg base 1 (pgA K (CT K) "size") (spSize K)) (G_Text_typed_keys : Kp P w K mg base 1 (pgA K (CT K) "typed_keys") (spTyped K)) (G_Text_getitem : Kp P w K mg base 3 (ma K (CT K) "__getitem__") (spGet K)) (G_Text_eq : Kp P w K mg base 1 (ma K (CT K) "__eq__") (spEqT K)) : FnOk P w K mg base CX0 34 f fd ["_law_script"] (spLaw K) := by
  have G_law_steps := stepsI G_law_steps
  have G_Text_getitem := getI G_Text_getitem
  have G_Text_eq := eqI G_Text_eq
  refine fn_of D sc_law ?_ (fun cdv A outer s H vs Q E hr h => ?_)
  · rintro vs H Q E ⟨scr, ns, rfl, _⟩
    rfl
  · obtain ⟨scr, ns, rfl, hs, q⟩ := h
    have hmost : most = 1000000000000000000 := rfl
    refine ⟨_, (pss_cons (ps_set (i := 1) sc_law.nd rfl (Or.inl rfl) (pe_lst (pa_cons (pv 0) (pa_cons pe_int (pa_cons pe_int (pa_cons pe_int pa_nil)))))) (pss_cons (ps_for PassesOwn.never rfl (pi_range1 (by rfl) T.rng (pa_cons pe_int pa_nil)) (pg_name (i := 2) sc_law.nd rfl (Or.inl rfl)) (pss_cons (ps_set (i := 3) sc_law.nd rfl (Or.inl rfl) (ClX.pe_cmeth (pe_gR T.gText) T.rd T.cmOf G_Text_of_steps.fnR (hr.mono (by omega)) pass0 (pa_cons (pk_t1 (listK K) T.lst b_list (pk_call G_law_steps (hr.mono (by omega)) T.gSteps (pa_cons (pv 1) (pa_cons (pe_op (addA K) pe_int (pk_call G_law_taken (hr.mono (by omega)) T.gTaken (pa_cons (pv 1) (pa_cons pe_int pa_nil)))) (pa_cons pe_int pa_nil))))) pa_nil))) (pss_cons (ps_asg (pe_tup (pa_cons (StX.pe_makeR T.mkKeyReader G_KeyReader_init.fnR (hr.mono (by omega)) rfl T.g_KeyReader pass0 (pa_cons (pv 3) pa_nil)) (pa_cons (pe_listRg rfl (by rfl) T.lst (prg_1 (by rfl) T.rng (pk_b1 (lenA K) T.len b_len (pk_prop (pv 3) T.clT T.pTyped G_Text_typed_keys (hr.mono (by omega)))))) pa_nil))) (pg_tup rfl (pgs_cons (pg_name (i := 4) sc_law.nd rfl (Or.inl rfl)) (pgs_cons (pg_name (i := 5) sc_law.nd rfl (Or.inr rfl)) pgs_nil)))) (pss_cons (ps_for PassesOwn.never rfl (pi_range1 (by rfl) T.rng (pa_cons pe_int pa_nil)) (pg_name (i := 6) sc_law.nd rfl (Or.inl rfl)) (pss_cons (ps_set (i := 5) sc_law.nd rfl (Or.inr rfl) (pk_call G_law_is_seen (hr.mono (by omega)) T.g_law_is_seen (pa_cons (pv 1) (pa_cons (pv 4) (pa_cons (pv 3) (pa_cons (pv 5) pa_nil)))))) (pss_one (ps_if (pw_or (pt_cmp (pc_isN (pv 5))) (pw_or1 (pt_not (pt_val (pk_call G_law_is_told (hr.mono (by omega)) T.g_law_is_told (pa_cons (pv 4) (pa_cons (pv 3) (pa_cons (pv 5) pa_nil)))))))).pt (pss_one (ps_ret pe_bl)) pss_nil)))) (pss_cons (ps_set (i := 7) sc_law.nd rfl (Or.inl rfl) (pe_methR (pv 4) T.clKeyReader T.m_KeyReader_text_with G_KeyReader_text_with.fnR (hr.mono (by omega)) pass0 (pa_cons pe_str pa_nil))) (pss_cons (ps_set (i := 8) sc_law.nd rfl (Or.inr rfl) (pk_prop (pv 4) T.clKeyReader T.p_KeyReader_known_letters G_KeyReader_known_letters (hr.mono (by omega)))) (pss_cons (ps_if (pw_or (pt_cmpR ((neB K hr.units).or (op_neO T.oEq T.neT T.insT.hm G_Text_eq.fnR (hr.mono (by omega)) pass0)) (pk_prop (pv 7) T.clT T.pTyped G_Text_typed_keys (hr.mono (by omega))) (pe_joinK K pe_str (pe_lc (own := [("_law_key", 11)]) (g := gName 11) (tt := tYes) rfl sc_law.nd (pi_range1 (by rfl) T.rng (pa_cons (pk_b1 (lenA K) T.len b_len (pv 5)) pa_nil)) (blkOk_by (N := ["_law_script", "_law_row", "_law_turn", "_law_text", "_law_reader", "_law_tied", "_law_again", "_law_other", "_law_known", "_law_places", "_law_place", "_law_key"]) (sc := defScope sLaw) (by decide +kernel)) (fun _ _ _ _ _ => (pg_name (i := 11) sc_law.nd rfl (Or.inl rfl))) (fun _ _ _ _ _ => pts_nil) (fun _ _ _ _ _ => (pe_rget2 (hu9 hr.units) (pv 8) (pv 11) pe_str ⟨rfl, rfl, rfl, rfl⟩)))) (nomark _)) (pw_or1 (pt_cmpR ((neB K hr.units).or (op_neO T.oEq T.neT T.insT.hm G_Text_eq.fnR (hr.mono (by omega)) pass0)) (pk_prop (pv 7) T.clT T.pSize G_Text_size (hr.mono (by omega))) (pk_prop (pv 3) T.clT T.pSize G_Text_size (hr.mono (by omega))) (nomark _)))).pt (pss_one (ps_ret pe_bl)) pss_nil) (pss_cons (ps_set (i := 9) sc_law.nd rfl (Or.inl rfl) (pe_methR0 (pv 4) T.clKeyReader T.m_KeyReader_fewest_places G_KeyReader_fewest_places.fnR (hr.mono (by omega)) pass0)) (pss_cons (ps_if (pt_cmpR ((neB K hr.units).or (op_neO T.oEq T.neT T.insT.hm G_Text_eq.fnR (hr.mono (by omega)) pass0)) (pk_b1 (lenA K) T.len b_len (pv 9)) (pe_lenSetI K (by rfl) T.len (by rfl) T.set_ (pe_lc (own := [("_law_key", 11)]) (g := gName 11) rfl sc_law.nd (pi_range1 (by rfl) T.rng (pa_cons (pk_b1 (lenA K) T.len b_len (pv 5)) pa_nil)) (blkOk_by (N := ["_law_script", "_law_row", "_law_turn", "_law_text", "_law_reader", "_law_tied", "_law_again", "_law_other", "_law_known", "_law_places", "_law_place", "_law_key"]) (sc := defScope sLaw) (by decide +kernel)) (fun _ _ _ _ _ => (pg_name (i := 11) sc_law.nd rfl (Or.inl rfl))) (fun _ _ _ _ _ => (pts_one (pt_cmp (pc_rnotin (hu9 hr.units) (pv 11) (pv 8))))) (fun _ _ _ _ _ => (pe_ix (ixS K) (pv 5) (pv 11) (fun _ _ => rfl))))) (nomark _)) (pss_one (ps_ret pe_bl)) pss_nil) (pss_cons (ps_if (pt_cmpR ((neB K hr.units).or (op_neO T.oEq T.neT T.insT.hm G_Text_eq.fnR (hr.mono (by omega)) pass0)) (pv 9) (pk_b1 (cr_sortedB K) T.srt b_sorted (pv 9)) (nomark _)) (pss_one (ps_ret pe_bl)) pss_nil) (pss_cons (ps_for PassesOwn.never rfl (pi_list (pv 9)) (pg_name (i := 10) sc_law.nd rfl (Or.inl rfl)) (pss_cons (ps_if (pt_cmpR ((eqB K hr.units).or (op_eqO T.oEq G_Text_eq.fnR (hr.mono (by omega)) pass0)) (pk_b1 (lenA K) T.len b_len (pk_prop (pv 4) T.clKeyReader T.p_KeyReader_known_letters G_KeyReader_known_letters (hr.mono (by omega)))) (pk_b1 (lenA K) T.len b_len (pv 5)) (nomark _)) (pss_one (ps_ret pe_bl)) pss_nil) (pss_one (ps_expr (pe_methR (pv 4) T.clKeyReader T.m_KeyReader_see G_KeyReader_see.fnR (hr.mono (by omega)) pass0 (pa_cons (pv 10) (pa_cons (pe_getO T.oGet G_Text_getitem.fnR (hr.mono (by omega)) pass0 (pv 3) (pv 10)) pa_nil))))))) (pss_one (ps_if (pw_or (pt_cmpR ((neB K hr.units).or (op_neO T.oEq T.neT T.insT.hm G_Text_eq.fnR (hr.mono (by omega)) pass0)) (pe_methR0 (pv 4) T.clKeyReader T.m_KeyReader_count_texts G_KeyReader_count_texts.fnR (hr.mono (by omega)) pass0) pe_int (nomark _)) (pw_or (pt_cmpR ((neB K hr.units).or (op_neO T.oEq T.neT T.insT.hm G_Text_eq.fnR (hr.mono (by omega)) pass0)) (pe_methR0 (pv 4) T.clKeyReader T.m_KeyReader_fewest_places G_KeyReader_fewest_places.fnR (hr.mono (by omega)) pass0) (pe_lst pa_nil) (nomark _)) (pw_or1 (pt_not (pt_cmpR ((eqB K hr.units).or (op_eqO T.oEq G_Text_eq.fnR (hr.mono (by omega)) pass0)) (pe_methR (pv 4) T.clKeyReader T.m_KeyReader_text_with G_KeyReader_text_with.fnR (hr.mono (by omega)) pass0 (pa_cons pe_str pa_nil)) (pv 3) (nomark _)))))).pt (pss_one (ps_ret pe_bl)) pss_nil))))))))))))) (pss_one (ps_ret pe_bl)))), ?_⟩
    refine ⟨_, rfl, (by (show 4 ≤ _; decide)), fun p n => ?_⟩
    generalize hE : upd H p _ = H1
    have s1 : Same H H1 := hE ▸ same_upd n
    have e_p := (congrFun hE p).symm.trans upd_same
    clear hE
    refine ⟨_, rfl, (by omega), (by omega), ?_⟩
    have row := row_new hs n s1 e_p
    clear hs n s1 e_p
    refine for_range (lo := 0) (n := (3 : Int).toNat) (fun i σ HB => ∃ v2 v3 v4 v5 v6 v7 v8 v9 v10 : Option V, σ = [some (.ref scr), some (.ref p), v2, v3, v4, v5, v6, v7, v8, v9, v10, none] ∧ RowAt K (scr, ns) HB p) ⟨_, _, _, _, _, _, _, _, _, rfl, row⟩ ?_ ?_
    · rintro i σ HB hi ⟨v2, v3, v4, v5, v6, v7, v8, v9, v10, rfl, rowB⟩
      refine ⟨rfl, _, rfl, _, rfl, _, _, rfl, _, rowB, (by omega), (by omega), fun v H2 row1 b h h1 => ?_⟩
      refine (.inl ⟨_, _, rfl, rfl, _, _, _, rfl, _, row1, (by omega), (by omega), (by omega), (by omega), fun a as st H21 row2 b1 h2 h3 h4 h5 h6 h7 h8 => ?_⟩)
      refine ⟨_, _, rfl, (.inr h2), fun l n => ?_⟩
      have ne_l := row_ne row2 n
      generalize hE : upd H21 l _ = H11
      have s1 : Same H21 H11 := hE ▸ same_upd n
      have e_l := (congrFun hE l).symm.trans upd_same
      clear hE
      refine ⟨_, _, _, rfl, e_l, (StepsAt.same h3 s1), h5, (by omega), fun x H22 n1 s2 t => ?_⟩
      have ne_x := row_ne (RowAt.same row2 s1) n1
      obtain ⟨dx_x, ts_x, sp_x, as_x, ss_x, hx_x, hts_x, hst_x, hsp_x, hss_x⟩ := t.obj
      have hty_x := typed_small t
      have hnk_x := text_nk t
      have hg_x := t.good
      have nr_x := text_ne (RowAt.same row2 (s1.trans s2)) t
      refine ⟨_, rfl, fun x1 dx n2 n3 h9 => ?_⟩
      have ne_dx := row_ne (RowAt.same row2 (s1.trans s2)) n3
      generalize hE : upd H22 dx _ = H12
      have s3 : Same H22 H12 := hE ▸ same_upd n3
      have e_dx := (congrFun hE dx).symm.trans upd_same
      clear hE
      generalize hE : upd H12 x1 _ = H13
      have b2 : But x1 H12 H13 := hE ▸ but_upd
      have s4 : Same H22 H13 := hE ▸ same_own s3 n2
      have s5 : Same H11 H13 := hE ▸ same_own (s2.trans s3) (s2.free n2)
      have s6 : Same H21 H13 := hE ▸ same_own ((s1.trans s2).trans s3) ((s1.trans s2).free n2)
      have e_x1 := (congrFun hE x1).symm.trans upd_same
      clear hE
      generalize hσ : List.set _ _ _ = σ1
      simp only [L2.start, List.set_cons_zero, List.set_cons_succ, List.map_cons, List.map_nil, List.length_cons, List.length_nil, List.replicate_succ, List.replicate_zero, List.cons_append, List.nil_append, Nat.reduceAdd, Nat.reduceSub] at hσ
      subst hσ
      refine ⟨_, _, _, _, rfl, e_x1, (TextAt.same t s4), fun d a1 H23 n4 n5 b3 h10 => ?_⟩
      have ne_a1 := row_ne (RowAt.same row2 s6) n5
      refine ⟨rfl, _, rfl, _, _, _, rfl, (b3 _ _ (ne_of_none hx_x n2) (s4 _ _ hx_x)), _, _, rfl, (TextAt.same t (but_new s4 b3 n2)), (.inl ⟨_, rfl, (by exact small_ok (by omega)), _, rfl, ⟨(by omega), ⟨(by omega), ⟨(by omega), ⟨(by omega), (by omega)⟩⟩⟩⟩, fun q1 n6 => ?_⟩)⟩
      have ne_q1 := row_ne (RowAt.same row2 (but_new s6 b3 ((s1.trans s2).free n2))) n6
      generalize hE : upd H23 q1 _ = H14
      have s7 : Same H23 H14 := hE ▸ same_upd n6
      have e_q1 := (congrFun hE q1).symm.trans upd_same
      clear hE
      refine ⟨(by (show 2 ≤ _; decide)), fun p1 n7 => ?_⟩
      have ne_p1 := row_ne (RowAt.same row2 ((but_new s6 b3 ((s1.trans s2).free n2)).trans s7)) n7
      generalize hE : upd H14 p1 _ = H15
      have s8 : Same H14 H15 := hE ▸ same_upd n7
      have e_p1 := (congrFun hE p1).symm.trans upd_same
      clear hE
      refine ⟨_, _, rfl, (SqT.of e_p1), rfl, _, _, rfl, _, _, rfl, rfl, _, rfl, (by omega), (by omega), ?_⟩
      generalize hσ : List.set _ _ _ = σ1
      simp only [L2.start, List.set_cons_zero, List.set_cons_succ, List.map_cons, List.map_nil, List.length_cons, List.length_nil, List.replicate_succ, List.replicate_zero, List.cons_append, List.nil_append, Nat.reduceAdd, Nat.reduceSub] at hσ
      subst hσ
      have hne : ga K "Text" ≠ ga K "KeyReader" := by first | exact T.ne_Text_KeyReader | exact T.ne_KeyReader_Text.symm
      have hne2 : ga K "Span" ≠ ga K "KeyReader" := by first | exact T.ne_Span_KeyReader | exact T.ne_KeyReader_Span.symm
      have row13 : RowAt K (scr, ns) H13 p := by
        exact (RowAt.same row2 s6)
      have tx13 : TA_ K H13 x st := by
        exact (TextAt.same t s4)
      have far : FarRow K (scr, ns) p a1 := ⟨H13, row13, n5⟩
      have row15 : RowAt K (scr, ns) H15 p := ((RowAt.butR e_x1 b3 row13).same s7).same s8
      have tx15 : TA_ K H15 x st := ((text_butR e_x1 hne hne2 b3 tx13).same s7).same s8
      have rdr15 := (h10.same s7).same s8
      have hq15 : H15 q1 = some (.lst (nV (rs0 (nk st)).gs)) := by
        rw [s8 _ _ e_q1, sL_len, typed_len]
        unfold rgV nV rs0
        simp
      have hqa : q1 ≠ a1 := by
        obtain ⟨_, _, _, _, _, _, ha9, _⟩ := h10.obj
        exact (ne_of_none ha9 n6).symm
      have hnk := text_nk tx15
      have hszp : 0 < sz st := by omega
      have hszt : sz st ≤ 1000 := by omega
      refine for_range (lo := 0) (n := (4 : Int).toNat) (fun j σ HB => ∃ (L d : Addr) (s : RS) (os : List Ob) (v6 v7 v8 v9 v10 : Option V), σ = [some (.ref scr), some (.ref p), some (.int (0 + (i : Int))), some (.ref x), some (.ref x1), some (.ref L), v6, v7, v8, v9, v10, none] ∧
        RowAt K (scr, ns) HB p ∧ RdrAt K HB x1 x d a1 s os ∧ TA_ K HB x st ∧ RsOk (nk st) s ∧ Tru st s ∧ HB L = some (.lst (nV s.gs)) ∧ L ≠ a1 ∧ os.length ≤ j) ⟨q1, d, rs0 (nk st), [], _, _, _, _, _, rfl, row15, rdr15, tx15, rsOk0 _, tru0 st, hq15, hqa, Nat.le_refl _⟩ ?_ ?_
      · rintro j σ HB hj ⟨L, d, s, os, v6, v7, v8, v9, v10, rfl, rowB9, rdrB, txB, okB, truB, hLB, hLa, hosB⟩
        have hj4 : j < 4 := hj
        have hos100 : os.length < 100 := by omega
        clear rowB row13 tx13 row15 tx15 rdr15 h10 hx_x hts_x hst_x hsp_x hss_x
        obtain ⟨dx_x1, ts_x1, sp_x1, as_x1, ss_x1, hx_x, hts_x, hst_x, hsp_x, hss_x⟩ := txB.obj
        have hty_x1 := typed_small txB
        have hnk_x1 := text_nk txB
        have hg_x1 := txB.good
        have nr_x1 := text_ne rowB9 txB
        refine ⟨_, rfl, _, rfl, _, rfl, _, rfl, _, _, _, _, _, _, _, _, _, _, rfl, rowB9, far, rdrB, txB, okB, truB, hLB, hLa, (by omega), (by omega), (by omega), fun Lb d2 s21 os2 H24 row3 h10 t1 h11 h12 e h13 e1 => ?_⟩
        refine ⟨_, rfl, _, rfl, ?_⟩
        generalize hσ : List.set _ _ _ = σ1
        simp only [L2.start, List.set_cons_zero, List.set_cons_succ, List.map_cons, List.map_nil, List.length_cons, List.length_nil, List.replicate_succ, List.replicate_zero, List.cons_append, List.nil_append, Nat.reduceAdd, Nat.reduceSub] at hσ
        subst hσ
        refine iF (dF (by intro z; cases z)) ?_
        refine ⟨_, rfl, _, rfl, _, rfl, _, _, _, _, _, _, _, _, rfl, h10, t1, h11, h12, e, (by omega), fun H25 s9 => ?_⟩
        refine ⟨_, rfl, ?_⟩
        refine iF (nF rfl) ?_
        refine ⟨_, _, _, _, _, _, _, _, _, rfl, (RowAt.same row3 s9), (h10.same s9), (TextAt.same t1 s9), h11, h12, (s9 _ _ e), h13, ?_⟩
        exact (by omega)
      · rintro σ HB ⟨L, d, s, os, v6, v7, v8, v9, v10, rfl, rowB9, rdrB, txB, okB, truB, hLB, hLa, hosB⟩
        clear rowB row13 tx13 row15 tx15 rdr15 h10 hx_x hts_x hst_x hsp_x hss_x
        have hlen := okB.len
        obtain ⟨dxB, gB, asB, heB, hgB, hdB, haB, hosB2, hgaB⟩ := rdrB.obj
        rw [show (PySem.Str.ofString "q") = sL [113] from rfl]
        obtain ⟨dx_x1, ts_x1, sp_x1, as_x1, ss_x1, hx_x, hts_x, hst_x, hsp_x, hss_x⟩ := txB.obj
        have hty_x1 := typed_small txB
        have hnk_x1 := text_nk txB
        have hg_x1 := txB.good
        have nr_x1 := text_ne rowB9 txB
        refine ⟨_, rfl, _, _, _, rfl, heB, rfl, _, _, _, _, _, _, _, _, rfl, rdrB, txB, okB, rfl, fun z H24 n8 s9 t1 => ?_⟩
        have ne_z := row_ne rowB9 n8
        obtain ⟨dx_z, ts_z, sp_z, as_z, ss_z, hx_z, hts_z, hst_z, hsp_z, hss_z⟩ := t1.obj
        have hty_z := typed_small t1
        have hnk_z := text_nk t1
        have hg_z := t1.good
        have nr_z := text_ne (RowAt.same rowB9 s9) t1
        refine ⟨_, rfl, _, _, _, rfl, (s9 _ _ heB), _, _, _, _, _, _, rfl, (rdrB.same s9), (by omega), fun l1 H25 n9 s10 e => ?_⟩
        have ne_l1 := row_ne (RowAt.same rowB9 s9) n9
        refine ⟨_, rfl, _, _, _, rfl, (s10 _ _ hx_z), _, _, rfl, (TextAt.same t1 s10), ⟨_, rfl⟩, _, rfl, (.inr (.inl ⟨_, _, rfl, (.inl (SqL.of (s10 _ _ (s9 _ _ hLB)))), _, rfl, (by omega), (by (simp only [cV_len, nV_len, List.length_append, List.length_map, List.length_take, List.length_drop, List.length_range, sL_len, typed_len, lts_len, kvL_len]; omega)), fun D1 n10 => ?_⟩))⟩
        have ne_D1 := row_ne (RowAt.same rowB9 (s9.trans s10)) n10
        generalize hσ : List.set _ _ _ = σ1
        simp only [L2.start, List.set_cons_zero, List.set_cons_succ, List.map_cons, List.map_nil, List.length_cons, List.length_nil, List.replicate_succ, List.replicate_zero, List.cons_append, List.nil_append, Nat.reduceAdd, Nat.reduceSub] at hσ
        subst hσ
        have hll : (lettersOf s 113).length = nk st := by unfold lettersOf; rw [List.length_map, List.length_range, hlen]
        have hal : (lettersOf s 113).all isLet = true := by
          refine List.all_eq_true.mpr fun c2 hc2 => ?_
          unfold lettersOf at hc2
          obtain ⟨k9, _, rfl⟩ := List.mem_map.mp hc2
          cases e7 : s.le k9 with
          | none => rfl
          | some c3 => exact okB.let_ e7
        have htyZ : typed (relet (lettersOf s 113) 0 st) = lettersOf s 113 := typed_relet0 hll
        have hszZ : Pk.sz (relet (lettersOf s 113) 0 st) = Pk.sz st := sz_relet txB.good hal hll
        have txZ : TA_ K H25 z (relet (lettersOf s 113) 0 st) := by
          exact (TextAt.same t1 s10)
        clear hx_z hts_z hst_z hsp_z hss_z hty_z hnk_z hg_z
        generalize relet (lettersOf s 113) 0 st = stz at htyZ hszZ txZ ⊢
        rw [nV_len]
        rw [show (((s.gs.length : Nat) : Int)).toNat = s.gs.length from Int.toNat_natCast _]
        refine lc_map (walk_range (lo := 0) (n := s.gs.length)) (by assumption) (fun k => V.str (sL [(s.le k).getD 113])) (small_ok (by omega)) (fun _ _ => trivial) ?_ ?_
        · rintro j v HC HD N hj sC ⟨rfl, rfl⟩ hN
          simp only [Int.zero_add]
          have hkl9 : (knw s).lookup j = s.le j := by rw [knw_at, if_pos hj]
          obtain ⟨dx_z1, ts_z1, sp_z1, as_z1, ss_z1, hx_z, hts_z, hst_z, hsp_z, hss_z⟩ := txZ.obj
          have hty_z := typed_small txZ
          have hnk_z := text_nk txZ
          have hg_z := txZ.good
          have nr_z1 := text_ne (RowAt.same rowB9 (s9.trans s10)) txZ
          refine ⟨rfl, _, rfl, _, _, rfl, (.inl (sC _ _ e)), _, rfl, _, _, rfl, (.inl (sC _ _ e)), ?_⟩
          rw [hkl9]
          have hN2 := hN HD (Same.refl _)
          cases hc1 : s.le j with
          | none =>
            rw [hc1] at hN2
            exact hN2
          | some c1 =>
            rw [hc1] at hN2
            exact hN2
        · intro HC sC hDC
          obtain ⟨dx_z1, ts_z1, sp_z1, as_z1, ss_z1, hx_z, hts_z, hst_z, hsp_z, hss_z⟩ := txZ.obj
          have hty_z := typed_small txZ
          have hnk_z := text_nk txZ
          have hg_z := txZ.good
          have nr_z1 := text_ne (RowAt.same rowB9 (s9.trans s10)) txZ
          have hD4 : HC D1 = some (.lst (((lettersOf s 113).map fun c => sL [c]).map V.str)) := by
            rw [hDC]
            unfold lettersOf
            rw [List.map_map, List.map_map]
            rfl
          clear hDC
          refine ⟨"", D1, (lettersOf s 113).map fun c => sL [c], rfl, rfl, .inl (SqL.of hD4), ?_, ?_⟩
          · rw [sum_one, List.length_map]
            have : (Str.length "" : Nat) = 0 := by decide +kernel
            rw [this]
            omega
          · rw [join_one, htyZ]
            have rdrC := ((rdrB.same (by assumption : Same HB H24)).same (by assumption : Same H24 H25)).same sC
            have rowC := ((rowB9.same (by assumption : Same HB H24)).same (by assumption : Same H24 H25)).same sC
            have txC := ((txB.same (by assumption : Same HB H24)).same (by assumption : Same H24 H25)).same sC
            have hLC := sC _ _ ((by assumption : Same H24 H25) _ _ ((by assumption : Same HB H24) _ _ hLB))
            have el1 := sC _ _ (by assumption : H25 l1 = some (.dK (kvR (knw s))))
            have txZC := txZ.same sC
            clear rdrB rowB9 txB hLB heB hgB hdB haB hosB2 hgaB hx_z hts_z hst_z hsp_z hss_z txZ
            obtain ⟨dxB, gB, asB, heB, hgB, hdB, haB, hosB2, hgaB⟩ := rdrC.obj
            obtain ⟨dx_z2, ts_z2, sp_z2, as_z2, ss_z2, hx_z, hts_z, hst_z, hsp_z, hss_z⟩ := txZC.obj
            have hty_z1 := typed_small txZC
            have hnk_z1 := text_nk txZC
            have hg_z1 := txZC.good
            have nr_z2 := text_ne rowC txZC
            refine (.inl (.inl ⟨rfl, _, rfl, ?_⟩))
            refine iF (nF (sT rfl)) ?_
            refine ⟨_, rfl, _, _, _, rfl, hx_z, _, _, rfl, txZC, _, rfl, _, _, _, rfl, (sC _ _ (s10 _ _ (s9 _ _ hx_x))), _, _, rfl, txC, (.inl (.inl ⟨rfl, _, rfl, ?_⟩))⟩
            refine iF (nF (vT (by omega))) ?_
            refine ⟨_, rfl, _, _, _, rfl, heB, rfl, _, _, _, _, _, _, _, rfl, rdrC, txC, okB, fun l2 H26 n11 s11 e1 => ?_⟩
            have ne_l2 := row_ne rowC n11
            refine ⟨_, rfl, (.inr (.inl ⟨_, _, rfl, (.inl (SqL.of e1)), _, rfl, (.inr (.inl ⟨_, _, rfl, (.inl (SqL.of (s11 _ _ hLC))), _, rfl, (by omega), (by (simp only [cV_len, nV_len, List.length_append, List.length_map, List.length_take, List.length_drop, List.length_range, sL_len, typed_len, lts_len, kvL_len]; omega)), fun D2 n12 => ?_⟩))⟩))⟩
            have ne_D2 := row_ne (RowAt.same rowC s11) n12
            have hgs2 := nV_len s.gs
            rw [nV_len, show (((s.gs.length : Nat) : Int)).toNat = s.gs.length from Int.toNat_natCast _]
            have el3 : H26 l1 = some (.dK (kvR (knw s))) := s11 _ _ el1
            have hL26 := s11 _ _ hLC
            refine lc_keep (walk_range (lo := 0) (n := s.gs.length)) n12 (fun k => !(s.le k).isSome) (fun k => V.int (s.rg k : Nat)) (small_ok (by omega)) (fun _ _ => trivial) ?_ ?_
            · rintro j v H3 H4 N N0 hj s7 ⟨rfl, rfl⟩ yes no
              simp only [Int.zero_add]
              have hkl9 : (knw s).lookup j = s.le j := by rw [knw_at, if_pos (by omega)]
              have hat : atI (nV s.gs) (j : Int) = some (.int (s.rg j : Nat)) := atI_nat (nV_get (by omega))
              refine ⟨rfl, _, rfl, _, rfl, _, _, _, rfl, rfl, (.inl (s7 _ _ el3)), _, rfl, ?_⟩
              rw [hkl9]
              cases hb : (s.le j).isSome with
              | true =>
                rw [hb] at no
                refine iteF ?_
                exact no rfl _ (Same.refl _)
              | false =>
                rw [hb] at yes
                refine iteT ?_
                refine ⟨_, rfl, _, rfl, (.inl ⟨_, _, _, _, rfl, rfl, (SqL.of (s7 _ _ hL26)), hat, ?_⟩)⟩
                exact yes rfl _ (Same.refl _)
            · intro H3 s7 hD3
              have hns : keeps s.gs.length (fun k => !(s.le k).isSome) (fun k => V.int (s.rg k : Nat)) = ((((List.range s.gs.length).filter fun k => !(s.le k).isSome).map fun k => ((s.rg k : Nat) : Int))).map V.int := by
                unfold keeps
                rw [List.map_map]
                rfl
              rw [hns] at hD3
              refine ⟨D2, _, rfl, SqL.of hD3, ?_, fun out hout hmem => ?_⟩
              · rw [List.length_map]
                have := List.length_filter_le (fun k => !(s.le k).isSome) (List.range s.gs.length)
                rw [List.length_range] at this
                omega
              rw [hlen] at hmem
              have hoc := open_count okB hout hmem
              rw [hoc, nV_len, List.length_map]
              have hpa := places_asc (s := s) txC.good hlen
              have hol := opn_le s
              have e1z : H3 l2 = some (.lst (nV ((opn s).map (wpl st)))) := s7 _ _ e1
              have sZ : Same HC H3 := s11.trans s7
              have hl2a : l2 ≠ a1 := (ne_of_none haB n11).symm
              have rdrD := rdrC.same sZ
              have rowD := rowC.same sZ
              have txD := txC.same sZ
              have hLD := sZ _ _ hLC
              clear rdrC rowC txC hLC hL26 txZC heB hgB hdB haB hosB2 hgaB e1
              refine (.inl (.inl ⟨rfl, _, rfl, ?_⟩))
              refine iF (nF (vT rfl)) ?_
              refine ⟨_, rfl, _, rfl, ?_⟩
              have hpV : nV ((opn s).map (wpl st)) = (((opn s).map (wpl st)).map fun k => ((k : Nat) : Int)).map V.int := by
                unfold nV
                rw [List.map_map, List.map_map, List.map_map]
                rfl
              have okp : (nV ((opn s).map (wpl st))).all okV = true := okV_nV _
              refine .inl ⟨l2, ((opn s).map (wpl st)).map fun k => ((k : Nat) : Int), rfl, SqL.of (by rw [← hpV]; exact e1z), fun ys p9 hperm hsort hp9 => ?_⟩
              have hys : ys = ((opn s).map (wpl st)).map fun k => ((k : Nat) : Int) := by
                have hnd : (((opn s).map (wpl st)).map fun k => ((k : Nat) : Int)).Pairwise (· < ·) := ints_asc hpa
                refine asc_one (lt_of_le_nodup _ hsort (hperm.nodup_iff.mpr (hnd.imp fun z => Int.ne_of_lt z))) hnd fun k => hperm.mem_iff
              rw [hys, ← hpV]
              have s9 : Same H3 (upd H3 p9 (.lst (nV ((opn s).map (wpl st))))) := same_upd hp9
              have e_p9 : (upd H3 p9 (.lst (nV ((opn s).map (wpl st))))) p9 = some (.lst (nV ((opn s).map (wpl st)))) := upd_same
              generalize upd H3 p9 (.lst (nV ((opn s).map (wpl st)))) = H4 at s9 e_p9 ⊢
              refine .inl (.inr (.inl ⟨l2, p9, _, _, rfl, rfl, .inl ⟨SqL.of (s9 _ _ e1z), SqL.of e_p9⟩, okp, okp, ?_⟩))
              refine ⟨_, rfl, ?_⟩
              refine iF (nF (decide_eq_true rfl)) ?_
              refine ⟨_, rfl, _, rfl, ⟨_, (SqL.of (s9 _ _ e1z))⟩, ?_⟩
              have ne_p9 := row_ne rowD hp9
              refine for_list (xs := nV ((opn s).map (wpl st))) (fun j σ HB => ∃ (d : Addr) (s2 : RS) (os2 : List Ob) (v6 v10 : Option V), σ = [some (.ref scr), some (.ref p), some (.int (0 + (i : Int))), some (.ref x), some (.ref x1), some (.ref L), v6, some (.ref z), some (.ref l1), some (.ref l2), v10, none] ∧
                RowAt K (scr, ns) HB p ∧ RdrAt K HB x1 x d a1 s2 os2 ∧ TA_ K HB x st ∧ RsOk (nk st) s2 ∧ Tru st s2 ∧ s2.gs = s.gs ∧ opn s2 = (opn s).drop j ∧ HB L = some (.lst (nV s.gs)) ∧ HB l2 = some (.lst (nV ((opn s).map (wpl st)))) ∧ os2.length ≤ 4 + j) ⟨d, s, os, _, _, rfl, rowD.same s9, rdrD.same s9, txD.same s9, okB, truB, rfl, rfl, s9 _ _ hLD, s9 _ _ e1z, hosB⟩ ?_ ?_ ?_
              · rintro j σ HB hj ⟨d2, s2, os2, v6, v10, rfl, rowE, rdrE, txE, okE, truE, hgsE, hopE, hLE, hlE, hosE⟩
                exact SqL.of hlE
              · rintro j v σ HB hv ⟨d2, s2, os2, v6, v10, rfl, rowE, rdrE, txE, okE, truE, hgsE, hopE, hLE, hlE, hosE⟩
                clear rowD rdrD txD hLD e1z
                have hjl : j < (opn s).length := by
                  have := (List.getElem?_eq_some_iff.mp hv).1
                  rwa [nV_len, List.length_map] at this
                obtain ⟨g9, hg9⟩ : ∃ g9, (opn s)[j]? = some g9 := ⟨_, List.getElem?_eq_getElem hjl⟩
                have hv2 : v = .int (wpl st g9 : Nat) := by
                  unfold nV at hv
                  rw [List.map_map, List.getElem?_map, hg9] at hv
                  exact (Option.some.inj hv).symm
                subst hv2
                have hdr : opn s2 = g9 :: (opn s).drop (j + 1) := by
                  rw [hopE, List.drop_eq_getElem_cons hjl]
                  rw [List.getElem?_eq_getElem hjl] at hg9
                  rw [Option.some.inj hg9]
                have hmem9 : g9 ∈ opn s2 := by rw [hdr]; exact List.mem_cons_self
                obtain ⟨m1, m2, m3⟩ := opn_mem.mp hmem9
                have hlenE := okE.len
                have hwp := wpl_at txE.good (k := g9) (by omega)
                have hknl := kns_lt m1 (show s2.le g9 = none by show s2.lt.lookup (s2.rg g9) = none; rw [m2]; exact m3)
                have hlet := typed_let txE.good
                have hkw : (kvR (knw s2)).length = (kns s2).length := by rw [kvR_len]; unfold knw; rw [List.length_map]
                have hgl : s2.gs.length = s.gs.length := by rw [hgsE]
                have hos1000 : os2.length < 1000 := by omega
                obtain ⟨dxE, gE, asE, heE, hgE, hdE, haE, hosE2, hgaE⟩ := rdrE.obj
                obtain ⟨dx9, ts9, sp9, as9, ss9, hx9, hts9, hst9, hsp9, hss9⟩ := txE.obj
                refine ⟨_, rfl, _, _, _, rfl, heE, _, _, _, _, _, _, rfl, rdrE, (by omega), fun l3 H27 n13 s12 e1 => ?_⟩
                have ne_l3 := row_ne rowE n13
                refine (.inr (.inr ⟨_, _, rfl, e1, _, rfl, (.inr (.inl ⟨_, _, rfl, (.inl (SqL.of (s12 _ _ hLE))), (.inl (.inl ⟨rfl, _, rfl, ?_⟩))⟩))⟩))
                refine iF (vF (by omega)) ?_
                refine ⟨_, rfl, _, _, _, rfl, (s12 _ _ heE), rfl, _, rfl, _, rfl, _, rfl, _, _, _, rfl, (s12 _ _ hx9), _, _, _, rfl, (TextAt.same txE s12), (by omega), (by omega), fun k c H28 s13 e2 e3 => ?_⟩
                have hlt_k := ex_lt _ _ (List.mem_of_getElem? e2)
                refine ⟨_, _, _, _, _, _, _, _, _, rfl, (rdrE.same (s12.trans s13)), (TextAt.same txE (s12.trans s13)), okE, (by omega), (by omega), ?_, (by omega), ?_⟩
                rotate_left 1
                refine ⟨?_, fun k1 d21 H29 e4 n14 h10 h11 h12 => ?_⟩
                rotate_left 1
                have ne_d21 := row_ne (RowAt.same rowE (s12.trans s13)) n14
                obtain rfl := Option.some.inj ((e2).symm.trans e4)
                refine ⟨_, _, _, _, _, rfl, ?_, h11, ?_, h12, ?_, hgsE, ?_, ?_, ?_, ?_⟩
                rotate_left 6
                · rw [List.length_append]
                  show os2.length + 1 ≤ _
                  omega
                · rw [← ltr_at e3]
                  exact ltr_let hlet hlt_k
                · intro k9 d9 h9 hd9
                  rw [e2] at h9
                  cases h9
                  rw [truE.le hlt_k hd9]
                  exact ltr_at e3
                · exact RowAt.but3 far ((s12.trans s13) _ _ heE) ((s12.trans s13) _ _ hdE) h10 (rowE.same (s12.trans s13))
                · exact text_but3 ((s12.trans s13) _ _ heE) hne hne2 ((s12.trans s13) _ _ hdE) ((s12.trans s13) _ _ haE) h10 (txE.same (s12.trans s13))
                · have hcg : c = ltr st (s2.rg k) := (ltr_at e3).symm.trans (truE.gr k hlt_k)
                  rw [hcg]
                  exact truE.lrn1 _
                · have hkg : k = g9 := by
                    rw [show (((wpl st g9 : Nat) : Int)).toNat = wpl st g9 from Int.toNat_natCast _, hwp.1] at e2
                    exact (Option.some.inj e2).symm
                  rw [hkg, m2]
                  exact opn_next hdr
                · obtain ⟨u1, u2⟩ := rdrE.ne hLE
                  exact h10 _ _ u1 u2 hLa ((s12.trans s13) _ _ hLE)
                · obtain ⟨u1, u2⟩ := rdrE.ne hlE
                  exact h10 _ _ u1 u2 hl2a ((s12.trans s13) _ _ hlE)
              · rintro σ HB ⟨d2, s2, os2, v6, v10, rfl, rowE, rdrE, txE, okE, truE, hgsE, hopE, hLE, hlE, hosE⟩
                clear rowD rdrD txD hLD e1z
                rw [nV_len, List.length_map, List.drop_length] at hopE
                have hlenE := okE.len
                obtain ⟨dxE, gE, asE, heE, hgE, hdE, haE, hosE2, hgaE⟩ := rdrE.obj
                rw [show (PySem.Str.ofString "z") = sL [122] from rfl]
                obtain ⟨dx9, ts9, sp9, as9, ss9, hx9, hts9, hst9, hsp9, hss9⟩ := txE.obj
                have hge9 : s2.gs.length ≤ 600 := by omega
                refine ⟨_, rfl, _, _, _, rfl, heE, rfl, _, _, _, _, _, _, rfl, rdrE, (by omega), fun H27 s12 => ?_⟩
                refine (.inl (.inl ⟨rfl, _, rfl, ?_⟩))
                rw [hopE]
                refine iF (nF (decide_eq_true rfl)) ?_
                have hall : ∀ k, k < nk st → s2.le k = some (ltr st k) := fun k hk => by
                  cases hc : s2.le k with
                  | some c9 => rw [truE.le hk hc]
                  | none =>
                    have : s2.rg k ∈ opn s2 := opn_mem.mpr ⟨by have := okE.lt hk; omega, (okE.root k hk).2, hc⟩
                    rw [hopE] at this
                    exact absurd this (by simp)
                have hltt : lettersOf s2 122 = typed st := by
                  unfold lettersOf
                  refine List.ext_getElem (by rw [List.length_map, List.length_range, typed_len, hlenE]) fun k h5 h6 => ?_
                  simp only [List.length_map, List.length_range] at h5
                  have hk9 := key_typed (st := st) (k := k) (by omega)
                  rw [List.getElem?_eq_getElem h6] at hk9
                  rw [List.getElem_map, List.getElem_range, hall k (by omega)]
                  exact (Option.some.inj hk9).symm
                have hrel : relet (lettersOf s2 122) 0 st = st := by
                  rw [hltt]
                  exact relet_self (typed st) st 0 (by rw [List.drop_zero, ← typed_len, List.take_length])
                refine ⟨_, rfl, _, _, _, rfl, (s12 _ _ heE), rfl, _, _, _, _, _, _, _, rfl, (rdrE.same s12), (TextAt.same txE s12), okE, fun l3 H28 n13 s13 e1 => ?_⟩
                have ne_l3 := row_ne (RowAt.same rowE s12) n13
                refine ⟨(by (show 0 ≤ _; decide)), fun p2 n14 => ?_⟩
                have ne_p2 := row_ne (RowAt.same rowE (s12.trans s13)) n14
                generalize hE : upd H28 p2 _ = H16
                have s14 : Same H28 H16 := hE ▸ same_upd n14
                have e_p2 := (congrFun hE p2).symm.trans upd_same
                clear hE
                refine (.inl (.inr (.inl ⟨_, _, _, _, rfl, rfl, (.inl ⟨(SqL.of (s14 _ _ e1)), (SqL.of e_p2)⟩), (okV_nV _), rfl, _, rfl, ?_⟩)))
                rw [hopE]
                refine iF (nF (decide_eq_true rfl)) ?_
                refine ⟨_, rfl, _, _, _, rfl, (s14 _ _ (s13 _ _ (s12 _ _ heE))), rfl, _, _, _, _, _, _, _, _, rfl, (rdrE.same ((s12.trans s13).trans s14)), (TextAt.same txE ((s12.trans s13).trans s14)), okE, rfl, fun z1 H29 n15 s15 t2 => ?_⟩
                have ne_z1 := row_ne (RowAt.same rowE ((s12.trans s13).trans s14)) n15
                obtain ⟨dx_z11, ts_z11, sp_z11, as_z11, ss_z11, hx_z1, hts_z1, hst_z1, hsp_z1, hss_z1⟩ := t2.obj
                have hty_z11 := typed_small t2
                have hnk_z11 := text_nk t2
                have hg_z11 := t2.good
                have nr_z11 := text_ne (RowAt.same rowE (((s12.trans s13).trans s14).trans s15)) t2
                refine ⟨_, rfl, (.inr ⟨_, _, _, rfl, hx_z1, (.inl ⟨_, ⟨_, ⟨_, ⟨rfl, (s15 _ _ (s14 _ _ (s13 _ _ (s12 _ _ hx9))))⟩⟩⟩⟩), _, _, _, _, rfl, t2, (TextAt.same txE (((s12.trans s13).trans s14).trans s15)), _, rfl, ?_⟩)⟩
                refine iF (nF (dT hrel)) ?_
                exact ⟨_, _, _, _, _, _, _, _, _, rfl, rowE.same (s12.trans (s13.trans (s14.trans s15)))⟩
    · rintro σ HB ⟨v2, v3, v4, v5, v6, v7, v8, v9, v10, rfl, rowB⟩
      exact q _
end
end KL
namespace KL
open PySem PySem.W PySem.Calls PyProof.Rows L2 He He5 Pk
def gD (x : PySem.Str) (st : Stmt) : DefA := { at_ := fun K => ga K x, name := x, qual := x, params := defArgs st, body := defBody st, scope := defScope st }
def mD (C m q : PySem.Str) (st : Stmt) : DefA := { at_ := fun K => ma K (ga K C) m, name := m, qual := q, params := defArgs st, body := defBody st, scope := defScope st }
def pD (C m q : PySem.Str) (st : Stmt) : DefA := { at_ := fun K => pgA K (ga K C) m, name := m, qual := q, params := defArgs st, body := defBody st, scope := defScope st }
def cD (C m q : PySem.Str) (st : Stmt) : DefA := { at_ := fun K => wf K (ga K C) "classmethod" m, name := m, qual := q, params := defArgs st, body := defBody st, scope := defScope st }
def fn : List DefA := [gD "is_number" (top 4),
  gD "is_letter" (top 5),
  gD "is_word" (top 6),
  gD "is_step" (top 19),
  gD "span_of" (top 20),
  gD "spans_of" (top 21),
  gD "key_at" (top 22),
  gD "written_place" (top 23),
  gD "moved_step" (top 24),
  gD "letters_between" (top 29),
  gD "_check_range" (top 30),
  gD "_law_taken" (top 34),
  gD "_law_word" (top 35),
  gD "_law_steps" (top 36),
  gD "_law_is_told" (top 37),
  gD "_law_power" (top 38),
  gD "_law_is_seen" (top 39),
  gD "law" (top 40),
  mD "Span" "__init__" "Span.__init__" (inClass (top 18) 0),
  mD "KeyReader" "__init__" "KeyReader.__init__" (inClass (top 26) 0),
  pD "KeyReader" "known_letters" "KeyReader.known_letters" (inClass (top 26) 2),
  mD "KeyReader" "__getitem__" "KeyReader.__getitem__" (inClass (top 26) 4),
  mD "KeyReader" "__iter__" "KeyReader.__iter__" (inClass (top 26) 5),
  mD "KeyReader" "see" "KeyReader.see" (inClass (top 26) 6),
  mD "KeyReader" "see_word" "KeyReader.see_word" (inClass (top 26) 7),
  mD "KeyReader" "_learn" "KeyReader._learn" (inClass (top 26) 8),
  mD "KeyReader" "hear_alike" "KeyReader.hear_alike" (inClass (top 26) 9),
  mD "KeyReader" "count_texts" "KeyReader.count_texts" (inClass (top 26) 10),
  mD "KeyReader" "is_surely_alike" "KeyReader.is_surely_alike" (inClass (top 26) 11),
  mD "KeyReader" "fewest_places" "KeyReader.fewest_places" (inClass (top 26) 12),
  mD "KeyReader" "text_with" "KeyReader.text_with" (inClass (top 26) 13),
  mD "KeyReader" "_group_of" "KeyReader._group_of" (inClass (top 26) 14),
  mD "KeyReader" "_open_groups" "KeyReader._open_groups" (inClass (top 26) 15),
  mD "Text" "__init__" "Text.__init__" (inClass (top 32) 1),
  cD "Text" "of_steps" "Text.of_steps" (inClass (top 32) 3),
  pD "Text" "steps" "Text.steps" (inClass (top 32) 4),
  pD "Text" "typed_keys" "Text.typed_keys" (inClass (top 32) 5),
  pD "Text" "size" "Text.size" (inClass (top 32) 6),
  mD "Text" "__call__" "Text.__call__" (inClass (top 32) 7),
  mD "Text" "__getitem__" "Text.__getitem__" (inClass (top 32) 8),
  mD "Text" "_check_place" "Text._check_place" (inClass (top 32) 9),
  mD "Text" "__iter__" "Text.__iter__" (inClass (top 32) 10),
  mD "Text" "__contains__" "Text.__contains__" (inClass (top 32) 11),
  mD "Text" "__eq__" "Text.__eq__" (inClass (top 32) 12),
  mD "Text" "__add__" "Text.__add__" (inClass (top 32) 13),
  mD "Text" "__mul__" "Text.__mul__" (inClass (top 32) 14),
  mD "Text" "with_letters" "Text.with_letters" (inClass (top 32) 16)]
def fa : List Fa := [.free "isinstance",
  .free "int",
  .free "bool",
  .free "str",
  .free "tuple",
  .free "list",
  .free "len",
  .free "all",
  .free "range",
  .free "enumerate",
  .free "zip",
  .free "min",
  .free "max",
  .free "sorted",
  .free "set",
  .free "dict",
  .free "divmod",
  .free "ValueError",
  .free "TypeError",
  .free "super",
  .free "NotImplemented",
  .str "LETTERS" "abcdefghijklmnopqrstuvwxyz",
  .int "LONGEST_WORD" 20,
  .int "MOST_STEPS" 30,
  .int "MOST_TIMES" 1000000000,
  .int "MOST_LETTERS" 1000,
  .glo "is_number",
  .glo "is_letter",
  .glo "is_word",
  .glo "is_step",
  .glo "span_of",
  .glo "spans_of",
  .glo "key_at",
  .glo "written_place",
  .glo "moved_step",
  .glo "letters_between",
  .glo "_check_range",
  .glo "_law_taken",
  .glo "_law_word",
  .glo "_law_steps",
  .glo "_law_is_told",
  .glo "_law_power",
  .glo "_law_is_seen",
  .glo "law",
  .glo "TextError",
  .glo "InvalidStep",
  .glo "TooLong",
  .glo "InvalidPlace",
  .glo "InvalidLetter",
  .glo "InvalidNumber",
  .glo "Contradiction",
  .glo "Span",
  .cls "Span",
  .mkr "Span",
  .noat "Span" "begin",
  .noat "Span" "end",
  .noat "Span" "key",
  .noat "Span" "source",
  .noat "Span" "width",
  .glo "KeyReader",
  .cls "KeyReader",
  .mkr "KeyReader",
  .noat "KeyReader" "_text",
  .noat "KeyReader" "_groups",
  .noat "KeyReader" "_letters",
  .noat "KeyReader" "_accepted",
  .meth "KeyReader" "see",
  .meth "KeyReader" "see_word",
  .meth "KeyReader" "_learn",
  .meth "KeyReader" "hear_alike",
  .meth "KeyReader" "count_texts",
  .meth "KeyReader" "is_surely_alike",
  .meth "KeyReader" "fewest_places",
  .meth "KeyReader" "text_with",
  .meth "KeyReader" "_group_of",
  .meth "KeyReader" "_open_groups",
  .glo "Text",
  .cls "Text",
  .mkr "Text",
  .noat "Text" "_steps",
  .noat "Text" "spans",
  .noat "Text" "_size",
  .noat "Text" "_typed",
  .meth "Text" "_check_place",
  .meth "Text" "with_letters"]
def ex (K : Frag) : Bool := (propB K (ga K "KeyReader") "known_letters") && ((opB K (ga K "KeyReader") "__getitem__") && ((opB K (ga K "KeyReader") "__iter__") && ((cmetB K (ga K "Text") "of_steps") && ((propB K (ga K "Text") "steps") && ((propB K (ga K "Text") "typed_keys") && ((propB K (ga K "Text") "size") && ((opB K (ga K "Text") "__call__") && ((opB K (ga K "Text") "__getitem__") && ((opB K (ga K "Text") "__iter__") && ((opB K (ga K "Text") "__contains__") && ((opB K (ga K "Text") "__eq__") && ((opB K (ga K "Text") "__add__") && ((opB K (ga K "Text") "__mul__") && ((cvalB K (ga K "Text") "MAX_SIZE" 1000000000000000000) && ((creadB K (ga K "Text")) && ((decide (ga K "Span" ≠ ga K "KeyReader")) && ((decide (ga K "Span" ≠ ga K "Text")) && ((decide (ga K "KeyReader" ≠ ga K "Text")) && ((opTB K (ga K "Text") "mul" "int") && ((selfFirst K (ga K "Text")) && ((insB K (ga K "Text")) && ((decide (ga K "Span" ≠ ga K "Text")) && ((decide (PySem.W.subIn K (.type "tuple") (.ref (ga K "Text")) = some false)) && ((eqO (PySem.W.findIn K (.ref (ga K "Text")) "__ne__") (some (some (.builtin "object.__ne__")))) && ((insTB K (ga K "Text")) && true)))))))))))))))))))))))))
abbrev R : OpenRow := OpenLaw.row PySem.Challenge.rw_pastekeys_k15_whole_readers_keep_the_tru
abbrev hk : PySem.W.Hook := hookM 6 fa fn ex
def ob (s : SharedT) : AlM := obsMG 6 fa fn ex (HandSHeadRun.getT s)
theorem ob_eq (s : SharedT) : ob s = hk.obs s.abs := obsMG_eq (HandSHeadRun.getT_eq s)
def loose : List PySem.Str := ("_wall" : PySem.Str) :: ("LETTERS" : PySem.Str) :: ("LONGEST_WORD" : PySem.Str) :: ("is_number" : PySem.Str) :: ("is_letter" : PySem.Str) :: ("is_word" : PySem.Str) :: ("TextError" : PySem.Str) :: ("InvalidStep" : PySem.Str) :: ("TooLong" : PySem.Str) :: ("InvalidPlace" : PySem.Str) :: ("InvalidLetter" : PySem.Str) :: ("InvalidNumber" : PySem.Str) :: ("Contradiction" : PySem.Str) :: ("MOST_STEPS" : PySem.Str) :: ("MOST_TIMES" : PySem.Str) :: ("Span" : PySem.Str) :: ("is_step" : PySem.Str) :: ("span_of" : PySem.Str) :: ("spans_of" : PySem.Str) :: ("key_at" : PySem.Str) :: ("written_place" : PySem.Str) :: ("moved_step" : PySem.Str) :: ("KeyReader" : PySem.Str) :: ("MOST_LETTERS" : PySem.Str) :: ("letters_between" : PySem.Str) :: ("_check_range" : PySem.Str) :: ("Text" : PySem.Str) :: ("_law_taken" : PySem.Str) :: ("_law_word" : PySem.Str) :: ("_law_steps" : PySem.Str) :: ("_law_is_told" : PySem.Str) :: ("_law_power" : PySem.Str) :: ("_law_is_seen" : PySem.Str) :: []
theorem run (w : World) : HandSHeadRun.RunEq R (PySem.W.view R.prog [40]) hk ob 6000 loose w := by
  intro os
  kernel_rfl
open PySem.Spec
theorem facts {P : Program} {w : World} {K : PySem.W.Frag} {h : Heap} {mg : PySem.Str → Option Value} {f : Addr} (X : K.In h) (G : h.Ns mainGlobals mg) (hfa : mg ("law" : PySem.Str) = some (.ref f)) (c : SaysM fa fn ex K) :
    ∃ fd : FuncData, (∀ (s : Shared) (v : Value), BindsTo s fd ⟨[v], []⟩ [("_law_script", v)]) ∧ ∀ base : Heap, K.In base → base.Ns mainGlobals mg → FnOk P w K mg base CX0 34 f fd ["_law_script"] (spLaw K) := by
  obtain ⟨e0, e⟩ := ba c.more
  obtain ⟨e1, e⟩ := ba e
  obtain ⟨e2, e⟩ := ba e
  obtain ⟨e3, e⟩ := ba e
  obtain ⟨e4, e⟩ := ba e
  obtain ⟨e5, e⟩ := ba e
  obtain ⟨e6, e⟩ := ba e
  obtain ⟨e7, e⟩ := ba e
  obtain ⟨e8, e⟩ := ba e
  obtain ⟨e9, e⟩ := ba e
  obtain ⟨e10, e⟩ := ba e
  obtain ⟨e11, e⟩ := ba e
  obtain ⟨e12, e⟩ := ba e
  obtain ⟨e13, e⟩ := ba e
  obtain ⟨e14, e⟩ := ba e
  obtain ⟨e15, e⟩ := ba e
  obtain ⟨e16, e⟩ := ba e
  obtain ⟨e17, e⟩ := ba e
  obtain ⟨e18, e⟩ := ba e
  obtain ⟨e19, e⟩ := ba e
  obtain ⟨e20, e⟩ := ba e
  obtain ⟨e21, e⟩ := ba e
  obtain ⟨e22, e⟩ := ba e
  obtain ⟨e23, e⟩ := ba e
  obtain ⟨e24, e⟩ := ba e
  obtain ⟨e25, e⟩ := ba e
  have T : Tc w K mg := {
    isi := free_ok X G (c.says.fact 0 (f := .free "isinstance") rfl)
    int := free_ok X G (c.says.fact 1 (f := .free "int") rfl)
    bool := free_ok X G (c.says.fact 2 (f := .free "bool") rfl)
    str := free_ok X G (c.says.fact 3 (f := .free "str") rfl)
    tup := free_ok X G (c.says.fact 4 (f := .free "tuple") rfl)
    lst := free_ok X G (c.says.fact 5 (f := .free "list") rfl)
    len := free_ok X G (c.says.fact 6 (f := .free "len") rfl)
    all := free_ok X G (c.says.fact 7 (f := .free "all") rfl)
    rng := free_ok X G (c.says.fact 8 (f := .free "range") rfl)
    enu := free_ok X G (c.says.fact 9 (f := .free "enumerate") rfl)
    zip := free_ok X G (c.says.fact 10 (f := .free "zip") rfl)
    min := free_ok X G (c.says.fact 11 (f := .free "min") rfl)
    max := free_ok X G (c.says.fact 12 (f := .free "max") rfl)
    srt := free_ok X G (c.says.fact 13 (f := .free "sorted") rfl)
    set_ := free_ok X G (c.says.fact 14 (f := .free "set") rfl)
    dict_ := free_ok X G (c.says.fact 15 (f := .free "dict") rfl)
    dm := free_ok X G (c.says.fact 16 (f := .free "divmod") rfl)
    ValueError := free_ok X G (c.says.fact 17 (f := .free "ValueError") rfl)
    TypeError := free_ok X G (c.says.fact 18 (f := .free "TypeError") rfl)
    super := free_ok X G (c.says.fact 19 (f := .free "super") rfl)
    NotImplemented := free_ok X G (c.says.fact 20 (f := .free "NotImplemented") rfl)
    letters := str_ok X G (c.says.fact 21 (f := .str "LETTERS" "abcdefghijklmnopqrstuvwxyz") rfl)
    longest := int_ok X G (c.says.fact 22 (f := .int "LONGEST_WORD" 20) rfl)
    mostSteps := int_ok X G (c.says.fact 23 (f := .int "MOST_STEPS" 30) rfl)
    mostTimes := int_ok X G (c.says.fact 24 (f := .int "MOST_TIMES" 1000000000) rfl)
    c_MOST_LETTERS := int_ok X G (c.says.fact 25 (f := .int "MOST_LETTERS" 1000) rfl)
    gIsNumber := glo_ok X G (c.says.fact 26 (f := .glo "is_number") rfl)
    gIsLetter := glo_ok X G (c.says.fact 27 (f := .glo "is_letter") rfl)
    gIsWord := glo_ok X G (c.says.fact 28 (f := .glo "is_word") rfl)
    gIsStep := glo_ok X G (c.says.fact 29 (f := .glo "is_step") rfl)
    gSpanOf := glo_ok X G (c.says.fact 30 (f := .glo "span_of") rfl)
    gSpansOf := glo_ok X G (c.says.fact 31 (f := .glo "spans_of") rfl)
    gKeyAt := glo_ok X G (c.says.fact 32 (f := .glo "key_at") rfl)
    g_written_place := glo_ok X G (c.says.fact 33 (f := .glo "written_place") rfl)
    gMoved := glo_ok X G (c.says.fact 34 (f := .glo "moved_step") rfl)
    g_letters_between := glo_ok X G (c.says.fact 35 (f := .glo "letters_between") rfl)
    gCheckRange := glo_ok X G (c.says.fact 36 (f := .glo "_check_range") rfl)
    gTaken := glo_ok X G (c.says.fact 37 (f := .glo "_law_taken") rfl)
    gWord := glo_ok X G (c.says.fact 38 (f := .glo "_law_word") rfl)
    gSteps := glo_ok X G (c.says.fact 39 (f := .glo "_law_steps") rfl)
    g_law_is_told := glo_ok X G (c.says.fact 40 (f := .glo "_law_is_told") rfl)
    g_law_power := glo_ok X G (c.says.fact 41 (f := .glo "_law_power") rfl)
    g_law_is_seen := glo_ok X G (c.says.fact 42 (f := .glo "_law_is_seen") rfl)
    g_law := glo_ok X G (c.says.fact 43 (f := .glo "law") rfl)
    g_TextError := glo_ok X G (c.says.fact 44 (f := .glo "TextError") rfl)
    g_InvalidStep := glo_ok X G (c.says.fact 45 (f := .glo "InvalidStep") rfl)
    g_TooLong := glo_ok X G (c.says.fact 46 (f := .glo "TooLong") rfl)
    g_InvalidPlace := glo_ok X G (c.says.fact 47 (f := .glo "InvalidPlace") rfl)
    g_InvalidLetter := glo_ok X G (c.says.fact 48 (f := .glo "InvalidLetter") rfl)
    g_InvalidNumber := glo_ok X G (c.says.fact 49 (f := .glo "InvalidNumber") rfl)
    g_Contradiction := glo_ok X G (c.says.fact 50 (f := .glo "Contradiction") rfl)
    gSpan := glo_ok X G (c.says.fact 51 (f := .glo "Span") rfl)
    clS := cls_ok (c.says.fact 52 (f := .cls "Span") rfl)
    mkS := mkr_ok (c.says.fact 53 (f := .mkr "Span") rfl)
    nS1 := noat_ok (c.says.fact 54 (f := .noat "Span" "begin") rfl)
    nS2 := noat_ok (c.says.fact 55 (f := .noat "Span" "end") rfl)
    nS3 := noat_ok (c.says.fact 56 (f := .noat "Span" "key") rfl)
    nS4 := noat_ok (c.says.fact 57 (f := .noat "Span" "source") rfl)
    nS5 := noat_ok (c.says.fact 58 (f := .noat "Span" "width") rfl)
    g_KeyReader := glo_ok X G (c.says.fact 59 (f := .glo "KeyReader") rfl)
    clKeyReader := cls_ok (c.says.fact 60 (f := .cls "KeyReader") rfl)
    mkKeyReader := mkr_ok (c.says.fact 61 (f := .mkr "KeyReader") rfl)
    n_KeyReader_text := noat_ok (c.says.fact 62 (f := .noat "KeyReader" "_text") rfl)
    n_KeyReader_groups := noat_ok (c.says.fact 63 (f := .noat "KeyReader" "_groups") rfl)
    n_KeyReader_letters := noat_ok (c.says.fact 64 (f := .noat "KeyReader" "_letters") rfl)
    n_KeyReader_accepted := noat_ok (c.says.fact 65 (f := .noat "KeyReader" "_accepted") rfl)
    p_KeyReader_known_letters := prop_ok e0
    o_KeyReader_getitem := op_ok e1
    o_KeyReader_iter := op_ok e2
    m_KeyReader_see := meth_ok (c.says.fact 66 (f := .meth "KeyReader" "see") rfl)
    m_KeyReader_see_word := meth_ok (c.says.fact 67 (f := .meth "KeyReader" "see_word") rfl)
    m_KeyReader_learn := meth_ok (c.says.fact 68 (f := .meth "KeyReader" "_learn") rfl)
    m_KeyReader_hear_alike := meth_ok (c.says.fact 69 (f := .meth "KeyReader" "hear_alike") rfl)
    m_KeyReader_count_texts := meth_ok (c.says.fact 70 (f := .meth "KeyReader" "count_texts") rfl)
    m_KeyReader_is_surely_alike := meth_ok (c.says.fact 71 (f := .meth "KeyReader" "is_surely_alike") rfl)
    m_KeyReader_fewest_places := meth_ok (c.says.fact 72 (f := .meth "KeyReader" "fewest_places") rfl)
    m_KeyReader_text_with := meth_ok (c.says.fact 73 (f := .meth "KeyReader" "text_with") rfl)
    m_KeyReader_group_of := meth_ok (c.says.fact 74 (f := .meth "KeyReader" "_group_of") rfl)
    m_KeyReader_open_groups := meth_ok (c.says.fact 75 (f := .meth "KeyReader" "_open_groups") rfl)
    gText := glo_ok X G (c.says.fact 76 (f := .glo "Text") rfl)
    clT := cls_ok (c.says.fact 77 (f := .cls "Text") rfl)
    mkT := mkr_ok (c.says.fact 78 (f := .mkr "Text") rfl)
    nT1 := noat_ok (c.says.fact 79 (f := .noat "Text" "_steps") rfl)
    nT2 := noat_ok (c.says.fact 80 (f := .noat "Text" "spans") rfl)
    nT3 := noat_ok (c.says.fact 81 (f := .noat "Text" "_size") rfl)
    nT4 := noat_ok (c.says.fact 82 (f := .noat "Text" "_typed") rfl)
    cmOf := cmet_ok e3
    pSteps := prop_ok e4
    pTyped := prop_ok e5
    pSize := prop_ok e6
    callO := ⟨(op_ok e7).at_, (op_ok e7).fn, (op_ok e7).fi⟩
    oGet := op_ok e8
    mCheck := meth_ok (c.says.fact 83 (f := .meth "Text" "_check_place") rfl)
    o_Text_iter := op_ok e9
    oHas := op_ok e10
    oEq := op_ok e11
    oAdd := op_ok e12
    oMul := op_ok e13
    mWith := meth_ok (c.says.fact 84 (f := .meth "Text" "with_letters") rfl)
    maxSize := cval_ok e14
    rd := cread_ok e15
    ne_Span_KeyReader := of_decide_eq_true e16
    ne_Span_Text := of_decide_eq_true e17
    ne_KeyReader_Text := of_decide_eq_true e18
    tMul := opT_ok e19
    first := e20
    insT := ins_ok (cls_ok (c.says.fact 77 (f := .cls "Text") rfl)) e21
    csct := of_decide_eq_true e22
    subT := of_decide_eq_true e23
    neT := eqO_ok e24
    tupT := of_decide_eq_true e25 }
  obtain ⟨fd, F⟩ := c.says.def_ 17 (d := gD "law" (top 40)) rfl
  have e0 := hfa.symm.trans T.g_law
  cases e0
  have b := FunD.bindsA (ps := ["_law_script"]) F fun _ _ _ _ _ _ us hl => match us, hl with | [_], _ => rfl
  refine ⟨fd, fun s v => b s [v] rfl, fun base _ _ => ?_⟩
  have h_ok_taken : Kp P w K mg base 1 (ga K "_law_taken") (spTaken K) := ok_taken (c.says.def_ 11 (d := gD "_law_taken" (top 34)) rfl) T
  have h_ok_word : Kp P w K mg base 2 (ga K "_law_word") (spWord2 K) := ok_word (c.says.def_ 12 (d := gD "_law_word" (top 35)) rfl) T h_ok_taken
  have h_ok_steps : Kp P w K mg base 3 (ga K "_law_steps") (spSteps K) := ok_steps (c.says.def_ 13 (d := gD "_law_steps" (top 36)) rfl) T h_ok_taken h_ok_word
  have h_ok_is_number : Kp P w K mg base 1 (ga K "is_number") spIsNumber := ok_is_number (c.says.def_ 0 (d := gD "is_number" (top 4)) rfl) T
  have h_ok_check : Kp P w K mg base 2 (ma K (CT K) "_check_place") (spCheck K) := ok_check (c.says.def_ 40 (d := mD "Text" "_check_place" "Text._check_place" (inClass (top 32) 9)) rfl) T h_ok_is_number
  have h_ok_key_at : Kp P w K mg base 1 (ga K "key_at") (spKeyAt K) := ok_key_at (c.says.def_ 6 (d := gD "key_at" (top 22)) rfl) T
  have h_ok_call : Kp P w K mg base 3 (ma K (CT K) "__call__") (spCall K) := ok_call (c.says.def_ 38 (d := mD "Text" "__call__" "Text.__call__" (inClass (top 32) 7)) rfl) T h_ok_check h_ok_key_at
  have h_ok_KeyReader_group_of : Kp P w K mg base 5 (ma K (ga K "KeyReader") "_group_of") (spGroupOf K) := ok_KeyReader_group_of (c.says.def_ 31 (d := mD "KeyReader" "_group_of" "KeyReader._group_of" (inClass (top 26) 14)) rfl) T h_ok_call
  have h_ok_KeyReader_learn : Kp P w K mg base 1 (ma K (ga K "KeyReader") "_learn") (spLearn K) := ok_KeyReader_learn (c.says.def_ 25 (d := mD "KeyReader" "_learn" "KeyReader._learn" (inClass (top 26) 8)) rfl) T
  have h_ok_KeyReader_known_letters : Kp P w K mg base 1 (pgA K (ga K "KeyReader") "known_letters") (spKnown K) := ok_KeyReader_known_letters (c.says.def_ 20 (d := pD "KeyReader" "known_letters" "KeyReader.known_letters" (inClass (top 26) 2)) rfl) T
  have h_ok_is_letter : Kp P w K mg base 1 (ga K "is_letter") spIsLetter := ok_is_letter (c.says.def_ 1 (d := gD "is_letter" (top 5)) rfl) T
  have h_ok_KeyReader_see : Kp P w K mg base 8 (ma K (ga K "KeyReader") "see") (spSee K) := ok_KeyReader_see (c.says.def_ 23 (d := mD "KeyReader" "see" "KeyReader.see" (inClass (top 26) 6)) rfl) T h_ok_KeyReader_group_of h_ok_KeyReader_learn h_ok_KeyReader_known_letters h_ok_is_letter
  have h_ok_is_word : Kp P w K mg base 1 (ga K "is_word") spIsWord := ok_is_word (c.says.def_ 2 (d := gD "is_word" (top 6)) rfl) T
  have h_ok_size : Kp P w K mg base 1 (pgA K (CT K) "size") (spSize K) := ok_size (c.says.def_ 37 (d := pD "Text" "size" "Text.size" (inClass (top 32) 6)) rfl) T
  have h_ok_KeyReader_see_word : Kp P w K mg base 8 (ma K (ga K "KeyReader") "see_word") (spSeeW K) := ok_KeyReader_see_word (c.says.def_ 24 (d := mD "KeyReader" "see_word" "KeyReader.see_word" (inClass (top 26) 7)) rfl) T h_ok_KeyReader_group_of h_ok_KeyReader_learn h_ok_KeyReader_known_letters h_ok_is_number h_ok_is_word h_ok_size
  have h_ok_KeyReader_open_groups : Kp P w K mg base 1 (ma K (ga K "KeyReader") "_open_groups") (spOpenG K) := ok_KeyReader_open_groups (c.says.def_ 32 (d := mD "KeyReader" "_open_groups" "KeyReader._open_groups" (inClass (top 26) 15)) rfl) T
  have h_ok_KeyReader_count_texts : Kp P w K mg base 2 (ma K (ga K "KeyReader") "count_texts") (spCountT K) := ok_KeyReader_count_texts (c.says.def_ 27 (d := mD "KeyReader" "count_texts" "KeyReader.count_texts" (inClass (top 26) 10)) rfl) T h_ok_KeyReader_open_groups
  have h_ok_KeyReader_hear_alike : Kp P w K mg base 8 (ma K (ga K "KeyReader") "hear_alike") (spHear K) := ok_KeyReader_hear_alike (c.says.def_ 26 (d := mD "KeyReader" "hear_alike" "KeyReader.hear_alike" (inClass (top 26) 9)) rfl) T h_ok_KeyReader_group_of h_ok_KeyReader_count_texts
  have h_ok_KeyReader_is_surely_alike : Kp P w K mg base 6 (ma K (ga K "KeyReader") "is_surely_alike") (spSurely K) := ok_KeyReader_is_surely_alike (c.says.def_ 28 (d := mD "KeyReader" "is_surely_alike" "KeyReader.is_surely_alike" (inClass (top 26) 11)) rfl) T h_ok_KeyReader_group_of
  have h_ok_check_range : Kp P w K mg base 3 (ga K "_check_range") (spCheckRange K) := ok_check_range (c.says.def_ 10 (d := gD "_check_range" (top 30)) rfl) T h_ok_is_number h_ok_size
  have h_ok_get : Kp P w K mg base 3 (ma K (CT K) "__getitem__") (spGet K) := ok_get (c.says.def_ 39 (d := mD "Text" "__getitem__" "Text.__getitem__" (inClass (top 32) 8)) rfl) T h_ok_check h_ok_key_at
  have h_ok_letters_between : Kp P w K mg base 5 (ga K "letters_between") (spBetween K) := ok_letters_between (c.says.def_ 9 (d := gD "letters_between" (top 29)) rfl) T h_ok_check_range h_ok_get
  have h_ok_law_is_seen : Kp P w K mg base 12 (ga K "_law_is_seen") (spIsSeen K) := ok_law_is_seen (c.says.def_ 16 (d := gD "_law_is_seen" (top 39)) rfl) T h_ok_taken h_ok_KeyReader_see h_ok_KeyReader_see_word h_ok_KeyReader_hear_alike h_ok_KeyReader_count_texts h_ok_KeyReader_is_surely_alike h_ok_KeyReader_known_letters h_ok_letters_between h_ok_size h_ok_get h_ok_call
  have h_ok_KeyReader_getitem : Kp P w K mg base 5 (ma K (ga K "KeyReader") "__getitem__") (spRdGet K) := ok_KeyReader_getitem (c.says.def_ 21 (d := mD "KeyReader" "__getitem__" "KeyReader.__getitem__" (inClass (top 26) 4)) rfl) T h_ok_is_number h_ok_size h_ok_key_at
  have h_ok_law_power : Kp P w K mg base 1 (ga K "_law_power") (spPower K) := ok_law_power (c.says.def_ 15 (d := gD "_law_power" (top 38)) rfl) T
  have h_ok_typed : Kp P w K mg base 1 (pgA K (CT K) "typed_keys") (spTyped K) := ok_typed (c.says.def_ 36 (d := pD "Text" "typed_keys" "Text.typed_keys" (inClass (top 32) 5)) rfl) T
  have h_ok_law_is_told : Kp P w K mg base 9 (ga K "_law_is_told") (spIsTold K) := ok_law_is_told (c.says.def_ 14 (d := gD "_law_is_told" (top 37)) rfl) T h_ok_KeyReader_known_letters h_ok_KeyReader_count_texts h_ok_KeyReader_getitem h_ok_law_power h_ok_typed h_ok_size h_ok_call
  have h_ok_KeyReader_init : Kp P w K mg base 3 (ma K (ga K "KeyReader") "__init__") (spRdInit K) := ok_KeyReader_init (c.says.def_ 19 (d := mD "KeyReader" "__init__" "KeyReader.__init__" (inClass (top 26) 0)) rfl) T h_ok_typed
  have h_ok_is_step : Kp P w K mg base 2 (ga K "is_step") (spIsStep K) := ok_is_step (c.says.def_ 3 (d := gD "is_step" (top 19)) rfl) T h_ok_is_word h_ok_is_number
  have h_ok_span_init : Kp P w K mg base 1 (ma K (CS K) "__init__") (spSpanInit (CS K)) := ok_span_init (c.says.def_ 18 (d := mD "Span" "__init__" "Span.__init__" (inClass (top 18) 0)) rfl) T
  have h_ok_span_of : Kp P w K mg base 3 (ga K "span_of") (spSpanOf K) := ok_span_of (c.says.def_ 4 (d := gD "span_of" (top 20)) rfl) T h_ok_span_init
  have h_ok_spans_of : Kp P w K mg base 4 (ga K "spans_of") (spSpansOf K) := ok_spans_of (c.says.def_ 5 (d := gD "spans_of" (top 21)) rfl) T h_ok_is_step h_ok_span_of
  have h_ok_init : FnR P w K mg base CX0 5 (ma K (CT K) "__init__") (spInit5 K) := ok_init (c.says.def_ 33 (d := mD "Text" "__init__" "Text.__init__" (inClass (top 32) 1)) rfl) T h_ok_spans_of
  have h_ok_with : Kp P w K mg base 7 (ma K (CT K) "with_letters") (spWith K) := ok_with (c.says.def_ 46 (d := mD "Text" "with_letters" "Text.with_letters" (inClass (top 32) 16)) rfl) T h_ok_init
  have h_ok_KeyReader_text_with : Kp P w K mg base 8 (ma K (ga K "KeyReader") "text_with") (spTextWith K) := ok_KeyReader_text_with (c.says.def_ 30 (d := mD "KeyReader" "text_with" "KeyReader.text_with" (inClass (top 26) 13)) rfl) T h_ok_is_letter h_ok_with
  have h_ok_written_place : Kp P w K mg base 1 (ga K "written_place") (spWritten K) := ok_written_place (c.says.def_ 7 (d := gD "written_place" (top 23)) rfl) T
  have h_ok_KeyReader_fewest_places : Kp P w K mg base 2 (ma K (ga K "KeyReader") "fewest_places") (spFewestP K) := ok_KeyReader_fewest_places (c.says.def_ 29 (d := mD "KeyReader" "fewest_places" "KeyReader.fewest_places" (inClass (top 26) 12)) rfl) T h_ok_KeyReader_open_groups h_ok_written_place
  have h_ok_of : Kp P w K mg base 7 (wf K (CT K) "classmethod" "of_steps") (spOf K) := ok_of (c.says.def_ 34 (d := cD "Text" "of_steps" "Text.of_steps" (inClass (top 32) 3)) rfl) T h_ok_init
  have h_ok_eq : Kp P w K mg base 1 (ma K (CT K) "__eq__") (spEqT K) := ok_eq (c.says.def_ 43 (d := mD "Text" "__eq__" "Text.__eq__" (inClass (top 32) 12)) rfl) T
  exact ok_law F T h_ok_taken h_ok_steps h_ok_law_is_seen h_ok_law_is_told h_ok_KeyReader_init h_ok_KeyReader_text_with h_ok_KeyReader_known_letters h_ok_KeyReader_fewest_places h_ok_KeyReader_see h_ok_KeyReader_count_texts h_ok_of h_ok_size h_ok_typed h_ok_get h_ok_eq
end KL
open PySem PySem.W PySem.Calls PyProof.Rows
theorem PySem.Challenge.cw_pastekeys_k15_whole_readers_keep_the_tru_holds : PySem.Challenge.rw_pastekeys_k15_whole_readers_keep_the_tru.Holds := by
  w_on; o_law
  refine HandSHeadRun.head_any (r := KL.R) (q := view KL.R.prog [40]) (H := KL.hk) (ob := KL.ob) (M := 6000) (loose := KL.loose) (d := HandSHeadRun.topDef KL.R.prog 40) (kwd := []) KL.ob_eq
    (by kernel_rfl) (fun s => by kernel_rfl) KL.run (by kernel_rfl) (by kernel_rfl) (by kernel_rfl) (by rfl) (by first | assumption | decide +kernel) (by decide +kernel) ⟨rfl, rfl, rfl, rfl, rfl, by decide +kernel⟩ ?hw ?hc
  case hw => w_witness2
  case hc =>
    refine L2.walk_ofE (l := PySem.Challenge.rw_pastekeys_k15_whole_readers_keep_the_tru) (n := 63) (k := 34) (x := "_law_script") (CX := L2.CX0) rfl (by decide) (by kernel_rfl) ⟨rfl, by decide, by decide⟩ ?F (fun _ _ _ _ z => z)
    intro w mg fa h Y G hmg0
    obtain ⟨K, KX, c⟩ := Y
    have hmg : mg ("law" : PySem.Str) = some (.ref fa) := by
      have e : (HandSHeadRun.topDef KL.R.prog 40).name = ("law" : PySem.Str) := by kernel_rfl
      rw [← e]
      exact hmg0
    obtain ⟨fd, hb, hF⟩ := KL.facts (P := (PySem.Challenge.rw_pastekeys_k15_whole_readers_keep_the_tru).prog) (w := w) KX G hmg c
    exact ⟨K, fd, KL.spLaw K, KX, hb, fun H a ns hl _ hS => ⟨a, ns, rfl, hS, fun _ => rfl⟩, hF⟩
