import PyProof.Rows.All
import Wide.All
import OpenK.AllK
import Wide.FinOn
import KE.KStateDown
import HandS.ForMost
import HandS.More
import HandS.Star
import HandS.Property
import HandS.ClsMeth
import HandS.Defaults
import HandS.Head0
import HandS.Head1
import HandS.Head2
import HandS.HeadEnd
import HandS.HeadHook1
import HandS.HeadHook2
import HandS.HeadNt
import HandS.OwnEq
import HandS.IsInst
import KE.GoesEnum
import KE.KOpsOwn
import HandS.Text
import HandS.Iter
import HandS.Comp
import HandS.Conv
import HandS.Wide
import HandS.TupAny
import KE.KDictZip
import HandS.Walk
import PyProof.ListStr
import HandS.Codes
import HandS.SlotsOwn
import PyProof.InstNe
import HandS.NamedTup0
import HandS.Style
import HandS.Dict
import HandS.WideBits
import HandS.SortInts
import HandS.DictComp
import KE.GoesZip
import HandS.Zip
import HandS.GenList
import HandS.WordsExc
import HandS.TryOnly
import HandS.Strs
import KE.KAssignIn
import OpenK.KOps
import HandS.SetFor
import HandS.SetKeys
import HandS.Small
import HandS.Bytes
import HandS.BytesMake
import HandS.StrMore
import HandS.Replace
import HandS.RaiseMore
import PyProof.StrLawsIn
import HandS.MethStar
import HandS.HeadHook3
import HandS.FStr
import PyProof.FString3
import PyProof.Rows.StrIntSpec
import PyProof.Rows.FactsFmt
import PySem.Challenge.RW_pastekeys_k17_whole_rows_and_bytes
set_option Elab.async false
set_option linter.all false
set_option maxRecDepth 100000
set_option maxHeartbeats 0
namespace Pk
open PySem PySem.W PySem.Calls PyProof.Rows He He5
/-! ### a hook: facts, defs, one more Bool -/
abbrev AlM : Type := He.AlD × Bool
def obsM (fa : List Fa) (fn : List DefA) (ex : Frag → Bool) (K : Frag) : AlM := (obsA fa fn K, ex K)
def valM (fn : List DefA) : AlM := (valA fn, true)
structure SaysM (fa : List Fa) (fn : List DefA) (ex : Frag → Bool) (K : Frag) : Prop where
  says : SaysA fa fn K
  more : ex K = true
theorem saysM_of {fa : List Fa} {fn : List DefA} {ex : Frag → Bool} {K : Frag} (h : obsM fa fn ex K = valM fn) : SaysM fa fn ex K := by
  have h1 : obsA fa fn K = valA fn := congrArg Prod.fst h
  have h2 : ex K = true := congrArg Prod.snd h
  exact { says := h1, more := h2 }
def obsMG (n : Nat) (fa : List Fa) (fn : List DefA) (ex : Frag → Bool) (g : Addr → Option Obj) : AlM := obsM fa fn ex (frG g (asA g n))
def hookM (n : Nat) (fa : List Fa) (fn : List DefA) (ex : Frag → Bool) : PySem.W.Hook where
  α := AlM
  obs := fun s => obsMG n fa fn ex s.heap.get?
  val := fun _ => valM fn
  says := fun _ h => ∃ K : Frag, K.In h ∧ SaysM fa fn ex K
  of := fun _ _ e => ⟨_, frG_in, saysM_of e⟩
  keeps := fun _ _ _ ⟨K, hK, c⟩ k => ⟨K, Frag.In.keeps hK k, c⟩
theorem obsMG_eq {n : Nat} {fa : List Fa} {fn : List DefA} {ex : Frag → Bool} {g : Addr → Option Obj} {s : Shared} (h : ∀ a, g a = s.heap.get? a) : obsMG n fa fn ex g = (hookM n fa fn ex).obs s := by
  have e : g = s.heap.get? := funext h
  rw [e] <;> rfl
end Pk
namespace Pk
open PySem PySem.W PySem.Calls PyProof.Rows He He5
/-! ### more facts of a class -/
def pgA (K : Frag) (C : Addr) (f : PySem.Str) : Addr := match recIn K (ma K C f) "property" with
  | some (.ref g :: _) => g
  | _ => 0
def propB (K : Frag) (C : Addr) (f : PySem.Str) : Bool := eqO (findIn K (.ref C) f) (some (some (.ref (ma K C f)))) && (eqO (specialIn K (.ref (ma K C f)) "__get__") (some (some (.builtin "property.__get__"))) && (decide (takesIn K (.ref (ma K C f)) = some true) &&
  (match recIn K (ma K C f) "property" with
    | some (.ref _ :: _) => true
    | _ => false)))
theorem prop_ok {K : Frag} {C : Addr} {f : PySem.Str} (h : propB K C f = true) : L2.PropOf K C f (ma K C f) (pgA K C f) := by
  obtain ⟨h1, h⟩ := ba h
  obtain ⟨h2, h⟩ := ba h
  obtain ⟨h3, h4⟩ := ba h
  refine ⟨eqO_ok h1, eqO_ok h2, of_decide_eq_true h3, ?_⟩
  unfold pgA
  split at h4
  · rename_i f' r e
    exact ⟨r, by rw [e]⟩
  · cases h4
def creadB (K : Frag) (C : Addr) : Bool := readsIn K C (.type "type") && eqO (specialIn K (.ref C) "__getattribute__") (some (some (.builtin "type.__getattribute__")))
theorem cread_ok {K : Frag} {C : Addr} (h : creadB K C = true) : ClX.CRead K C (.type "type") := by
  obtain ⟨h1, h2⟩ := ba h
  exact ⟨h1, eqO_ok h2⟩
def cmetB (K : Frag) (C : Addr) (m : PySem.Str) : Bool := wrapB K C "classmethod" "classmethod.__get__" m && fnIn K (wf K C "classmethod" m)
theorem cmet_ok {K : Frag} {C : Addr} {m : PySem.Str} (h : cmetB K C m = true) : ClX.CMet K C (.type "type") m (ma K C m) (wf K C "classmethod" m) := by
  obtain ⟨h1, h2⟩ := ba h
  exact cmet_of h1 h2
def cvalB (K : Frag) (C : Addr) (f : PySem.Str) (i : Int) : Bool := match findCls K (.ref C) (.type "type") f with
  | some (.val (.int j _)) => decide (j = i)
  | _ => false
theorem cval_ok {K : Frag} {C : Addr} {f : PySem.Str} {i : Int} (h : cvalB K C f i = true) : ∃ t, ClX.CVal K C (.type "type") f (.int i) (.int i t) := by
  unfold cvalB at h
  split at h
  · rename_i j t e
    have ej : j = i := of_decide_eq_true h
    subst ej
    exact ⟨t, e, ⟨t, rfl⟩⟩
  · cases h
/-- a def of the class at an address: found, a function -/
def opB (K : Frag) (C : Addr) (m : PySem.Str) : Bool := eqO (findIn K (.ref C) m) (some (some (.ref (ma K C m)))) && (isFn K (.ref (ma K C m)) && fnIn K (ma K C m))
structure OpF (K : Frag) (C : Addr) (m : PySem.Str) (f : Addr) : Prop where
  at_ : findIn K (.ref C) m = some (some (.ref f))
  fn : isFn K (.ref f) = true
  fi : fnIn K f = true
theorem op_ok {K : Frag} {C : Addr} {m : PySem.Str} (h : opB K C m = true) : OpF K C m (ma K C m) := by
  obtain ⟨h1, h⟩ := ba h
  obtain ⟨h2, h3⟩ := ba h
  exact ⟨eqO_ok h1, h2, h3⟩
/-- an operator with a built-in number at the right -/
def opTB (K : Frag) (C : Addr) (nm : String) (T : String) : Bool := selfFirst K C && (eqO (findIn K (.ref C) (dunderR nm)) (some none) && ((findIn K (.type T) (PySem.dunder nm)).isSome && ((findIn K (.type T) (dunderR nm)).isSome && decide (subIn K (.type T) (.ref C) = some false))))
structure OpT (K : Frag) (C : Addr) (nm : String) (T : String) : Prop where
  first : selfFirst K C = true
  noR : findIn K (.ref C) (dunderR nm) = some none
  l : ∃ fo, findIn K (.type T) (PySem.dunder nm) = some fo
  r : ∃ fo, findIn K (.type T) (dunderR nm) = some fo
  sub : subIn K (.type T) (.ref C) = some false
theorem opT_ok {K : Frag} {C : Addr} {nm T : String} (h : opTB K C nm T = true) : OpT K C nm T := by
  obtain ⟨h1, h⟩ := ba h
  obtain ⟨h2, h⟩ := ba h
  obtain ⟨h3, h⟩ := ba h
  obtain ⟨h4, h5⟩ := ba h
  exact ⟨h1, eqO_ok h2, Option.isSome_iff_exists.mp h3, Option.isSome_iff_exists.mp h4, of_decide_eq_true h5⟩
end Pk
/-! ## Rules that the layer lacks: operators of an own class, C(*x), cls(*x), enumerate over a tuple -/
namespace Pk
open PySem PySem.Spec PyProof.Rows L2
theorem no_tup_iter {h : Heap} {a it : Addr} {its : Array Value} {i : Nat} (p : h.IsTuple a its) (q : h.IsTupleIter it a i) : a ≠ it := fun e => by
  obtain ⟨o1, e1, c1, _⟩ := p
  obtain ⟨o2, e2, c2, _⟩ := q
  rw [e, e2] at e1
  cases e1
  rw [c2] at c1
  exact absurd c1 (by decide)
/-! ### enumerate(v) begins -/
theorem enum_new_meets {v : Value} {ob : Obj} {P : Heap → Prop} (B : Begins v ob P) :
    Meets (Builtin.«enumerate.__new__» ⟨[.type "enumerate", v], []⟩) (fun _ R s => P s.heap ∧
      R (.ok (.ret (.ref (s.heap.push ob).objs.size))) { s with heap := (s.heap.push ob).push { cls := .type "enumerate", data := .fields #[.none, .bool false, .ref s.heap.objs.size, rawInt 0, .none, .none] } }) :=
  .of_wp fun prog w A R s hh => by
    obtain ⟨hp, g, d, tk, os⟩ := s
    obtain ⟨hP, hR⟩ := hh
    have subE := sub_enumerate
    have mk : ∀ {A' : Around} {E : Value → Shared → Prop} {Q : Value → Shared → Prop}, Q (.ref hp.objs.size) ⟨hp.push ob, g, d, tk, os⟩ → wpAny (model prog w) A' (pyIter v) Q E ⟨hp, g, d, tk, os⟩ := fun q => B.iter prog w _ _ ⟨hp, g, d, tk, os⟩ _ hP q
    wp_walk using mk
    refine wpAny_stack_any fun stk => wpAny_pure ?_
    split
    · rename_i cc _ _ _ _ _
      cases (cc == Value.type "enumerate") <;> (wp_walk using mk; exact ⟨_, rfl, hR⟩)
    · wp_walk using mk
      exact ⟨_, rfl, hR⟩
theorem enum_new {prog : Program} {w : World} {A : Around} {E : Value → Shared → Prop} {s : Shared} {v : Value} {ob : Obj} {P : Heap → Prop} {Q : Value → Shared → Prop} (B : Begins v ob P) (hP : P s.heap)
    (hQ : ∀ h2, IsEnum h2 (s.heap.objs.size + 1) s.heap.objs.size 0 .none → h2.get? s.heap.objs.size = some ob → (∀ b o, s.heap.get? b = some o → h2.get? b = some o) → Q (.ref (s.heap.objs.size + 1)) { s with heap := h2 }) :
    wpAny (model prog w) A (call (.type "enumerate") [v]) Q E s := by
  refine callType_new F.called_enumerate (by decide) (F.typeCall_enumerate_1 _) (F.newCall_enumerate_1 _) (fun obj => F.args_object_init_2 obj _) F.entry_enumerate_new (enum_new_meets B) ⟨hP, ?_⟩
  have sz : (s.heap.push ob).objs.size = s.heap.objs.size + 1 := Heap.size_push ..
  have at_ := Heap.get?_push_size (s.heap.push ob) (o := { cls := .type "enumerate", data := .fields #[.none, .bool false, .ref s.heap.objs.size, rawInt 0, .none, .none] }) rfl
  rw [sz] at at_
  show _ ∧ _
  rw [sz]
  exact ⟨⟨_, at_, rfl⟩, hQ _ at_ (Heap.get?_push_of_some _ (Heap.get?_push_size _ B.free)) fun b o y => Heap.get?_push_of_some _ (Heap.get?_push_of_some _ y)⟩
/-! ### for i, x in enumerate(tuple) -/
def IteT (K : PySem.W.Frag) (a : Addr) : It :=
  ⟨fun i H => ∃ (xs : List V) (x : V), SqT K H a xs ∧ xs[i]? = some x, fun i H v H2 => ∃ T x, v = .ref T ∧ H T = none ∧ H2 = upd H T (.tup [.int (i : Nat), x]) ∧ ∀ xs, SqT K H a xs → xs[i]? = some x, fun i H => ∃ xs : List V, SqT K H a xs ∧ xs.length ≤ i⟩
theorem turn_enumT {P : Program} {w : World} {K : PySem.W.Frag} {elts : List Expr} {kk : Nat} {tpos : Pos} (a e it : Addr) :
    Turn P w K (.Tuple elts kk tpos) (IteT K a) [e, it] e (fun i h => (∃ old, IsEnum h e it ((i : Nat) : Int) old) ∧ h.IsTupleIter it a i ∧ e ≠ it ∧ e ≠ a) where
  mem := List.mem_cons_self
  obj := fun i h st b hb => by
    obtain ⟨⟨old, h1⟩, hit, _⟩ := st
    obtain ⟨o, ho, hc, hd⟩ := hit
    have hb2 : b = e ∨ b = it := by simpa using hb
    rcases hb2 with z | z
    · exact ⟨_, by rw [z]; exact h1, fun v q => by cases q⟩
    · exact ⟨o, by rw [z]; exact ho, fun v q => by rw [hd] at q; cases q⟩
  keep := fun i h h2 st k => let ⟨⟨old, h1⟩, hi, n1, n2⟩ := st; ⟨⟨old, k e List.mem_cons_self _ h1⟩, hi.at fun o q => k it (by simp) o q, n1, n2⟩
  item := by
    intro X hP hw hK hc i pins s σ H E I hf st hg
    subst hP hw hK
    obtain ⟨⟨old, hen⟩, hit, n1, n2⟩ := st
    obtain ⟨xs, x, hq, hx⟩ := hg
    obtain ⟨its, rv, p, hz⟩ := I.tuple hq
    obtain ⟨u, hu, ru⟩ := rv.get hx
    have pT : s.heap.IsTuple a its.toArray := p
    have nai := no_tup_iter pT hit
    have le_ : e < s.heap.objs.size := Heap.lt_size hen
    have li_ : it < s.heap.objs.size := by
      obtain ⟨_, q, _⟩ := id hit
      exact Heap.lt_size q
    have hcalm : X.A.in1.handled = none := I.ok.hd hc
    have hsz : i < its.toArray.size := by
      have q := (List.getElem?_eq_some_iff.mp hu).1
      simpa using q
    refine wpAny_pyNext_enum_itemC (Draws.tuple (prog := X.prog) (w := X.w) hcalm it a nai its.toArray) hen ⟨hit, pT⟩ hsz n1 (by simp [n1, n2]) fun y h1 tk hy ho1 st1 hT _ hk => ?_
    have ey : y = u := by
      have q : its.toArray[i]? = some u := by simpa using hu
      rw [q] at hy
      exact (Option.some.inj hy).symm
    subst ey
    refine ⟨_, rfl, wpAny_letOwnedTupleGo_enum (s := { s with heap := h1, toks := tk + 1 }) ho1 fun h2 hen2 sb => ?_⟩
    have hT2 := (sb.2 _ (Nat.ne_of_gt le_)).trans hT
    have new : ObjOk X.prog X.w (upd H s.heap.objs.size (.tup [.int (i : Nat), x])) h2 s.heap.objs.size (.tup [.int (i : Nat), x]) :=
      ⟨(by decide : 2 ≤ sizeLine), [.int (i : Nat) tk, y], .cons ⟨_, rfl⟩ (.cons ru .nil), ⟨_, hT2, rfl, _, rfl⟩⟩
    have I2 : Inv X pins σ (upd H s.heap.objs.size (.tup [.int (i : Nat), x])) { s with heap := h2, toks := tk + 1 } :=
      I.turnedNew (ch := [e, it]) (fun b ob hb q => (sb.2 b (fun z => hb (by simp [z]))).trans (hk b ob (fun z => hb (by simp [z])) (fun z => hb (by simp [z])) q)) hf (Nat.le_refl _) new
    refine ⟨.ref s.heap.objs.size, _, I2, rfl, ⟨_, x, rfl, I.hok.fresh (Nat.le_refl _), rfl, fun ys hy2 => by rw [I.tuple_inj hy2 hq]; exact hx⟩, ⟨⟨y, ?_⟩, st1.1.at fun o q => (sb.2 it n1.symm).trans q, n1, n2⟩, fun b hb => ?_⟩
    · rw [Int.natCast_succ]
      exact hen2
    · have hb2 : b < s.heap.objs.size := by
        have q : b = e ∨ b = it := by simpa using hb
        rcases q with z | z <;> rw [z] <;> assumption
      rw [upd_ne (Nat.ne_of_lt hb2)]
      exact (hf b hb).1
  done := by
    intro X hP hw hK hc i pins s σ H E I hf st hg
    subst hP hw hK
    obtain ⟨⟨old, hen⟩, hit, n1, n2⟩ := st
    obtain ⟨xs, hq, hx⟩ := hg
    obtain ⟨its, rv, p, hz⟩ := I.tuple hq
    obtain ⟨f0, f1, f2, f3, f4, f5⟩ := hf it (by simp)
    have pT : s.heap.IsTuple a its.toArray := p
    have nai := no_tup_iter pT hit
    have hcalm : X.A.in1.handled = none := I.ok.hd hc
    have hl := rv.length
    have D0 := Draws.tuple (prog := X.prog) (w := X.w) hcalm it a nai its.toArray
    refine wpAny_pyNext_enum_endD (n := i) (i := (i : Int)) (St := fun j h => j = i ∧ h.IsTupleIter it a i ∧ h.IsTuple a its.toArray) (P := fun _ _ => True) (fp := [it, a]) ⟨?_, ?_, ?_, ?_⟩ hen ⟨rfl, hit, pT⟩ fun h1 eb => ⟨rfl, I.turned (t' := s.toks) (fun b o hb q => eb b o hb q) f0 f1 f3 f4 f5⟩
    · exact fun j h z => let ⟨o, ho, _⟩ := z.2.1; ⟨o, ho⟩
    · exact fun j h h2 z k => ⟨z.1, D0.frame i h h2 z.2 k⟩
    · intro j s2 Q2 E2 hj st2 hQ2
      exact absurd st2.1 (Nat.ne_of_lt hj)
    · intro s2 Q2 E2 st2 hE2
      exact wpAny_nextOf_tuple_end hcalm st2.2.1 st2.2.2 (by simp; omega) hE2
  self := fun A i s Q E st h => let ⟨⟨_, hen⟩, _⟩ := st; wpAny_pyIter_enum hen h
def iEnumT (K : PySem.W.Frag) (ta : TA) : TI := fun σ H R => ta σ H fun vs H1 => ∃ a xs, vs = [.ref a] ∧ SqT K H1 a xs ∧ R (IteT K a) H1
theorem pi_enumT {X : Cx} {e : Expr} {ta : TA} {p pos tpos : Pos} {elts : List Expr} {kk : Nat} (hg : Gl X "enumerate") (hm : X.mg "enumerate" = none) (ha : PA X [e] ta) (hs : starEach [e] X.env = [(false, eval e X.env)] := by rfl) :
    PI X (.Tuple elts kk tpos) (.Call (.Name "enumerate" p) [e] [] pos) (iEnumT X.K ta) := ⟨fun pins s σ H R I h => by
  refine Call_ (ld_blt I hg hm boot_enumerate (PyProof.Rows.callWith_type1 (thn (ha.run pos pins s σ H _ I h) fun us s1 ⟨vs, H1, I1, r1, a, xs, ev, hq, q⟩ => ?_) hs rfl))
  subst ev
  cases r1 with
  | cons r rr =>
    cases rr
    cases r
    obtain ⟨its, rv, pt, hz⟩ := I1.tuple hq
    have pT : s1.heap.IsTuple a its.toArray := pt
    refine enum_new (begins_tuple a its.toArray) pT fun h2 hen hit hk => wpAny_pyIter_enum hen ?_
    have I2 : Inv X pins σ H1 { s1 with heap := h2 } := I1.kept (t' := s1.toks) hk
    obtain ⟨o, ho, _⟩ := id pT
    have hlt := Heap.lt_size ho
    refine ⟨s1.heap.objs.size + 1, [s1.heap.objs.size + 1, s1.heap.objs.size], _, _, H1, rfl, I2, turn_enumT a (s1.heap.objs.size + 1) s1.heap.objs.size, ⟨⟨.none, hen⟩, ⟨_, hit, rfl, rfl⟩, Nat.succ_ne_self _, fun z => absurd (show s1.heap.objs.size + 1 < s1.heap.objs.size by rw [z]; exact hlt) (Nat.not_lt.mpr (Nat.le_succ _))⟩, fun b hb => ?_, q⟩
    have hb2 : b = s1.heap.objs.size + 1 ∨ b = s1.heap.objs.size := by simpa using hb
    have hle : s1.heap.objs.size ≤ b := by
      rcases hb2 with z | z
      · rw [z]; exact Nat.le_succ _
      · rw [z]; exact Nat.le_refl _
    exact I1.fpOk hle (I1.hok.fresh hle)⟩
/-! ### operators of an own class -/
theorem cmp_back {X : Cx} {pins : List (Addr × Obj)} {σ : L2.St} {Q : VK} {u : Value} {s : Shared} (h : EP X pins σ Q u s) : PySem.W.CmpBack (EP X pins σ Q) u s := by
  have h0 := h
  obtain ⟨v, H, I, r, q⟩ := h
  cases u with
  | notImplemented => cases v <;> first | (cases r; done) | (obtain ⟨_, z⟩ := r; cases z)
  | _ => exact h0
section
variable {X : Cx} {CX : CXT} {k : Nat} {C f : Addr} {sp : Sp} {E : XK}
/-- a op b: both of the class -/
def rOwn (C : Addr) (sp : Sp) (E : XK) : R2 := fun x y H Q => ∃ a b da fa db fb, x = .ref a ∧ y = .ref b ∧ H a = some (.ins C da fa) ∧ H b = some (.ins C db fb) ∧ sp [x, y] H Q E
theorem op_own {op : Operator} (hs : OpF X.K C (PySem.dunder op.info.2) f) (hc : PySem.W.selfFirst X.K C = true) (F : FnR X.prog X.w X.K X.mg X.base CX k f sp) (hr : Room k X.A) (hx : Passes CX X E) : OpR X (binaryOp op) (rOwn C sp E) := by
  intro pins s σ H x y v u Q I rx ry ⟨a, b, da, fa, db, fb, ex, ey, ha, hb, q⟩
  subst ex ey
  cases rx
  cases ry
  obtain ⟨mA, O, _⟩ := ins_get I.hok ha
  obtain ⟨oa, JA, _⟩ := O.look
  obtain ⟨mB, O2, _⟩ := ins_get I.hok hb
  obtain ⟨ob, JB, _⟩ := O2.look
  obtain ⟨m, hF⟩ := I.fr
  refine PySem.W.binop_K hF I.ok.mod.kin JA JB.type hc hs.at_ hs.fn (wpAny_call ?_)
  refine codeAny_mono (run_fnR F hr hx I (vs := [V.ref a, V.ref b]) (.cons rfl (.cons rfl .nil)) q) fun r s2 hq => ?_
  cases r with
  | error e => exact hq
  | ok fl => cases fl with
    | ret w => exact cmp_back hq
    | _ => exact hq.elim
/-- a op n: n an int -/
def rOwnI (C : Addr) (sp : Sp) (E : XK) : R2 := fun x y H Q => ∃ a n da fa, x = .ref a ∧ y = .int n ∧ H a = some (.ins C da fa) ∧ sp [x, y] H Q E
theorem op_ownI {op : Operator} (hs : OpF X.K C (PySem.dunder op.info.2) f) (ht : OpT X.K C op.info.2 "int") (F : FnR X.prog X.w X.K X.mg X.base CX k f sp) (hr : Room k X.A) (hx : Passes CX X E) : OpR X (binaryOp op) (rOwnI C sp E) := by
  intro pins s σ H x y v u Q I rx ry ⟨a, n, da, fa, ex, ey, ha, q⟩
  subst ex ey
  cases rx
  obtain ⟨t, et⟩ := ry
  subst et
  obtain ⟨mA, O, _⟩ := ins_get I.hok ha
  obtain ⟨oa, JA, _⟩ := O.look
  obtain ⟨m, hF⟩ := I.fr
  obtain ⟨fo, h1⟩ := ht.l
  obtain ⟨ro, h2⟩ := ht.r
  refine PySem.W.ksp_binT (T := "int") hF I.ok.mod.kin JA rfl ht.first hs.at_ hs.fn ht.noR (.inl rfl) h1 h2 ht.sub (wpAny_call ?_)
  refine codeAny_mono (run_fnR F hr hx I (vs := [V.ref a, V.int n]) (.cons rfl (.cons ⟨t, rfl⟩ .nil)) q) fun r s2 hq => ?_
  cases r with
  | error e => exact hq
  | ok fl => cases fl with
    | ret w => exact cmp_back hq
    | _ => exact hq.elim
/-- a[i]: __getitem__ of an own class -/
def rGetO (C : Addr) (sp : Sp) (E : XK) : R2 := fun x y H Q => ∃ a da fa, x = .ref a ∧ H a = some (.ins C da fa) ∧ sp [x, y] H Q E
/-- x in a: __contains__ -/
def rInO (C : Addr) (sp : Sp) (E : XK) : R2 := fun x y H Q => ∃ a da fa, y = .ref a ∧ H a = some (.ins C da fa) ∧ sp [y, x] H (fun v H2 => ∃ b, v = .bl b ∧ Q v H2) E
/-! ### C(*x) -/
def tMakeS (K : PySem.W.Frag) (C : Addr) (sp : Sp) (E : XK) (te : TE) : TE := fun σ H Q => te σ H fun y H1 => ∃ a xs, y = V.ref a ∧ (SqT K H1 a xs ∨ SqL K H1 a xs) ∧ ∀ x dx, H1 x = none → H1 dx = none → dx ≠ x →
  sp (V.ref x :: xs) (upd (upd H1 dx (.own x)) x (.ins C dx [])) (fun v H2 => v = .non ∧ Q (.ref x) H2) E
variable {x : Str} {e : Expr} {te : TE} {p pos sp_ : Pos} {i : Nat}
theorem pe_makeS (M : Mk X.K C f) (F : FnR X.prog X.w X.K X.mg X.base CX k f sp) (hr : Room (k + 1) X.A) (hg : Gl X x) (hm : X.mg x = some (.ref C)) (hx : Passes CX X E) (he : PE X e te) (hd : (x == ("__debug__" : Str)) = false := by decide)
    (hst : starEach [.Starred e sp_] X.env = [(true, eval e X.env)] := by rfl) : PE X (.Call (.Name x p) [.Starred e sp_] [] pos) (tMakeS X.K C sp E te) := ⟨fun pins s σ H Q I h => by
  refine wpAny_Call_Name_kw (ld_glob I hg hm ?_ hd)
  refine PySem.W.callWith_S (h₀ := X.base) I.ok.mod.kin M.kp (thn (he.run pins s σ H _ I h) fun v s1 ⟨y, H1, I1, ry, a, xs, ey, hxs, q⟩ => ?_) hst
  subst ey
  cases ry
  exact StX.star_any I1 hxs fun us s2 I2 rv => ⟨I2.kIn, StX.run_makeR M F hr hx I2 rv q⟩⟩
/-- cls(*x): the class stands in a local -/
theorem pe_makeSL (M : Mk X.K C f) (F : FnR X.prog X.w X.K X.mg X.base CX k f sp) (hr : Room (k + 1) X.A) (hN : X.N[i]? = some x) (hv : Vis X.env.scope x) (hx : Passes CX X E) (he : PE X e te) (hd : (x == ("__debug__" : Str)) = false := by decide) (hcd : (x == ("__classdict__" : Str)) = false := by decide)
    (hst : starEach [.Starred e sp_] X.env = [(true, eval e X.env)] := by rfl) : PE X (.Call (.Name x p) [.Starred e sp_] [] pos) (fun σ H Q => σ[i]? = some (some (.ref C)) ∧ tMakeS X.K C sp E te σ H Q) := ⟨fun pins s σ H Q I h => by
  obtain ⟨hs, h⟩ := h
  refine wpAny_Call_Name_kw (thn ((pe_var (pos := p) hN hv hd hcd).run pins s σ H (fun v H1 => v = .ref C ∧ H1 = H) I ⟨.ref C, hs, rfl, rfl⟩) fun uu s0 ⟨v0, H0, I0, r0, e0, e1⟩ => ?_)
  subst e0 e1
  cases r0
  refine PySem.W.callWith_S (h₀ := X.base) I0.ok.mod.kin M.kp (thn (he.run pins s0 σ _ _ I0 h) fun v s1 ⟨y, H1, I1, ry, a, xs, ey, hxs, q⟩ => ?_) hst
  subst ey
  cases ry
  exact StX.star_any I1 hxs fun us s2 I2 rv => ⟨I2.kIn, StX.run_makeR M F hr hx I2 rv q⟩⟩
end
end Pk
/-! ## Promises without exceptions, their calls; isinstance of built-in types -/
namespace Pk
open PySem PySem.Spec PyProof.Rows L2
/-- the def at f keeps sp (nothing is raised) -/
def Kp (P : Program) (w : World) (K : PySem.W.Frag) (mg : Str → Option Value) (base : Heap) (k : Nat) (f : Addr) (sp : Sp) : Prop := ∃ fd ps, FnOk P w K mg base CX0 k f fd ps sp ∧ Binds K fd ps [] ∧ PySem.W.keepIn K (.ref f) = true
section
variable {P : Program} {w : World} {K : PySem.W.Frag} {mg : Str → Option Value} {base : Heap} {k j : Nat} {f : Addr} {sp : Sp}
theorem Kp.mono (G : Kp P w K mg base j f sp) (h : j ≤ k) : Kp P w K mg base k f sp := by
  obtain ⟨fd, ps, F, b, kp⟩ := G
  exact ⟨fd, ps, F.mono h, b, kp⟩
theorem Kp.fnR (G : Kp P w K mg base k f sp) : FnR P w K mg base CX0 k f sp := by
  obtain ⟨fd, ps, F, b, kp⟩ := G
  exact (F.raw b .nil).imp fun vs H Q E h => by rw [List.append_nil]; exact h
/-- a def of the text keeps its promise: the body's term and its reading -/
theorem kp_of {x qual : Str} {st : Stmt} {kws : List (Str × V)} {N ps : List Str} (D : ∃ fd, FunD K x qual (defArgs st) (defBody st) (defScope st) [] kws f fd) (S : FnScope N ps (defScope st))
    (hb : ∀ (kV doc pm : Value) (an : Option Addr) (cdv ct : Value) (us : List Value), us.length = ps.length → bindArgs (PySem.W.fnOf x qual (defArgs st) (defBody st) (defScope st) .none kV doc pm an cdv ct) ⟨us, []⟩ = pure (ps.zip us))
    (len : ∀ vs H Q E, sp vs H Q E → vs.length = ps.length)
    (hbody : ∀ (cdv : Value) (A : Around) (outer : List Env) (s : Shared) (H : Hp) (vs : List V) (Q : VK) (E : XK), Room k (A.deeper (envOfC qual (defScope st) s.heap.objs.size f cdv)) → sp vs H Q E →
      ∃ t, PSs (cxOf CX0 P w K mg base N qual (defScope st) f cdv A outer s H E).nox (defBody st) t ∧ t { nx := fun _ H' => Q .non H', rt := Q } (start N vs) H) : Kp P w K mg base (k + 1) f sp := by
  obtain ⟨fd, F⟩ := D
  refine ⟨fd, ps, F.ok S len fun cdv A outer s H vs Q E hr h => ?_, F.bindsN hb, F.kp⟩
  obtain ⟨t, h1, h2⟩ := hbody cdv A outer s H vs Q E hr h
  exact ⟨t, h1.nox, h2⟩
end
theorem b_int : bootBuiltins "int" = some (.type "int") := by decide +kernel
theorem b_bool : bootBuiltins "bool" = some (.type "bool") := by decide +kernel
theorem b_str : bootBuiltins "str" = some (.type "str") := by decide +kernel
theorem b_tuple : bootBuiltins "tuple" = some (.type "tuple") := by decide +kernel
theorem b_list : bootBuiltins "list" = some (.type "list") := by decide +kernel
theorem b_len : bootBuiltins "len" = some (.builtin "len") := by decide +kernel
theorem b_all : bootBuiltins "all" = some (.builtin "all") := by decide +kernel
theorem b_min : bootBuiltins "min" = some (.builtin "min") := by decide +kernel
theorem b_max : bootBuiltins "max" = some (.builtin "max") := by decide +kernel
section
variable {X : Cx} {k : Nat} {f C : Addr} {sp : Sp} {x m : Str} {p pos apos : Pos} {e o : Expr} {es : List Expr} {t : TA} {te ta : TE}
def tCl (sp : Sp) (t : TA) : TE := fun σ H Q => t σ H fun vs H1 => sp vs H1 Q E0
theorem pk_call (G : Kp X.prog X.w X.K X.mg X.base k f sp) (hr : Room k X.A) (hm : X.mg x = some (.ref f)) (ha : PA X (e :: es) t) (hg : Gl X x := by rfl) (hdb : (x == ("__debug__" : Str)) = false := by decide)
    (he : starEach (e :: es) X.env = (false, eval e X.env) :: starEach es X.env := by rfl) (hpl : (backTo pos (starEach es X.env)).any (·.1) = false := by rfl) : PE X (.Call (.Name x p) (e :: es) [] pos) (tCl sp t) := ⟨fun pins s σ H Q I h => by
  obtain ⟨fd, ps, F, b, kp⟩ := G
  refine (pe_call F hr hg hm kp b .nil pass0 ha hdb he hpl).run pins s σ H Q I ?_
  show t σ H fun vs H1 => sp (vs ++ []) H1 Q E0
  simp only [List.append_nil]
  exact h⟩
/-- isinstance(x, T), T a built-in type, by names of types -/
def rIsiB (K : PySem.W.Frag) : List V → Hp → VK → Prop := fun xs H Q => ∃ (x : V) (ty t : String) (r : Bool), xs = [x, .ty ty] ∧ TyX K H x (.type t) ∧ kitB t ty = some r ∧ Q (.bl r) H
theorem call_isiB : CallR X (.builtin "isinstance") (rIsiB X.K) := fun pins s σ H xs us Q I r h => by
  obtain ⟨x, ty, t, b, ex, h1, h2, q⟩ := h
  exact call_isi pins s σ H xs us Q I r ⟨x, .ty ty, .type t, .type ty, b, ex, .ty ty, h1, kit_ty h2, q⟩
/-- a built-in type as a value -/
theorem pe_ty {y : Str} {ty : String} (hm : X.mg y = none) (hb : bootBuiltins y = some (.type ty)) (hg : Gl X y := by rfl) (hn : y ≠ "__name__" := by decide) (hd : (y == ("__debug__" : Str)) = false := by decide) : PE X (.Name y p) (tC (.ty ty)) := pe_bltn hg hm hb rfl hn hd
theorem pe_isi {ty : String} {y : Str} {p2 : Pos} (he : PE X e te) (hi : X.mg ("isinstance" : Str) = none) (hy : X.mg y = none) (hb : bootBuiltins y = some (.type ty)) (hn : y ≠ "__name__" := by decide) (hd : (y == ("__debug__" : Str)) = false := by decide) (hgi : Gl X "isinstance" := by rfl) (hgy : Gl X y := by rfl)
    (h1 : starEach (e :: [.Name y p2]) X.env = (false, eval e X.env) :: starEach [.Name y p2] X.env := by rfl) (hpl : (backTo pos (starEach [.Name y p2] X.env)).any (·.1) = false := by rfl) :
    PE X (.Call (.Name "isinstance" p) [e, .Name y p2] [] pos) (tCB (rIsiB X.K) (tCons te (tCons (tC (.ty ty)) tNil))) := pe_callB call_isiB hgi hi boot_isinstance (pa_cons he (pa_cons (pe_ty hy hb hgy hn hd) pa_nil) h1) (by decide) (by decide) h1 hpl
theorem pk_prop {fl : Str} {g pa : Addr} (he : PE X e te) (c : Cls X.K C) (hp : PropOf X.K C fl pa g) (G : Kp X.prog X.w X.K X.mg X.base k g sp) (hr : Room (k + 1) X.A) (hab : attributeBase e fl X.env (eval e X.env) = eval e X.env := by rfl) : PE X (.Attribute e fl pos) (tProp C sp [] E0 te) := by
  obtain ⟨fd, ps, F, b, kp⟩ := G
  exact pe_prop he c hp F hr b .nil pass0 hab
/-- constants of the module -/
theorem pe_gI {i : Int} {tk : Tok} (hm : X.mg x = some (.int i tk)) (hg : Gl X x := by rfl) (hd : (x == ("__debug__" : Str)) = false := by decide) : PE X (.Name x p) (tC (.int i)) := pe_glob hg hm ⟨tk, rfl⟩ hd
theorem pe_gS {z : Str} {tk : Tok} (hm : X.mg x = some (.str z tk)) (hg : Gl X x := by rfl) (hd : (x == ("__debug__" : Str)) = false := by decide) : PE X (.Name x p) (tC (.str z)) := pe_glob hg hm ⟨tk, rfl⟩ hd
theorem pe_gR {a : Addr} (hm : X.mg x = some (.ref a)) (hg : Gl X x := by rfl) (hd : (x == ("__debug__" : Str)) = false := by decide) : PE X (.Name x p) (tC (.ref a)) := pe_glob hg hm rfl hd
/-- built-ins by short words: of one argument -/
theorem pk_b1 {y : Str} {id : String} {r : List V → Hp → VK → Prop} (hc : CallR X (.builtin id) r) (hm : X.mg y = none) (hv : bootBuiltins y = some (.builtin id)) (he : PE X e te) (hg : Gl X y := by rfl) (hn : y ≠ "__name__" := by decide) (hd : (y == ("__debug__" : Str)) = false := by decide)
    (h1 : starEach [e] X.env = [(false, eval e X.env)] := by rfl) : PE X (.Call (.Name y p) [e] [] pos) (tCB r (tCons te tNil)) := pe_callB hc hg hm hv (pa_cons he pa_nil h1) hn hd h1 rfl
theorem pk_t1 {y : Str} {ty : String} {r : List V → Hp → VK → Prop} (hc : CallR X (.type ty) r) (hm : X.mg y = none) (hv : bootBuiltins y = some (.type ty)) (he : PE X e te) (hg : Gl X y := by rfl) (hn : y ≠ "__name__" := by decide) (hd : (y == ("__debug__" : Str)) = false := by decide)
    (h1 : starEach [e] X.env = [(false, eval e X.env)] := by rfl) : PE X (.Call (.Name y p) [e] [] pos) (tCB r (tCons te tNil)) := pe_callTy hc hg hm hv (pa_cons he pa_nil h1) hn hd h1 rfl
end
end Pk
/-! ## for i, (x, y) in enumerate(zip(l1, l2)) -/
namespace Pk
open PySem PySem.Spec PyProof.Rows L2
/-- a zip of two lists at turn i; held: the pair that it gave last, which still lives -/
structure ZAt (h : Heap) (z TI TO i1 i2 a b : Addr) (i : Nat) (held : Option Addr) : Prop where
  pair : IsPair h TI (.ref i1) (.ref i2)
  it1 : h.IsListIter i1 a i
  it2 : h.IsListIter i2 b i
  out : ∃ x y, IsPair h TO x y
  at_ : match held with
    | none => IsZip h z TI TO .none
    | some T => ∃ f, IsZipHeld h z TI TO T f
section
variable {prog : Program} {w : World} {A : Around} {E : Value → Shared → Prop} {s : Shared} {z TI TO i1 i2 a b : Addr} {i : Nat} {held : Option Addr}
theorem ZAt.ty {h : Heap} (Z : ZAt h z TI TO i1 i2 a b i held) : ∃ o, h.get? z = some o ∧ o.cls = .type "zip" := by
  have h0 := Z.at_
  cases held with
  | none => exact ⟨_, h0, rfl⟩
  | some T =>
    obtain ⟨f, h1⟩ := h0
    exact ⟨_, h1, rfl⟩
theorem zip_turn {xs ys : Array Value} {x y : Value} {Q : Value → Shared → Prop} (D : ZipApart z TI TO i1 i2 a b) (Z : ZAt s.heap z TI TO i1 i2 a b i held) (alive : ∀ T, held = some T → ∃ o, s.heap.get? T = some o)
    (l1 : s.heap.IsList a xs) (l2 : s.heap.IsList b ys) (ex : xs[i]? = some x) (ey : ys[i]? = some y)
    (q : ∀ h2, ZAt h2 z TI TO i1 i2 a b (i + 1) (some (held.getD s.heap.objs.size)) → IsPair h2 s.heap.objs.size x y → h2.objs.size = s.heap.objs.size + 1 → (∀ c o, c ∉ [z, TO, i1, i2] → s.heap.get? c = some o → h2.get? c = some o) → Q (.ref s.heap.objs.size) { s with heap := h2 }) :
    wpAny (model prog w) A (Builtin.SmallTypes.nextOf (.ref z)) Q E s := by
  have ty : s.TypeIs (.ref z) "zip" := Z.ty
  have hp := Z.pair
  have h1 := Z.it1
  have h2 := Z.it2
  unfold Builtin.SmallTypes.nextOf
  refine wpAny_bind (wpAny_callSpecial?_slot (name := Str.ofString "__next__") ty F.slot_zip_next (wpAny_call_entry F.slot_zip_next ty F.entry_zip_next ?_ (F.args_zip_next_1 _)))
  have nTI : TI ∉ [z, TO, i1, i2] := by simp [D.TIz, D.TITO, D.TIi1, D.TIi2]
  have h0 := Z.at_
  cases held with
  | none =>
    have hz : IsZip _ z TI TO .none := h0
    obtain ⟨x0, y0, hTO⟩ := Z.out
    refine zip_next_item D hz hp hTO h1 h2 l1 l2 ex ey fun hq a1 a2 a3 a4 a5 a6 a7 => wpAny_pure ?_
    have kp : ∀ c o, c ∉ [z, TO, i1, i2] → s.heap.get? c = some o → hq.get? c = some o := fun c o hc e => by
      simp only [List.mem_cons, List.not_mem_nil, or_false, not_or] at hc
      exact a7 c o hc.1 hc.2.1 hc.2.2.1 hc.2.2.2 e
    exact q hq ⟨kp _ _ nTI hp, a3, a4, ⟨_, _, a2⟩, false, a1⟩ a5 a6 kp
  | some T =>
    obtain ⟨f, hz⟩ := h0
    obtain ⟨oT, hT⟩ := alive T rfl
    refine zip_next_item_held D hz hT hp h1 h2 l1 l2 ex ey fun hq a1 a3 a4 a5 a6 a7 => wpAny_pure ?_
    have kp : ∀ c o, c ∉ [z, TO, i1, i2] → s.heap.get? c = some o → hq.get? c = some o := fun c o hc e => by
      simp only [List.mem_cons, List.not_mem_nil, or_false, not_or] at hc
      exact a7 c o hc.1 hc.2.2.1 hc.2.2.2 e
    exact q hq ⟨kp _ _ nTI hp, a3, a4, let ⟨x0, y0, hTO⟩ := Z.out; ⟨x0, y0, a7 _ _ D.TOz D.TOi1 D.TOi2 hTO⟩, true, a1⟩ a5 a6 kp
theorem zip_over {xs ys : Array Value} {Q : Value → Shared → Prop} (hh : A.handled = none) (D : ZipApart z TI TO i1 i2 a b) (Z : ZAt s.heap z TI TO i1 i2 a b i held) (alive : ∀ T, held = some T → ∃ o, s.heap.get? T = some o)
    (l1 : s.heap.IsList a xs) (l2 : s.heap.IsList b ys) (none_ : xs[i]? = none ∨ ys[i]? = none)
    (q : ∀ h2 e, (∀ c o, c ∉ [z, TO, i1, i2] → s.heap.get? c = some o → h2.get? c = some o) → (∃ o, h2.get? e = some o ∧ o.cls = .type "StopIteration") → E (.ref e) { s with heap := h2 }) :
    wpAny (model prog w) A (Builtin.SmallTypes.nextOf (.ref z)) Q E s := by
  have ty : s.TypeIs (.ref z) "zip" := Z.ty
  have hp := Z.pair
  have h1 := Z.it1
  have h2 := Z.it2
  unfold Builtin.SmallTypes.nextOf
  refine wpAny_bind (wpAny_callSpecial?_slot (name := Str.ofString "__next__") ty F.slot_zip_next (wpAny_call_entry F.slot_zip_next ty F.entry_zip_next ?_ (F.args_zip_next_1 _)))
  have h0 := Z.at_
  cases held with
  | none =>
    have hz : IsZip _ z TI TO .none := h0
    obtain ⟨x0, y0, hTO⟩ := Z.out
    refine zip_next_end hh D hz hp hTO h1 h2 l1 l2 none_ fun hq e a7 he => q hq e (fun c o hc k => ?_) he
    simp only [List.mem_cons, List.not_mem_nil, or_false, not_or] at hc
    exact a7 c o hc.1 hc.2.1 hc.2.2.1 hc.2.2.2 k
  | some T =>
    obtain ⟨f, hz⟩ := h0
    obtain ⟨oT, hT⟩ := alive T rfl
    refine zip_next_end_held hh D hz hT hp h1 h2 l1 l2 none_ fun hq e a7 he => q hq e (fun c o hc k => ?_) he
    simp only [List.mem_cons, List.not_mem_nil, or_false, not_or] at hc
    exact a7 c o hc.1 hc.2.2.1 hc.2.2.2 k
/-- one turn of an enumerate, whatever it goes through -/
theorem enum_turn {elts : List Expr} {kk : Nat} {tpos : Pos} {en it : Addr} {c : Int} {prev : Value} {G : Value → Heap → Nat → Prop} {Q : Option Value → Shared → Prop}
    (here : IsEnum s.heap en it c prev)
    (inner : wpAny (model prog w) A.in1 (Builtin.SmallTypes.nextOf (.ref it)) (fun x s1 => ∃ h1 tk, s1 = { s with heap := h1, toks := tk } ∧ IsEnum h1 en it c prev ∧ G x h1 tk) (fun _ _ => False) s)
    (fin : ∀ x h1 tk, G x h1 tk → ∀ h2, IsEnumOut h2 en it (c + 1) x h1.objs.size → h2.get? h1.objs.size = some { cls := .type "tuple", data := .seq #[.int c tk, x] } → (∀ b o, b ≠ en → h1.get? b = some o → h2.get? b = some o) → Q (some (.ref h1.objs.size)) { s with heap := h2, toks := tk + 1 }) :
    wpAny (model prog w) A (pyNext (.ref en)) Q E s := by
  have ty : s.TypeIs (.ref en) "enumerate" := ⟨_, here, rfl⟩
  unfold pyNext
  refine wpAny_bind (wpAny_attempt (wpAny_callSpecial?_slot (name := Str.ofString "__next__") ty F.slot_enumerate_next (wpAny_call_entry F.slot_enumerate_next ty F.entry_enumerate_next ?_ (F.args_enumerate_next_1 _))))
  change wpAny _ _ (field (Value.ref en) 2 >>= _) _ _ s
  refine wpAny_bind (wpAny_field (i := 2) here rfl (x := .ref it) rfl ?_)
  refine wpAny_bind (wpAny_mono inner (fun x s1 r1 => ?_) fun _ _ z => z.elim)
  obtain ⟨h1, tk, rfl, here1, g1⟩ := r1
  change wpAny _ _ (field (Value.ref en) 3 >>= _) _ _ _
  refine wpAny_bind (wpAny_field (i := 3) here1 rfl (x := rawInt c) rfl ?_)
  change wpAny _ _ (field (Value.ref en) 4 >>= _) _ _ _
  refine wpAny_bind (wpAny_field (i := 4) here1 rfl (x := .none) rfl ?_)
  change wpAny _ _ (mkInt c >>= _) _ _ _
  refine wpAny_bind (m := mkInt c) (wpAny_mkInt ?_)
  change wpAny _ _ (setField (Value.ref en) 3 (rawInt (c + 1)) >>= _) _ _ _
  refine wpAny_bind (m := setField (.ref en) 3 (rawInt (c + 1))) (wpAny_setField_rec here1 (by simp) fun h2 here2 same2 => ?_)
  replace here2 : IsEnum h2 en it (c + 1) prev := here2
  replace same2 : Heap.SameBut en h1 h2 := same2
  change wpAny _ _ (setField (Value.ref en) 4 Value.none >>= _) _ _ _
  refine wpAny_bind (m := setField (.ref en) 4 .none) (wpAny_setField_rec here2 (by simp) fun h3 here3 same3 => ?_)
  replace here3 : IsEnum h3 en it (c + 1) prev := here3
  replace same3 : Heap.SameBut en h2 h3 := same3
  have size3 : h3.objs.size = h1.objs.size := by rw [same3.1, same2.1]
  change wpAny _ _ (newTuple [Value.int c tk, x] >>= _) _ _ _
  refine wpAny_bind (m := newTuple [.int c tk, x]) (wpAny_newTuple ?_)
  have here4 : IsEnum (h3.push { cls := .type "tuple", data := .seq #[.int c tk, x] }) en it (c + 1) prev := Heap.get?_push_of_some _ here3
  have tup4 : (h3.push { cls := .type "tuple", data := .seq #[.int c tk, x] }).get? h1.objs.size = some { cls := .type "tuple", data := .seq #[.int c tk, x] } := by
    rw [← size3]
    exact Heap.get?_push_size _ rfl
  have keep4 : ∀ b o, b ≠ en → h1.get? b = some o → (h3.push { cls := .type "tuple", data := .seq #[.int c tk, x] }).get? b = some o := fun b o n e => Heap.get?_push_of_some _ (same3.extBut b o n (same2.extBut b o n e))
  have lt1 : en < h1.objs.size := Heap.lt_size here1
  show wpAny _ _ (Builtin.SmallTypes.ownedTupleIsFree (.ref en) >>= _) _ _ _
  rw [size3]
  generalize h3.push { cls := .type "tuple", data := .seq #[.int c tk, x] } = h4 at here4 tup4 keep4
  change wpAny _ _ _ _ _ { s with heap := h4, toks := tk + 1 }
  clear here3 same3 here2 same2 size3 h3 h2
  refine wpAny_bind ?_
  unfold Builtin.SmallTypes.ownedTupleIsFree
  refine wpAny_bind (wpAny_field (i := 0) here4 rfl (x := .none) rfl (wpAny_pure ?_))
  simp only [if_true]
  refine wpAny_bind (wpAny_rule ?_)
  refine wpAny_bind (wpAny_field here4 rfl (x := prev) rfl ?_)
  refine wpAny_bind (wpAny_setField_rec here4 (by simp) fun h5 here5 same5 => ?_)
  replace here5 : IsEnum h5 en it (c + 1) x := here5
  replace same5 : Heap.SameBut en h4 h5 := same5
  refine wpAny_bind ?_
  unfold Builtin.SmallTypes.ownedTupleHandOut
  refine wpAny_bind (wpAny_setField_rec here5 (by simp) fun h6 here6 same6 => ?_)
  replace here6 : IsEnumOut h6 en it (c + 1) x h1.objs.size := here6
  replace same6 : Heap.SameBut en h5 h6 := same6
  refine wpAny_setField_rec here6 (by simp) fun h7 here7 same7 => ?_
  replace here7 : IsEnumOut h7 en it (c + 1) x h1.objs.size := here7
  replace same7 : Heap.SameBut en h6 h7 := same7
  have keep7 : ∀ b o, b ≠ en → h4.get? b = some o → h7.get? b = some o := fun b o n e => same7.extBut b o n (same6.extBut b o n (same5.extBut b o n e))
  exact wpAny_bind (wpAny_letGo (wpAny_pure ⟨_, rfl, wpAny_pure (fin x h1 tk g1 h7 here7 (keep7 _ _ (Nat.ne_of_gt lt1) tup4) fun b o n e => keep7 b o n (keep4 b o n e))⟩))
theorem enum_over {en it : Addr} {c : Int} {prev : Value} {G : Heap → Prop} {Q : Option Value → Shared → Prop}
    (here : IsEnum s.heap en it c prev)
    (inner : ∀ Q2 : Value → Shared → Prop, wpAny (model prog w) A.in1 (Builtin.SmallTypes.nextOf (.ref it)) Q2 (fun ev s1 => ∃ e h1, ev = .ref e ∧ s1 = { s with heap := h1 } ∧ (∃ o, h1.get? e = some o ∧ o.cls = .type "StopIteration") ∧ G h1) s)
    (fin : ∀ h1, G h1 → Q none { s with heap := h1 }) : wpAny (model prog w) A (pyNext (.ref en)) Q E s := by
  have ty : s.TypeIs (.ref en) "enumerate" := ⟨_, here, rfl⟩
  unfold pyNext
  refine wpAny_bind (wpAny_attempt (wpAny_callSpecial?_slot (name := Str.ofString "__next__") ty F.slot_enumerate_next (wpAny_call_entry F.slot_enumerate_next ty F.entry_enumerate_next ?_ (F.args_enumerate_next_1 _))))
  change wpAny _ _ (field (Value.ref en) 2 >>= _) _ _ s
  refine wpAny_bind (wpAny_field (i := 2) here rfl (x := .ref it) rfl ?_)
  refine wpAny_bind (wpAny_mono (inner fun _ _ => False) (fun _ _ z => z.elim) fun ev s1 r1 => ?_)
  obtain ⟨e, h1, rfl, rfl, ⟨o, ho, hc⟩, g1⟩ := r1
  refine wpAny_bind (wpAny_isInstance (T := "StopIteration") (b := true) ⟨o, ho, hc⟩ isSubtype_stop ?_)
  exact wpAny_pure (fin h1 g1)
end
end Pk
namespace Pk
open PySem PySem.Spec PyProof.Rows L2
theorem enum_self_meets {z TI TO : Addr} : Meets (Builtin.«enumerate.__new__» ⟨[.type "enumerate", .ref z], []⟩) (fun _ R s => IsZip s.heap z TI TO .none ∧
      R (.ok (.ret (.ref s.heap.objs.size))) { s with heap := s.heap.push { cls := .type "enumerate", data := .fields #[.none, .bool false, .ref z, rawInt 0, .none, .none] } }) :=
  .of_wp fun prog w A R s hh => by
    obtain ⟨hp, g, d, tk, os⟩ := s
    obtain ⟨hP, hR⟩ := hh
    have subE := sub_enumerate
    have mk : ∀ {A' : Around} {E : Value → Shared → Prop} {Q : Value → Shared → Prop}, Q (.ref z) ⟨hp, g, d, tk, os⟩ → wpAny (model prog w) A' (pyIter (.ref z)) Q E ⟨hp, g, d, tk, os⟩ := fun q => wpAny_pyIter_zip hP q
    wp_walk using mk
    refine wpAny_stack_any fun stk => wpAny_pure ?_
    split
    · rename_i cc _ _ _ _ _
      cases (cc == Value.type "enumerate") <;> (wp_walk using mk; exact ⟨_, rfl, hR⟩)
    · wp_walk using mk
      exact ⟨_, rfl, hR⟩
theorem enum_zip_new {prog : Program} {w : World} {A : Around} {E : Value → Shared → Prop} {s : Shared} {z TI TO : Addr} {Q : Value → Shared → Prop} (hP : IsZip s.heap z TI TO .none)
    (hQ : ∀ h2, IsEnum h2 s.heap.objs.size z 0 .none → (∀ b o, s.heap.get? b = some o → h2.get? b = some o) → Q (.ref s.heap.objs.size) { s with heap := h2 }) :
    wpAny (model prog w) A (call (.type "enumerate") [.ref z]) Q E s := by
  refine callType_new F.called_enumerate (by decide) (F.typeCall_enumerate_1 _) (F.newCall_enumerate_1 _) (fun obj => F.args_object_init_2 obj _) F.entry_enumerate_new enum_self_meets ⟨hP, ?_⟩
  have at_ := Heap.get?_push_size s.heap (o := { cls := .type "enumerate", data := .fields #[.none, .bool false, .ref z, rawInt 0, .none, .none] }) rfl
  exact ⟨⟨_, at_, rfl⟩, hQ _ at_ fun b o y => Heap.get?_push_of_some _ y⟩
/-- for tg in enumerate(zip(e1, e2)), lists: each turn lays a pair and a pair of it; what a turn leaves keeps them -/
def tForEZ (K : PySem.W.Frag) (ta : TA) (g : TG) (tb : TS) : TS := fun D σ H => ta σ H fun vs H1 => ∃ (a b : Addr) (xs ys : List V), vs = [.ref a, .ref b] ∧ SqL K H1 a xs ∧ SqL K H1 b ys ∧
  ∃ W : Nat → Nat → L2.St → Hp → Prop, (∃ m, W 0 m σ H1) ∧ ∀ i m σ H, W i m σ H → SqL K H a xs ∧ SqL K H b ys ∧ (((xs.length ≤ i ∨ ys.length ≤ i) ∧ D.nx σ H) ∨
    ∃ x y, xs[i]? = some x ∧ ys[i]? = some y ∧ ∃ N : L2.St → Hp → Prop, (∀ σ2 H2, N σ2 H2 → ∃ m2, m2 < m ∧ W (i + 1) m2 σ2 H2) ∧
      ∀ T T2, H T = none → (upd H T (.tup [x, y])) T2 = none → g (.ref T2) σ (upd (upd H T (.tup [x, y])) T2 (.tup [.int (i : Nat), .ref T])) fun σ2 H2 =>
        tb { D with nx := fun σ3 H3 => Same (upd (upd H T (.tup [x, y])) T2 (.tup [.int (i : Nat), .ref T])) H3 ∧ N σ3 H3, ct := fun σ3 H3 => Same (upd (upd H T (.tup [x, y])) T2 (.tup [.int (i : Nat), .ref T])) H3 ∧ N σ3 H3, bk := D.nx } σ2 H2)
section
variable {X : Cx}
theorem ps_forEZ {p1 p2 pos1 pos2 pos tpos : Pos} {elts : List Expr} {kk : Nat} {e e2 : Expr} {ta : TA} {body : List Stmt} {g : TG} {tb : TS} (hp : PassesOwn (model X.prog X.w) X.A X.env X.xe) (hc : X.calm = true)
    (ge : Gl X "enumerate") (me : X.mg "enumerate" = none) (gz : Gl X "zip") (mz : X.mg "zip" = none) (ha : PA X [e, e2] ta) (hg : PG X (.Tuple elts kk tpos) g) (hb : PSs X body tb)
    (hs : starEach [e, e2] X.env = (false, eval e X.env) :: starEach [e2] X.env := by rfl) (hpl : (backTo pos2 (starEach [e2] X.env)).any (·.1) = false := by rfl)
    (na : starEach [.Call (.Name "zip" p2) [e, e2] [] pos2] X.env = (false, eval (.Call (.Name "zip" p2) [e, e2] [] pos2) X.env) :: starEach [] X.env := by rfl)
    (fs : ∀ x, foldedSetIterable (.Call (.Name "enumerate" p1) [.Call (.Name "zip" p2) [e, e2] [] pos2] [] pos1) X.env x = pure x := by intro _; rfl) :
    PS X (.For (.Tuple elts kk tpos) (.Call (.Name "enumerate" p1) [.Call (.Name "zip" p2) [e, e2] [] pos2] [] pos1) body [] pos) (tForEZ X.K ta g tb) := ⟨fun pins s σ H D I h => by
  refine wpAny_For (Call_ (ld_blt I ge me boot_enumerate (PyProof.Rows.callWith_type1 (PyProof.Rows.args_cons (Call_ (ld_blt I gz mz PyProof.Rows.boot_zip (PyProof.Rows.callWith_type1 (thn (ha.run pos2 pins s σ H _ I h) fun us s1 k1 => ?_) hs hpl))) na) na))) fs
  obtain ⟨vs, H1, I1, r1, a, b, xs, ys, ev, la, lb, W, ⟨m0, w0⟩, turn⟩ := k1
  subst ev
  cases r1 with
  | cons r rr =>
  cases rr with
  | cons r2 rr =>
  cases rr
  cases r
  cases r2
  obtain ⟨its, rv, q1, _⟩ := I1.list la
  obtain ⟨its2, rv2, q2, _⟩ := I1.list lb
  have lta : a < s1.heap.objs.size := q1.lt
  have ltb : b < s1.heap.objs.size := q2.lt
  have DD := PySem.W.ktu_apart s1.heap.objs.size a b lta ltb
  refine call_zip_2 q1.isList q2.isList fun h1 hz hTI hTO t1 t2 size1 kp1 => PyProof.Rows.args_nil (enum_zip_new hz fun h2 hen kp2 => ?_)
  have I2 : Inv X pins σ H1 { s1 with heap := h2 } := I1.kept (t' := s1.toks) fun b o e => kp2 b o (kp1 b o e)
  have kz := kp2 _ _ hz
  have kTI := kp2 _ _ hTI
  have kTO := kp2 _ _ hTO
  have k1 := t1.at fun o q => kp2 _ o q
  have k2 := t2.at fun o q => kp2 _ o q
  rw [size1] at hen ⊢
  have hen0 : IsEnum h2 (s1.heap.objs.size + 5) (s1.heap.objs.size + 4) 0 .none := hen
  have ft : ∀ c ∈ [s1.heap.objs.size + 5, s1.heap.objs.size + 4, s1.heap.objs.size + 2, s1.heap.objs.size + 3, s1.heap.objs.size, s1.heap.objs.size + 1], FpOk X pins H1 c := fun c hc => by
    have hle : s1.heap.objs.size ≤ c := by
      simp only [List.mem_cons, List.not_mem_nil, or_false] at hc
      omega
    exact I1.fpOk hle (I1.hok.fresh hle)
  have apart : ∀ c ∈ [s1.heap.objs.size + 4, s1.heap.objs.size + 2, s1.heap.objs.size + 3, s1.heap.objs.size, s1.heap.objs.size + 1], c ≠ s1.heap.objs.size + 5 := fun c hc => by
    simp only [List.mem_cons, List.not_mem_nil, or_false] at hc
    omega
  have nab : a ≠ s1.heap.objs.size + 5 ∧ b ≠ s1.heap.objs.size + 5 := ⟨Nat.ne_of_lt (Nat.lt_of_lt_of_le lta (Nat.le_add_right _ _)), Nat.ne_of_lt (Nat.lt_of_lt_of_le ltb (Nat.le_add_right _ _))⟩
  change wpAny _ _ (pyIter (.ref (s1.heap.objs.size + 5))) _ _ _
  generalize s1.heap.objs.size + 5 = en at *
  generalize s1.heap.objs.size + 4 = z at *
  generalize s1.heap.objs.size + 2 = TI at *
  generalize s1.heap.objs.size + 3 = TO at *
  generalize s1.heap.objs.size + 1 = i2 at *
  generalize s1.heap.objs.size = i1 at *
  refine wpAny_pyIter_enum hen0 ?_
  have stat : ∀ {H4 : Hp}, (∀ c ∈ [en, z, TI, TO, i1, i2], H4 c = none) → ∀ c ∈ [en, z, TI, TO, i1, i2], FpOk X pins H4 c := fun hn c hc => ⟨hn c hc, (ft c hc).2⟩
  refine codeAny_forLoop_any (fun n s4 => ∃ i σ4 H4 held, Inv X pins σ4 H4 s4 ∧ (∃ prev, IsEnum s4.heap en z ((i : Nat) : Int) prev) ∧ ZAt s4.heap z TI TO i1 i2 a b i held ∧ (∀ T, held = some T → ∃ us, H4 T = some (.tup us)) ∧ (∀ c ∈ [en, z, TI, TO, i1, i2], H4 c = none) ∧ W i n σ4 H4) ?_ m0
    ⟨0, σ, H1, none, I2, ⟨_, hen0⟩, ⟨kTI, k1, k2, ⟨_, _, kTO⟩, kz⟩, fun _ q => (by cases q), fun c hc => (ft c hc).1, w0⟩
  rintro n s4 ⟨i, σ4, H4, held, I4, ⟨prev, en4⟩, Z4, alive4, fr4, w4⟩
  obtain ⟨la4, lb4, turn4⟩ := turn i n σ4 H4 w4
  obtain ⟨jts, rw1, u1, _⟩ := I4.list la4
  obtain ⟨jts2, rw2, u2, _⟩ := I4.list lb4
  have alive : ∀ T, held = some T → ∃ o, s4.heap.get? T = some o := fun T hT => by
    obtain ⟨us, hu⟩ := alive4 T hT
    obtain ⟨its, _, ⟨o, ho, _⟩, _⟩ := I4.tuple (xs := us) (.inl (.inl hu))
    exact ⟨o, ho⟩
  have hh : X.A.in1.handled = none := I4.ok.hd hc
  have ez : en ≠ z := fun q => apart z (by simp) q.symm
  have sub : ∀ c, c ∉ [en, z, TI, TO, i1, i2] → c ∉ [z, TO, i1, i2] := fun c hc q => hc (by
    simp only [List.mem_cons, List.not_mem_nil, or_false] at q ⊢
    rcases q with q | q | q | q <;> simp [q])
  have en_out : en ∉ [z, TO, i1, i2] := fun q => by
    simp only [List.mem_cons, List.not_mem_nil, or_false] at q
    rcases q with q | q | q | q
    · exact apart z (by simp) q.symm
    · exact apart TO (by simp) q.symm
    · exact apart i1 (by simp) q.symm
    · exact apart i2 (by simp) q.symm
  rcases turn4 with ⟨over, qn⟩ | ⟨x, y, hx, hy, N, hN, step⟩
  · have none_ : jts.toArray[i]? = none ∨ jts2.toArray[i]? = none := by
      have l1 := rw1.length
      have l2 := rw2.length
      rcases over with q | q
      · exact .inl (by simp; omega)
      · exact .inr (by simp; omega)
    refine wpAny_passesOwn hp (enum_over (G := fun h5 => ∀ c o, c ∉ [z, TO, i1, i2] → s4.heap.get? c = some o → h5.get? c = some o) en4 (fun Q2 => zip_over hh DD Z4 alive u1.isList u2.isList none_ fun h5 e k5 st5 => ⟨e, h5, rfl, rfl, st5, k5⟩) fun h5 k5 => ?_)
    exact wpAny_execs_nil ⟨σ4, H4, I4.turnedL (t' := s4.toks) (ch := [en, z, TI, TO, i1, i2]) (fun c o hc e => k5 c o (sub c hc) e) (stat fr4), qn⟩
  · obtain ⟨v1, hv1, rv1⟩ := rw1.get hx
    obtain ⟨v2, hv2, rv2⟩ := rw2.get hy
    refine wpAny_passesOwn hp (enum_turn (elts := elts) (kk := kk) (tpos := tpos) (G := fun u h5 tk => u = .ref s4.heap.objs.size ∧ tk = s4.toks ∧ ZAt h5 z TI TO i1 i2 a b (i + 1) (some (held.getD s4.heap.objs.size)) ∧ IsPair h5 s4.heap.objs.size v1 v2 ∧ h5.objs.size = s4.heap.objs.size + 1 ∧ (∀ c o, c ∉ [z, TO, i1, i2] → s4.heap.get? c = some o → h5.get? c = some o)) en4
      (zip_turn DD Z4 alive u1.isList u2.isList (x := v1) (y := v2) (by simpa using hv1) (by simpa using hv2) fun h5 Z5 p5 size5 k5 => ⟨h5, s4.toks, rfl, k5 _ _ en_out en4, rfl, rfl, Z5, p5, size5, k5⟩) fun u h5 tk g5 h6 out6 tup6 k6 => ?_)
    obtain ⟨rfl, rfl, Z5, p5, size5, k5⟩ := g5
    rw [size5] at out6 tup6 ⊢
    refine wpAny_passesOwn hp (wpAny_letOwnedTupleGo_enum (s := { s4 with heap := h6, toks := s4.toks + 1 }) out6 fun h7 en7 sb => ?_)
    have fresh4 : H4 s4.heap.objs.size = none := I4.hok.fresh (Nat.le_refl _)
    have lts : ∀ c ∈ [en, z, TI, TO, i1, i2], c < s4.heap.objs.size := fun c hc => by
      simp only [List.mem_cons, List.not_mem_nil, or_false] at hc
      obtain ⟨oz, hoz, _⟩ := Z4.ty
      obtain ⟨o1, ho1, _⟩ := Z4.it1
      obtain ⟨o2, ho2, _⟩ := Z4.it2
      rcases hc with q | q | q | q | q | q
      · rw [q]; exact Heap.lt_size en4
      · rw [q]; exact Heap.lt_size hoz
      · rw [q]; exact Heap.lt_size Z4.pair
      · rw [q]
        obtain ⟨_, _, hto⟩ := Z4.out
        exact Heap.lt_size hto
      · rw [q]; exact Heap.lt_size ho1
      · rw [q]; exact Heap.lt_size ho2
    have nf : ∀ c ∈ [en, z, TI, TO, i1, i2], c ≠ s4.heap.objs.size := fun c hc => Nat.ne_of_lt (lts c hc)
    have k57 : ∀ c o, c ≠ en → h5.get? c = some o → h7.get? c = some o := fun c o n e => (sb.2 c n).trans (k6 c o n e)
    have new5 : ObjOk X.prog X.w (upd H4 s4.heap.objs.size (.tup [x, y])) h5 s4.heap.objs.size (.tup [x, y]) := ⟨(by decide : 2 ≤ sizeLine), [v1, v2], .cons rv1 (.cons rv2 .nil), ⟨_, p5, rfl, _, rfl⟩⟩
    have I5 : Inv X pins σ4 (upd H4 s4.heap.objs.size (.tup [x, y])) { s4 with heap := h5, toks := s4.toks } :=
      I4.turnedNew (t' := s4.toks) (ch := [en, z, TI, TO, i1, i2]) (fun c o hc e => k5 c o (sub c hc) e) (stat fr4) (Nat.le_refl _) new5
    have fr5 : ∀ c ∈ [en, z, TI, TO, i1, i2], (upd H4 s4.heap.objs.size (.tup [x, y])) c = none := fun c hc => by
      rw [upd_ne (nf c hc)]
      exact fr4 c hc
    have tup7 : h7.get? (s4.heap.objs.size + 1) = some { cls := .type "tuple", data := .seq #[.int (i : Nat) s4.toks, .ref s4.heap.objs.size] } := (sb.2 _ (Nat.ne_of_gt (Nat.lt_succ_of_lt (lts en (by simp))))).trans tup6
    have new7 : ObjOk X.prog X.w (upd (upd H4 s4.heap.objs.size (.tup [x, y])) (s4.heap.objs.size + 1) (.tup [.int (i : Nat), .ref s4.heap.objs.size])) h7 (s4.heap.objs.size + 1) (.tup [.int (i : Nat), .ref s4.heap.objs.size]) :=
      ⟨(by decide : 2 ≤ sizeLine), [.int (i : Nat) s4.toks, .ref s4.heap.objs.size], .cons ⟨_, rfl⟩ (.cons rfl .nil), ⟨_, tup7, rfl, _, rfl⟩⟩
    have I7 : Inv X pins σ4 (upd (upd H4 s4.heap.objs.size (.tup [x, y])) (s4.heap.objs.size + 1) (.tup [.int (i : Nat), .ref s4.heap.objs.size])) { s4 with heap := h7, toks := s4.toks + 1 } :=
      I5.turnedNew (t' := s4.toks + 1) (ch := [en]) (fun c o hc e => k57 c o (fun q => hc (by simp [q])) e) (fun c hc => stat fr5 c (by simp only [List.mem_cons, List.not_mem_nil, or_false] at hc; simp [hc])) (Nat.le_of_eq size5) new7
    have fr7 : ∀ c ∈ [en, z, TI, TO, i1, i2], (upd (upd H4 s4.heap.objs.size (.tup [x, y])) (s4.heap.objs.size + 1) (.tup [.int (i : Nat), .ref s4.heap.objs.size])) c = none := fun c hc => by
      rw [upd_ne (Nat.ne_of_lt (Nat.lt_succ_of_lt (lts c hc)))]
      exact fr5 c hc
    have fresh5 : (upd H4 s4.heap.objs.size (.tup [x, y])) (s4.heap.objs.size + 1) = none := I5.hok.fresh (Nat.le_of_eq size5)
    have nTI : TI ≠ en := apart TI (by simp)
    have n1 : i1 ≠ en := apart i1 (by simp)
    have n2 : i2 ≠ en := apart i2 (by simp)
    have nz : z ≠ en := apart z (by simp)
    have nO : TO ≠ en := apart TO (by simp)
    have Z7 : ZAt h7 z TI TO i1 i2 a b (i + 1) (some (held.getD s4.heap.objs.size)) := ⟨k57 _ _ nTI Z5.pair, Z5.it1.at fun o q => k57 _ o n1 q, Z5.it2.at fun o q => k57 _ o n2 q, let ⟨_, _, q⟩ := Z5.out; ⟨_, _, k57 _ _ nO q⟩, let ⟨f, q⟩ := Z5.at_; ⟨f, k57 _ _ nz q⟩⟩
    have en7' : IsEnum h7 en z ((i + 1 : Nat) : Int) (.ref s4.heap.objs.size) := by
      rw [Int.natCast_succ]
      exact en7
    have alive7 : ∀ T, some (held.getD s4.heap.objs.size) = some T → ∃ us, (upd (upd H4 s4.heap.objs.size (.tup [x, y])) (s4.heap.objs.size + 1) (.tup [.int (i : Nat), .ref s4.heap.objs.size])) T = some (.tup us) := fun T hT => by
      have s57 : Same (upd H4 s4.heap.objs.size (.tup [x, y])) (upd (upd H4 s4.heap.objs.size (.tup [x, y])) (s4.heap.objs.size + 1) (.tup [.int (i : Nat), .ref s4.heap.objs.size])) := fun c o e => by
        rw [upd_ne (ne_of_none e fresh5)]
        exact e
      have s45 : Same H4 (upd H4 s4.heap.objs.size (.tup [x, y])) := fun c o e => by
        rw [upd_ne (ne_of_none e fresh4)]
        exact e
      cases held with
      | none =>
        cases hT
        exact ⟨_, s57 _ _ upd_same⟩
      | some T0 =>
        cases hT
        obtain ⟨us, hu⟩ := alive4 T0 rfl
        exact ⟨us, s57 _ _ (s45 _ _ hu)⟩
    have obj7 : ∀ c ∈ [en, z, TI, TO, i1, i2], ∃ o, h7.get? c = some o ∧ ∀ v, o.data ≠ .cell v := fun c hc => by
      obtain ⟨f, hz7⟩ := Z7.at_
      obtain ⟨_, _, hO7⟩ := Z7.out
      obtain ⟨o1, e1, _, d1⟩ := Z7.it1
      obtain ⟨o2, e2, _, d2⟩ := Z7.it2
      simp only [List.mem_cons, List.not_mem_nil, or_false] at hc
      rcases hc with q | q | q | q | q | q <;> rw [q]
      · exact ⟨_, en7', fun v q => nomatch q⟩
      · exact ⟨_, hz7, fun v q => nomatch q⟩
      · exact ⟨_, Z7.pair, fun v q => nomatch q⟩
      · exact ⟨_, hO7, fun v q => nomatch q⟩
      · exact ⟨o1, e1, fun v q => by rw [d1] at q; cases q⟩
      · exact ⟨o2, e2, fun v q => by rw [d2] at q; cases q⟩
    have I7p := I7.pinned (stat fr7) obj7
    refine wpAny_passesOwn hp (thn (hg.run _ _ σ4 _ (.ref (s4.heap.objs.size + 1)) _ _ I7p rfl (step s4.heap.objs.size (s4.heap.objs.size + 1) fresh4 fresh5)) fun _ s8 ⟨σ8, H8, I8, q8⟩ => ?_)
    refine wpAny_passesOwn hp (thn (hb.run _ s8 σ8 H8 _ I8 q8) fun f s9 q9 => ?_)
    have again : ∀ {σ9 : L2.St} {H9 : Hp}, Inv X (pins ++ pinsAt [en, z, TI, TO, i1, i2] h7) σ9 H9 s9 → Same (upd (upd H4 s4.heap.objs.size (.tup [x, y])) (s4.heap.objs.size + 1) (.tup [.int (i : Nat), .ref s4.heap.objs.size])) H9 ∧ N σ9 H9 →
        ∃ m, m < n ∧ ∃ i σ4 H4 held, Inv X pins σ4 H4 s9 ∧ (∃ prev, IsEnum s9.heap en z ((i : Nat) : Int) prev) ∧ ZAt s9.heap z TI TO i1 i2 a b i held ∧ (∀ T, held = some T → ∃ us, H4 T = some (.tup us)) ∧ (∀ c ∈ [en, z, TI, TO, i1, i2], H4 c = none) ∧ W i m σ4 H4 := fun {σ9 H9} I9 n9 => by
      obtain ⟨m9, hm, w9⟩ := hN σ9 H9 n9.2
      have pn : ∀ c ∈ [en, z, TI, TO, i1, i2], ∀ o, h7.get? c = some o → s9.heap.get? c = some o := fun c hc o e => (I9.pin (c, o) (List.mem_append_right _ (List.mem_append_right _ (mem_pinsAt hc e)))).1
      refine ⟨m9, hm, i + 1, σ9, H9, some (held.getD s4.heap.objs.size), I9.unpinned, ⟨_, pn en (by simp) _ en7'⟩, ⟨pn TI (by simp) _ Z7.pair, Z7.it1.at fun o q => pn i1 (by simp) o q, Z7.it2.at fun o q => pn i2 (by simp) o q, let ⟨_, _, q⟩ := Z7.out; ⟨_, _, pn TO (by simp) _ q⟩, let ⟨f, q⟩ := Z7.at_; ⟨f, pn z (by simp) _ q⟩⟩, fun T hT => ?_, fun c hc => ?_, w9⟩
      · obtain ⟨us, hu⟩ := alive7 T hT
        exact ⟨us, n9.1 _ _ hu⟩
      · obtain ⟨o, e, d⟩ := obj7 c hc
        exact (I9.pin (c, o) (List.mem_append_right _ (List.mem_append_right _ (mem_pinsAt hc e)))).2.1
    cases f with
    | next => obtain ⟨σ9, H9, I9, n9⟩ := q9; exact again I9 n9
    | cont => obtain ⟨σ9, H9, I9, n9⟩ := q9; exact again I9 n9
    | brk => obtain ⟨σ9, H9, I9, q9⟩ := q9; exact ⟨σ9, H9, I9.unpinned, q9⟩
    | ret v => obtain ⟨x9, σ9, H9, I9, r9, q9⟩ := q9; exact ⟨x9, σ9, H9, I9.unpinned, r9, q9⟩⟩
end
end Pk
/-! ## Texts in plain Lean: steps, sizes, the keys of all places -/
namespace Pk
open PySem L2
def sL (l : List Nat) : Str := ⟨l.toArray⟩
theorem sL_len (l : List Nat) : (sL l).length = l.length := by simp [sL, Str.length]
theorem sL_app (a b : List Nat) : sL a ++ sL b = sL (a ++ b) := by
  show Str.append (sL a) (sL b) = _
  simp [sL, Str.append]
theorem sL_inj {a b : List Nat} : sL a = sL b ↔ a = b := by
  constructor
  · intro h
    have h1 := congrArg (fun z : Str => z.cps.toList) h
    simpa [sL] using h1
  · intro h
    rw [h]
theorem sL_of (z : Str) : z = sL z.cps.toList := by cases z; simp [sL]
def isLet (c : Nat) : Bool := decide (97 ≤ c) && decide (c ≤ 122)
inductive Stp where
  | wr (w : List Nat)
  | pa (f l t : Nat)
  deriving DecidableEq
namespace Stp
/-- keys that are typed -/
def ks : Stp → Nat
  | wr w => w.length
  | pa _ _ _ => 0
/-- places that are added -/
def gr : Stp → Nat
  | wr w => w.length
  | pa f l t => (l + 1 - f) * t
/-- letters that are typed -/
def ty : Stp → List Nat
  | wr w => w
  | pa _ _ _ => []
def ok (s : Nat) : Stp → Bool
  | wr w => decide (1 ≤ w.length) && decide (w.length ≤ 20) && w.all isLet
  | pa f l t => decide (f ≤ l) && decide (l < s) && decide (1 ≤ t) && decide (t ≤ 1000000000)
end Stp
def sz (st : List Stp) : Nat := (st.map Stp.gr).sum
def nk (st : List Stp) : Nat := (st.map Stp.ks).sum
def typed (st : List Stp) : List Nat := st.flatMap Stp.ty
theorem sz_cons (x : Stp) (r : List Stp) : sz (x :: r) = x.gr + sz r := by simp [sz]
theorem sz_app (a b : List Stp) : sz (a ++ b) = sz a + sz b := by simp [sz]
theorem nk_app (a b : List Stp) : nk (a ++ b) = nk a + nk b := by simp [nk]
theorem typed_app (a b : List Stp) : typed (a ++ b) = typed a ++ typed b := by simp [typed]
theorem typed_len (st : List Stp) : (typed st).length = nk st := by
  induction st with
  | nil => rfl
  | cons x r ih =>
    have h : (x.ty).length = x.ks := by cases x <;> rfl
    simp only [typed, List.flatMap_cons, List.length_append, h, nk, List.map_cons, List.sum_cons] at ih ⊢
    rw [ih]
/-- every step is one where it stands, and the text is not too long behind it -/
def Goes (most : Nat) : Nat → List Stp → Prop
  | _, [] => True
  | s, x :: r => x.ok s = true ∧ s + x.gr ≤ most ∧ Goes most (s + x.gr) r
theorem goes_app {most : Nat} : ∀ {s : Nat} {a b : List Stp}, Goes most s (a ++ b) ↔ Goes most s a ∧ Goes most (s + sz a) b
  | s, [], b => by simp [Goes, sz]
  | s, x :: a, b => by
    show (x.ok s = true ∧ s + x.gr ≤ most ∧ Goes most (s + x.gr) (a ++ b)) ↔ (x.ok s = true ∧ s + x.gr ≤ most ∧ Goes most (s + x.gr) a) ∧ _
    rw [goes_app (a := a) (b := b), sz_cons, Nat.add_assoc]
    constructor
    · rintro ⟨h1, h2, h3, h4⟩; exact ⟨⟨h1, h2, h3⟩, h4⟩
    · rintro ⟨⟨h1, h2, h3⟩, h4⟩; exact ⟨h1, h2, h3, h4⟩
theorem goes_at {most : Nat} {st : List Stp} {i : Nat} {x : Stp} (h : Goes most 0 st) (e : st[i]? = some x) : x.ok (sz (st.take i)) = true ∧ sz (st.take i) + x.gr ≤ most := by
  have hlt : i < st.length := (List.getElem?_eq_some_iff.mp e).1
  have hd : st = st.take i ++ st.drop i := (List.take_append_drop i st).symm
  have hx : st.drop i = x :: st.drop (i + 1) := by
    rw [List.drop_eq_getElem_cons hlt]
    have := (List.getElem?_eq_some_iff.mp e).2
    rw [this]
  rw [hx] at hd
  rw [hd] at h
  have h2 := (goes_app.mp h).2
  rw [Nat.zero_add] at h2
  exact ⟨h2.1, h2.2.1⟩
theorem goes_mono {m n : Nat} (hmn : m ≤ n) : ∀ {s : Nat} {a : List Stp}, Goes m s a → Goes n s a
  | _, [], _ => trivial
  | _, _ :: _, h => ⟨h.1, Nat.le_trans h.2.1 hmn, goes_mono hmn h.2.2⟩
theorem goes_sz {most : Nat} : ∀ {s : Nat} {a : List Stp}, Goes most s a → a ≠ [] → s + sz a ≤ most
  | s, [], _, h => absurd rfl h
  | s, [x], h, _ => by rw [sz_cons]; simpa [sz] using h.2.1
  | s, x :: y :: r, h, _ => by
    have := goes_sz h.2.2 (by simp)
    rw [sz_cons]
    omega
theorem ks_le {s : Nat} {x : Stp} (h : x.ok s = true) : x.ks ≤ 20 := by
  cases x with
  | wr w => simp [Stp.ok] at h; exact h.1.2
  | pa f l t => exact Nat.zero_le _
theorem nk_le {most : Nat} : ∀ {s : Nat} {a : List Stp}, Goes most s a → nk a ≤ 20 * a.length
  | _, [], _ => by simp [nk]
  | s, x :: r, h => by
    have h1 := ks_le h.1
    have h2 := nk_le h.2.2
    simp only [nk, List.map_cons, List.sum_cons, List.length_cons] at h2 ⊢
    omega
theorem take_succ {α : Type} {l : List α} {i : Nat} {x : α} (e : l[i]? = some x) : l.take (i + 1) = l.take i ++ [x] := by
  rw [List.take_add_one, e]
  rfl
/-! ### the keys of all places -/
def exF (E : List Nat) (n : Nat) : List Stp → List Nat
  | [] => E
  | .wr w :: r => exF (E ++ List.range' n w.length) (n + w.length) r
  | .pa f l t :: r => exF (E ++ (List.replicate t ((E.drop f).take (l + 1 - f))).flatten) n r
def ex (st : List Stp) : List Nat := exF [] 0 st
/-- one more step -/
def ex1 (E : List Nat) (n : Nat) : Stp → List Nat
  | .wr w => E ++ List.range' n w.length
  | .pa f l t => E ++ (List.replicate t ((E.drop f).take (l + 1 - f))).flatten
theorem exF_app : ∀ (E : List Nat) (n : Nat) (a b : List Stp), exF E n (a ++ b) = exF (exF E n a) (n + nk a) b
  | E, n, [], b => by simp [exF, nk]
  | E, n, .wr w :: a, b => by
    show exF _ _ (a ++ b) = _
    rw [exF_app _ _ a b]
    simp [exF, nk, Stp.ks, Nat.add_assoc]
  | E, n, .pa f l t :: a, b => by
    show exF _ _ (a ++ b) = _
    rw [exF_app _ _ a b]
    simp [exF, nk, Stp.ks]
theorem ex_snoc (st : List Stp) (x : Stp) : ex (st ++ [x]) = ex1 (ex st) (nk st) x := by
  unfold ex
  rw [exF_app, Nat.zero_add]
  cases x <;> rfl
theorem ex1_pre (E : List Nat) (n : Nat) (x : Stp) : ∃ F, ex1 E n x = E ++ F := by
  cases x <;> exact ⟨_, rfl⟩
theorem ex1_len {E : List Nat} {n : Nat} {x : Stp} (h : x.ok E.length = true) : (ex1 E n x).length = E.length + x.gr := by
  cases x with
  | wr w => simp [ex1, Stp.gr]
  | pa f l t =>
    simp [Stp.ok] at h
    have e : min (l + 1 - f) (E.length - f) = l + 1 - f := by omega
    simp [ex1, Stp.gr, e, Nat.mul_comm]
theorem ex_len {most : Nat} (st : List Stp) (h : Goes most 0 st) : (ex st).length = sz st := by
  have key : ∀ k, k ≤ st.length → (ex (st.take k)).length = sz (st.take k) := by
    intro k
    induction k with
    | zero => intro _; rfl
    | succ k ih =>
      intro hk
      have e : st[k]? = some (st[k]'(by omega)) := List.getElem?_eq_getElem (by omega)
      have ih := ih (by omega)
      obtain ⟨o, _⟩ := goes_at h e
      rw [take_succ e, ex_snoc, sz_app, ex1_len (by rw [ih]; exact o), ih, sz_cons]
      simp [sz]
  have := key st.length (Nat.le_refl _)
  rwa [List.take_length] at this
theorem goes_take {most : Nat} {st : List Stp} (h : Goes most 0 st) (k : Nat) : Goes most 0 (st.take k) := by
  rw [← List.take_append_drop k st] at h
  exact (goes_app.mp h).1
theorem exF_pre : ∀ (E : List Nat) (n : Nat) (b : List Stp), ∃ F, exF E n b = E ++ F
  | E, n, [] => ⟨[], by simp [exF]⟩
  | E, n, .wr w :: r => by
    obtain ⟨F, h⟩ := exF_pre (E ++ List.range' n w.length) (n + w.length) r
    exact ⟨_, by show exF _ _ r = _; rw [h, List.append_assoc]⟩
  | E, n, .pa f l t :: r => by
    obtain ⟨F, h⟩ := exF_pre (E ++ (List.replicate t ((E.drop f).take (l + 1 - f))).flatten) n r
    exact ⟨_, by show exF _ _ r = _; rw [h, List.append_assoc]⟩
/-- the keys ahead of a step stay -/
theorem ex_pre (a b : List Stp) : ∃ F, ex (a ++ b) = ex a ++ F := by
  unfold ex
  rw [exF_app]
  exact exF_pre _ _ b
theorem ex_at_pre {most : Nat} {st : List Stp} {k p : Nat} (h : Goes most 0 st) (hp : p < sz (st.take k)) : (ex st)[p]? = (ex (st.take k))[p]? := by
  obtain ⟨F, e⟩ := ex_pre (st.take k) (st.drop k)
  rw [List.take_append_drop] at e
  rw [e, List.getElem?_append_left (by rw [ex_len _ (goes_take h k)]; exact hp)]
/-- a place that was written -/
theorem ex_wr {most : Nat} {st : List Stp} {k p : Nat} {w : List Nat} (h : Goes most 0 st) (e : st[k]? = some (.wr w)) (h1 : sz (st.take k) ≤ p) (h2 : p < sz (st.take (k + 1))) : (ex st)[p]? = some (nk (st.take k) + (p - sz (st.take k))) := by
  rw [ex_at_pre h h2, take_succ e, ex_snoc]
  have hl := ex_len _ (goes_take h k)
  rw [take_succ e, sz_app, sz_cons] at h2
  simp [sz, Stp.gr] at h2
  have h3 : p - sz (st.take k) < w.length := by simp [sz]; simp [sz] at h1; omega
  show (ex (st.take k) ++ List.range' (nk (st.take k)) w.length)[p]? = _
  rw [List.getElem?_append_right (by rw [hl]; exact h1), hl, List.getElem?_range' h3]
  simp
theorem rep_at (seg : List Nat) : ∀ (t j : Nat), j < seg.length * t → (List.replicate t seg).flatten[j]? = seg[j % seg.length]?
  | 0, j, h => by simp at h
  | t + 1, j, h => by
    rw [List.replicate_succ, List.flatten_cons]
    by_cases hj : j < seg.length
    · rw [List.getElem?_append_left hj, Nat.mod_eq_of_lt hj]
    · have hj' : seg.length ≤ j := by omega
      have hm : j % seg.length = (j - seg.length) % seg.length := Nat.mod_eq_sub_mod hj'
      rw [List.getElem?_append_right hj', hm]
      exact rep_at seg t (j - seg.length) (by rw [Nat.mul_succ] at h; omega)
/-- a place that was pasted -/
theorem ex_pa {most : Nat} {st : List Stp} {k p f l t : Nat} (h : Goes most 0 st) (e : st[k]? = some (.pa f l t)) (h1 : sz (st.take k) ≤ p) (h2 : p < sz (st.take (k + 1))) :
    (ex st)[p]? = (ex st)[f + (p - sz (st.take k)) % (l + 1 - f)]? ∧ f + (p - sz (st.take k)) % (l + 1 - f) < sz (st.take k) := by
  obtain ⟨o, _⟩ := goes_at h e
  simp [Stp.ok] at o
  have hl := ex_len _ (goes_take h k)
  have hm : (p - sz (st.take k)) % (l + 1 - f) < l + 1 - f := Nat.mod_lt _ (by omega)
  have hlt : f + (p - sz (st.take k)) % (l + 1 - f) < sz (st.take k) := by omega
  refine ⟨?_, hlt⟩
  rw [ex_at_pre h h2, ex_at_pre (k := k) h hlt, take_succ e, ex_snoc]
  rw [take_succ e, sz_app, sz_cons] at h2
  have hz : sz ([] : List Stp) = 0 := rfl
  rw [hz, Nat.add_zero] at h2
  have hgr : (Stp.pa f l t).gr = (l + 1 - f) * t := rfl
  rw [hgr] at h2
  have hseg : (((ex (st.take k)).drop f).take (l + 1 - f)).length = l + 1 - f := by
    rw [List.length_take, List.length_drop, hl]
    omega
  show (ex (st.take k) ++ (List.replicate t (((ex (st.take k)).drop f).take (l + 1 - f))).flatten)[p]? = _
  rw [List.getElem?_append_right (by rw [hl]; exact h1), hl, rep_at _ _ _ (by rw [hseg]; omega), hseg, List.getElem?_take_of_lt hm, List.getElem?_drop]
end Pk
/-! ## Texts in the heap -/
namespace Pk
open PySem PySem.Spec PyProof.Rows L2
abbrev Fr := PySem.W.Frag
theorem same_sqT {K : Fr} {H H2 : Hp} {a : Addr} {xs : List V} (e : Same H H2) (h : SqT K H a xs) : SqT K H2 a xs := by
  rcases h with (h | ⟨o, h⟩) | h
  · exact .inl (.inl (e _ _ h))
  · exact .inl (.inr ⟨o, e _ _ h⟩)
  · exact .inr h
theorem same_upd {H : Hp} {p : Addr} {o : HO} (h : H p = none) : Same H (upd H p o) := fun b u e => by
  rw [upd_ne (ne_of_none e h)]
  exact e
/-- all but the object at r stands -/
def But (r : Addr) (H H2 : Hp) : Prop := ∀ b o, b ≠ r → H b = some o → H2 b = some o
theorem But.refl (r : Addr) (H : Hp) : But r H H := fun _ _ _ h => h
theorem But.trans {r : Addr} {H H1 H2 : Hp} (a : But r H H1) (b : But r H1 H2) : But r H H2 := fun c o n h => b c o n (a c o n h)
theorem Same.but {r : Addr} {H H1 : Hp} (a : Same H H1) : But r H H1 := fun c o _ h => a c o h
/-- the values of a step -/
def stV : Stp → List V
  | .wr w => [.str "write", .str (sL w)]
  | .pa f l t => [.str "paste", .int f, .int l, .int t]
structure StepsAt (K : Fr) (H : Hp) (as : List Addr) (st : List Stp) : Prop where
  len : as.length = st.length
  at_ : ∀ (i : Nat) (x : Stp), st[i]? = some x → ∃ a, as[i]? = some a ∧ SqT K H a (stV x)
theorem StepsAt.same {K : Fr} {H H2 : Hp} {as : List Addr} {st : List Stp} (h : StepsAt K H as st) (e : Same H H2) : StepsAt K H2 as st :=
  ⟨h.len, fun i x hx => let ⟨a, h1, h2⟩ := h.at_ i x hx; ⟨a, h1, same_sqT e h2⟩⟩
theorem StepsAt.nil {K : Fr} {H : Hp} : StepsAt K H [] [] := ⟨rfl, fun i x h => by simp at h⟩
theorem StepsAt.snoc {K : Fr} {H : Hp} {as : List Addr} {st : List Stp} {a : Addr} {x : Stp} (h : StepsAt K H as st) (ha : SqT K H a (stV x)) : StepsAt K H (as ++ [a]) (st ++ [x]) := by
  refine ⟨by simp [h.len], fun i y hy => ?_⟩
  by_cases hi : i < st.length
  · rw [List.getElem?_append_left hi] at hy
    obtain ⟨b, h1, h2⟩ := h.at_ i y hy
    exact ⟨b, by rw [List.getElem?_append_left (by rw [h.len]; exact hi)]; exact h1, h2⟩
  · rw [List.getElem?_append_right (by omega)] at hy
    have hi0 : i - st.length = 0 := by
      have := (List.getElem?_eq_some_iff.mp hy).1
      simp at this
      omega
    rw [hi0] at hy
    have e : x = y := by simpa using hy
    subst e
    exact ⟨a, by rw [List.getElem?_append_right (by rw [h.len]; omega), h.len, hi0]; rfl, ha⟩
/-- the fields of a span: where it begins, the keys ahead of it -/
def spF (x : Stp) (s n : Nat) : List (Str × V) := match x with
  | .wr w => [("begin", .int s), ("end", .int (s + w.length : Nat)), ("key", .int n), ("source", .int 0), ("width", .int 0)]
  | .pa f l t => [("begin", .int s), ("end", .int (s + (l + 1 - f) * t : Nat)), ("key", .non), ("source", .int f), ("width", .int (l + 1 - f : Nat))]
structure SpansAt (CS : Addr) (H : Hp) (ss : List Addr) (st : List Stp) : Prop where
  len : ss.length = st.length
  at_ : ∀ (i : Nat) (x : Stp), st[i]? = some x → ∃ a dx, ss[i]? = some a ∧ H a = some (.ins CS dx (spF x (sz (st.take i)) (nk (st.take i))))
theorem SpansAt.same {CS : Addr} {H H2 : Hp} {ss : List Addr} {st : List Stp} (h : SpansAt CS H ss st) (e : Same H H2) : SpansAt CS H2 ss st :=
  ⟨h.len, fun i x hx => let ⟨a, dx, h1, h2⟩ := h.at_ i x hx; ⟨a, dx, h1, e _ _ h2⟩⟩
theorem SpansAt.nil {CS : Addr} {H : Hp} : SpansAt CS H [] [] := ⟨rfl, fun i x h => by simp at h⟩
theorem SpansAt.snoc {CS : Addr} {H : Hp} {ss : List Addr} {st : List Stp} {a dx : Addr} {x : Stp} (h : SpansAt CS H ss st) (ha : H a = some (.ins CS dx (spF x (sz st) (nk st)))) : SpansAt CS H (ss ++ [a]) (st ++ [x]) := by
  refine ⟨by simp [h.len], fun i y hy => ?_⟩
  by_cases hi : i < st.length
  · rw [List.getElem?_append_left hi] at hy
    obtain ⟨b, d, h1, h2⟩ := h.at_ i y hy
    refine ⟨b, d, by rw [List.getElem?_append_left (by rw [h.len]; exact hi)]; exact h1, ?_⟩
    rw [List.take_append_of_le_length (by omega)]
    exact h2
  · rw [List.getElem?_append_right (by omega)] at hy
    have hi0 : i - st.length = 0 := by
      have := (List.getElem?_eq_some_iff.mp hy).1
      simp at this
      omega
    rw [hi0] at hy
    have e : x = y := by simpa using hy
    subst e
    have hi1 : i = st.length := by omega
    refine ⟨a, dx, by rw [List.getElem?_append_right (by rw [h.len]; omega), h.len, hi0]; rfl, ?_⟩
    rw [hi1, List.take_left]
    exact ha
/-- the fields of a text -/
def txF (ts sp : Addr) (st : List Stp) : List (Str × V) := [("_steps", .ref ts), ("spans", .ref sp), ("_size", .int (sz st)), ("_typed", .str (sL (typed st)))]
def most : Nat := 1000000000000000000
/-- the text of the steps st stands at x -/
structure TextAt (K : Fr) (CT CS : Addr) (H : Hp) (x : Addr) (st : List Stp) : Prop where
  good : Goes most 0 st
  few : st.length ≤ 30
  obj : ∃ dx ts sp as ss, H x = some (.ins CT dx (txF ts sp st)) ∧ SqT K H ts (as.map V.ref) ∧ StepsAt K H as st ∧ SqT K H sp (ss.map V.ref) ∧ SpansAt CS H ss st
theorem TextAt.same {K : Fr} {CT CS : Addr} {H H2 : Hp} {x : Addr} {st : List Stp} (h : TextAt K CT CS H x st) (e : Same H H2) : TextAt K CT CS H2 x st := by
  obtain ⟨dx, ts, sp, as, ss, h1, h2, h3, h4, h5⟩ := h.obj
  exact ⟨h.good, h.few, dx, ts, sp, as, ss, e _ _ h1, same_sqT e h2, h3.same e, same_sqT e h4, h5.same e⟩
theorem sz_most {st : List Stp} (h : Goes most 0 st) : sz st ≤ most := by
  cases st with
  | nil => exact Nat.zero_le _
  | cons x r =>
    have := goes_sz h (by simp)
    rwa [Nat.zero_add] at this
end Pk
/-! ## Comprehensions that change nothing; walks -/
namespace Pk
open PySem PySem.Spec PyProof.Rows L2
theorem walk_enumT {K : Fr} {a : Addr} {xs : List V} : Walk (IteT K a) xs.length (fun H => SqT K H a xs) (YPair (fun i => some (.int (i : Nat))) (fun i => xs[i]?)) := by
  refine ⟨fun i _ hi q => ⟨xs, xs[i], q, by simp [hi]⟩, fun _ q => ⟨xs, q, Nat.le_refl _⟩, fun i H v H2 _ q y => ?_⟩
  obtain ⟨T, x, h1, h2, h3, h4⟩ := y
  exact ⟨T, .int (i : Nat), x, h1, h2, h3, rfl, h4 xs q⟩
/-! ### rules told of K by name: for a comprehension's block -/
section
variable {X : Cx}
theorem ixT (K : Fr) (h : X.K = K := by rfl) : IxR X (rIxT K) := h ▸ ix_tup
theorem ixL (K : Fr) (h : X.K = K := by rfl) : IxR X (rIxL K) := h ▸ ix_list
theorem slL (K : Fr) (h : X.K = K := by rfl) : SlR X (rSlL K) := h ▸ sl_list
theorem slT (K : Fr) (h : X.K = K := by rfl) : SlR X (rSlT K) := h ▸ sl_tup
theorem lenQ (K : Fr) (h : X.K = K := by rfl) : CallR X (.builtin "len") (fun xs H Q => ∃ p ys, xs = [.ref p] ∧ (SqL K H p ys ∨ SqT K H p ys) ∧ Q (.int ys.length) H) := h ▸ call_len_seq
theorem fldK (K : Fr) {e : Expr} {f : Str} {ta : TE} {pos : Pos} (ha : PE X e ta) (hb : attributeBase e f X.env (eval e X.env) = eval e X.env := by rfl) (h : X.K = K := by rfl) : PE X (.Attribute e f pos) (tFld K ta f) := by
  subst h
  exact pe_fld ha hb
end
section
variable {J : It} {n : Nat} {G : Hp → Prop} {Y : Nat → Hp → V → Hp → Prop} {g : TG} {te : TE} {tt : TT} {vs : List Nat} {σ : L2.St} {H1 : Hp} {D : Addr} {Qd : Hp → Prop}
/-- the values that a comprehension keeps -/
def keeps (n : Nat) (f : Nat → Bool) (v : Nat → V) : List V := ((List.range n).filter f).map v
theorem keeps_succ (n : Nat) (f : Nat → Bool) (v : Nat → V) : keeps (n + 1) f v = if f n = true then keeps n f v ++ [v n] else keeps n f v := by
  unfold keeps
  rw [List.range_succ, List.filter_append]
  by_cases h : f n = true
  · simp [h]
  · simp [h]
theorem keeps_le (n : Nat) (f : Nat → Bool) (v : Nat → V) : (keeps n f v).length ≤ n := by
  unfold keeps
  rw [List.length_map]
  exact Nat.le_trans (List.length_filter_le _ _) (by simp)
/-- with a test -/
theorem lc_keep (wk : Walk J n G Y) (hD : H1 D = none) (f : Nat → Bool) (v : Nat → V) (hn : n ≤ sizeLine) (hG : ∀ H, Same H1 H → G H)
    (hs : ∀ i x H H2 (N : VK) (N0 : Hp → Prop), i < n → Same H1 H → Y i H x H2 → (f i = true → ∀ H5, Same H H5 → N (v i) H5) → (f i = false → ∀ H5, Same H H5 → N0 H5) →
      g x (wipe σ vs) H2 fun σ2 H3 => wipe σ2 vs = wipe σ vs ∧ tt σ2 H3 fun b H4 => if b = true then te σ2 H4 N else N0 H4)
    (hd : ∀ H, Same H1 H → H D = some (.lst (keeps n f v)) → Qd H) :
    ∃ W : Nat → Nat → Hp → Prop, (∃ m, W 0 m (upd H1 D (.lst []))) ∧ ∀ i m H, W i m H →
      (J.stop i H ∧ Qd H) ∨ (J.go i H ∧ ∃ Nx : Hp → Prop, (∀ H', Nx H' → ∃ m', m' < m ∧ W (i + 1) m' H') ∧ ∀ x H', J.yld i H x H' → g x (wipe σ vs) H' fun σ2 H2 => wipe σ2 vs = wipe σ vs ∧ tt σ2 H2 fun b H3 =>
        if b = true then te σ2 H3 fun y H4 => ∃ acc, H4 D = some (.lst acc) ∧ acc.length < sizeLine ∧ Nx (upd H4 D (.lst (acc ++ [y]))) else Nx H3) := by
  refine lc_it wk (fun i H => Same H1 H ∧ H D = some (.lst (keeps i f v))) ⟨same_upd hD, upd_same⟩ (fun i H _ p => hG H p.1) ?_ fun H p => hd H p.1 p.2
  intro i x H H2 hi p y
  obtain ⟨p1, p2⟩ := p
  refine hs i x H H2 _ _ hi p1 y (fun hb H5 s5 => ?_) fun hb H5 s5 => ?_
  · refine ⟨_, s5 _ _ p2, Nat.lt_of_le_of_lt (keeps_le i f v) (by omega), fun b o e => ?_, ?_⟩
    · by_cases hbD : b = D
      · rw [hbD, hD] at e
        cases e
      · rw [upd_ne hbD]
        exact s5 _ _ (p1 _ _ e)
    · rw [upd_same, keeps_succ, if_pos hb]
  · refine ⟨p1.trans s5, ?_⟩
    rw [s5 _ _ p2, keeps_succ, hb]
    rfl
/-- without a test -/
theorem lc_map (wk : Walk J n G Y) (hD : H1 D = none) (v : Nat → V) (hn : n ≤ sizeLine) (hG : ∀ H, Same H1 H → G H)
    (hs : ∀ i x H H2 (N : VK), i < n → Same H1 H → Y i H x H2 → (∀ H5, Same H H5 → N (v i) H5) → g x (wipe σ vs) H2 fun σ2 H3 => wipe σ2 vs = wipe σ vs ∧ te σ2 H3 N)
    (hd : ∀ H, Same H1 H → H D = some (.lst ((List.range n).map v)) → Qd H) :
    ∃ W : Nat → Nat → Hp → Prop, (∃ m, W 0 m (upd H1 D (.lst []))) ∧ ∀ i m H, W i m H →
      (J.stop i H ∧ Qd H) ∨ (J.go i H ∧ ∃ Nx : Hp → Prop, (∀ H', Nx H' → ∃ m', m' < m ∧ W (i + 1) m' H') ∧ ∀ x H', J.yld i H x H' → g x (wipe σ vs) H' fun σ2 H2 => wipe σ2 vs = wipe σ vs ∧ tYes σ2 H2 fun b H3 =>
        if b = true then te σ2 H3 fun y H4 => ∃ acc, H4 D = some (.lst acc) ∧ acc.length < sizeLine ∧ Nx (upd H4 D (.lst (acc ++ [y]))) else Nx H3) := by
  refine lc_it wk (fun i H => Same H1 H ∧ H D = some (.lst ((List.range i).map v))) ⟨same_upd hD, upd_same⟩ (fun i H _ p => hG H p.1) ?_ fun H p => hd H p.1 p.2
  intro i x H H2 hi p y
  obtain ⟨p1, p2⟩ := p
  refine hs i x H H2 (fun y H4 => ∃ acc, H4 D = some (.lst acc) ∧ acc.length < sizeLine ∧ _) hi p1 y fun H5 s5 => ?_
  refine ⟨_, s5 _ _ p2, by rw [List.length_map, List.length_range]; omega, fun b o e => ?_, ?_⟩
  · by_cases hbD : b = D
    · rw [hbD, hD] at e
      cases e
    · rw [upd_ne hbD]
      exact s5 _ _ (p1 _ _ e)
  · rw [upd_same, List.range_succ, List.map_append]
    rfl
end
end Pk
namespace Pk
open PySem PySem.Spec PyProof.Rows L2
def tCO (C : Addr) (sp : Sp) (tf : TE) (t : TA) : TE := fun σ H Q => tf σ H fun y H1 => ∃ a, y = V.ref a ∧ t σ H1 fun vs H2 => (∃ dx fs, H2 a = some (.ins C dx fs)) ∧ sp (V.ref a :: vs) H2 Q E0
theorem pk_callO {X : Cx} {k : Nat} {C g : Addr} {sp : Sp} {fe e : Expr} {es : List Expr} {tf : TE} {t : TA} {pos : Pos} (hf : PE X fe tf) (c : StX.CallO X.K C g) (G : Kp X.prog X.w X.K X.mg X.base k g sp) (hr : Room k X.A) (ha : PA X (e :: es) t)
    (ht : eval (.Call fe (e :: es) [] pos) X.env = (do callWith pos (← eval fe X.env) [] (backTo pos (starEach (e :: es) X.env)) (backToKw pos (keywordEach [] X.env))) := by rfl)
    (he : starEach (e :: es) X.env = (false, eval e X.env) :: starEach es X.env := by rfl) (hpl : (backTo pos (starEach es X.env)).any (·.1) = false := by rfl) : PE X (.Call fe (e :: es) [] pos) (tCO C sp tf t) := ⟨fun pins s σ H Q I h => by
  refine Call_ (thn (hf.run pins s σ H _ I h) fun u s1 k1 => ?_) ht
  obtain ⟨y, H1, I1, ry, a, ey, q⟩ := k1
  subst ey
  obtain rfl : u = Value.ref a := ry
  refine StX.callO_with (thn (ha.run pos pins s1 σ H1 _ I1 q) fun us s2 k2 => ?_) he hpl
  obtain ⟨vs, H2, I2, r, hi, q2⟩ := k2
  obtain ⟨ox, od, J, hd⟩ := StX.insC_at I2 (.inr hi)
  exact ⟨⟨C, ox, od, J, hd⟩, StX.run_callO c G.fnR hr pass0 I2 (.inr hi) r q2⟩⟩
theorem vals_idx : ∀ (xs : List V) (us : List Value), xs.length = us.length → (∀ (j : Nat) x u, xs[j]? = some x → us[j]? = some u → RelV x u) → Vals xs us
  | [], [], _, _ => .nil
  | [], _ :: _, h, _ => by cases h
  | _ :: _, [], h, _ => by cases h
  | x :: xs, u :: us, h, k => .cons (k 0 x u rfl rfl) (vals_idx xs us (by simpa using h) fun j y v hy hv => k (j + 1) y v hy hv)
/-- list(s), s a text -/
def rListS : List V → Hp → VK → Prop := fun xs H Q => ∃ z : Str, xs = [.str z] ∧ z.length ≤ sizeLine ∧ ∀ l, H l = none → Q (.ref l) (upd H l (.lst (z.cps.toList.map fun c => V.str ⟨#[c]⟩)))
theorem call_listS {X : Cx} (hc : X.calm = true) : CallR X (.type "list") rListS := by
  intro pins s σ H xs us Q I r h
  obtain ⟨z, rfl, hz, q⟩ := h
  obtain ⟨u, rfl, t, rfl⟩ := vals1 r
  refine call_list_str (I.ok.hd hc) z t (fun h1 tk acc c1 hk e hi => ?_) (by rw [sizeLine_eq] at *; exact hz)
  refine ⟨.ref s.heap.objs.size, upd H s.heap.objs.size (.lst (z.cps.toList.map fun c => V.str ⟨#[c]⟩)), I.laid hk (Nat.le_refl _) (show ObjOk X.prog X.w _ _ _ (.lst _) from ⟨?_, acc.toList, c1, ?_, ?_⟩), rfl, q _ (I.hok.fresh (Nat.le_refl _))⟩
  · rw [List.length_map]
    exact hz
  · obtain ⟨h1, h2⟩ := hi
    refine vals_idx _ _ (by simp [h1]) fun j x u hx hu => ?_
    obtain ⟨c, t2, hc2, rfl⟩ := h2 j u (by rw [← hu, Array.getElem?_toList])
    rw [List.getElem?_map, Array.getElem?_toList, hc2] at hx
    cases hx
    exact ⟨t2, rfl⟩
  · rw [Array.toArray_toList]
    exact e
end Pk
namespace Pk
open PySem PySem.W PySem.Calls PyProof.Rows He He5
/-- what isinstance of the class itself asks, beyond its class facts -/
def insB (K : Frag) (C : Addr) : Bool := eqO (findIn K (.ref C) "__class__") (some (some (.builtin "object.__class__"))) && (eqO (specialIn K (.builtin "object.__class__") "__get__") (some (some (.builtin "getset_descriptor.__get__"))) &&
  (decide (takesIn K (.builtin "object.__class__") = some true) && (decide (mroIn K C (.type "object") = some true) && decide (kitOne K (.ref C) (.ref C) = some true))))
theorem ins_ok {K : Frag} {C : Addr} (c : L2.Cls K C) (h : insB K C = true) : C8.InsC K C := by
  obtain ⟨h1, h⟩ := ba h
  obtain ⟨h2, h⟩ := ba h
  obtain ⟨h3, h⟩ := ba h
  obtain ⟨h4, h5⟩ := ba h
  exact ⟨c, eqO_ok h1, eqO_ok h2, of_decide_eq_true h3, of_decide_eq_true h4, of_decide_eq_true h5⟩
end Pk
namespace Pk
open PySem PySem.W PySem.Calls PyProof.Rows He He5
/-- isinstance of the class: of a tuple it says no -/
def insTB (K : Frag) (C : Addr) : Bool := decide (kitOne K (.type "tuple") (.ref C) = some false)
end Pk
/-! ## a[i], x in a, a == b, a != b of an own class -/
namespace Pk
open PySem PySem.Spec PyProof.Rows L2
section
variable {X : Cx} {CX : CXT} {k : Nat} {C f : Addr} {sp : Sp} {E : XK}
theorem pe_getO {a b : Expr} {ta tb : TE} {pos : Pos} (hs : OpF X.K C "__getitem__" f) (F : FnR X.prog X.w X.K X.mg X.base CX k f sp) (hr : Room (k + 1) X.A) (hx : Passes CX X E) (ha : PE X a ta) (hb : PE X b tb)
    (hsl : ∀ o i, subscripted b true o i = runValue (.builtin "lifetime.subscript" ⟨[o, i], []⟩) := by intro _ _; rfl) : PE X (.Subscript a b pos) (tOp (rGetO C sp E) ta tb) := ⟨fun pins s σ H Q I h => by
  refine Subscript_ (binT ha hb I h fun v u s2 x y H2 I2 rx ry q => ?_)
  obtain ⟨a0, da, fa, ex, hA, q⟩ := q
  subst ex
  cases rx
  obtain ⟨mA, O, _⟩ := ins_get I2.hok hA
  obtain ⟨oa, JA, _⟩ := O.look
  obtain ⟨m, hF⟩ := I2.fr
  exact PySem.W.sub_K hF I2.ok.mod.kin JA hs.at_ hs.fi hs.fn (wpAny_call (codeAny_mono (SlX.run_at (us := [.ref a0, u]) (ws := [V.ref a0, y]) F hr.in1 I2.env0.in1 hx I2 (.cons rfl (.cons ry .nil)) q) fun r s3 hq => by
    cases r with
    | error e => exact hq
    | ok fl => cases fl with
      | ret w => exact hq
      | _ => exact hq.elim)) (hsl _ _)⟩
theorem op_inO (hs : OpF X.K C "__contains__" f) (F : FnR X.prog X.w X.K X.mg X.base CX k f sp) (hr : Room k X.A) (hx : Passes CX X E) : OpR X (compareOp .In) (rInO C sp E) := by
  intro pins s σ H x y v u Q I rx ry ⟨a, da, fa, ey, hA, q⟩
  subst ey
  cases ry
  obtain ⟨mA, O, _⟩ := ins_get I.hok hA
  obtain ⟨oa, JA, _⟩ := O.look
  obtain ⟨m, hF⟩ := I.fr
  refine PySem.W.in_K hF I.ok.mod.kin JA hs.at_ hs.fn (wpAny_call (codeAny_mono (run_fnR (us := [.ref a, v]) (vs := [V.ref a, x]) F hr hx I (.cons rfl (.cons rx .nil)) q) fun r s3 hq => ?_))
  cases r with
  | error e => exact hq
  | ok fl => cases fl with
    | ret w =>
      obtain ⟨z, H3, I3, rz, b, eb, q3⟩ := hq
      subst eb
      cases rz
      exact wpAny_truthy_bool ⟨.bl b, H3, I3, rfl, q3⟩
    | _ => exact hq.elim
/-- a == y: y of the class too, or a tuple -/
def rEqO (K : PySem.W.Frag) (C : Addr) (sp : Sp) (E : XK) : R2 := fun x y H Q => ∃ a da fa, x = .ref a ∧ H a = some (.ins C da fa) ∧ ((∃ b db fb, y = .ref b ∧ H b = some (.ins C db fb)) ∨ ∃ t xs, y = .ref t ∧ SqT K H t xs ∧ PySem.W.subIn K (.type "tuple") (.ref C) = some false) ∧ sp [x, y] H Q E
theorem looks_ty {h : Heap} {M : Model} {b : Addr} {o : Obj} {t : Value} (e : h.get? b = some o) (c : o.cls = t) : PySem.W.Looks M h (typeOf (.ref b)) t := fun A Q E s k q => wpAny_typeOf_ref (k _ _ e) (by rw [c]; exact q)
theorem op_eqO (hs : OpF X.K C "__eq__" f) (F : FnR X.prog X.w X.K X.mg X.base CX k f sp) (hr : Room k X.A) (hx : Passes CX X E) : OpR X (compareOp .Eq) (rEqO X.K C sp E) := by
  intro pins s σ H x y v u Q I rx ry ⟨a, da, fa, ex, hA, hy, q⟩
  subst ex
  cases rx
  obtain ⟨mA, O, _⟩ := ins_get I.hok hA
  obtain ⟨oa, JA, _⟩ := O.look
  obtain ⟨m, hF⟩ := I.fr
  have hu : X.A.units < cLine := by have := hr.units; omega
  have run : wpAny (model X.prog X.w) X.A (call (.ref f) [.ref a, u]) (PySem.W.CmpBack (EP X pins σ Q)) X.xe s := wpAny_call (codeAny_mono (run_fnR (us := [.ref a, u]) (vs := [V.ref a, y]) F hr hx I (.cons rfl (.cons ry .nil)) q) fun r s3 hq => by
    cases r with
    | error e => exact hq
    | ok fl => cases fl with
      | ret w => exact cmp_back hq
      | _ => exact hq.elim)
  show wpAny _ _ (richCompare .Eq (.ref a) u) _ _ _
  rcases hy with ⟨b, db, fb, ey, hB⟩ | ⟨t, xs, ey, hT, hsub⟩
  · subst ey
    cases ry
    obtain ⟨mB, O2, _⟩ := ins_get I.hok hB
    obtain ⟨ob, JB, _⟩ := O2.look
    exact PySem.W.cmp_K (op := .Eq) hu hF I.ok.mod.kin JA JB.type (by unfold PySem.W.notFirst; simp) hs.at_ hs.fn run
  · subst ey
    cases ry
    obtain ⟨its, rv, ⟨o, ho, hc, _⟩, _⟩ := I.tuple hT
    exact PySem.W.cmp_K (op := .Eq) hu hF I.ok.mod.kin JA (looks_ty ho hc) (by unfold PySem.W.notFirst; rw [hsub]; simp) hs.at_ hs.fn run
end
end Pk
/-! ## a != b: the class has __eq__ alone -/
namespace Pk
open PySem PySem.Spec PyProof.Rows L2
/-- a built-in slot, asked for if it is bound -/
theorem bound_b {M : Model} {A : Around} {E : Value → Shared → Prop} {s : Shared} {me : Value} {nm : PySem.Str} {id : String} {rest : List Value} {Q : Option Value → Shared → Prop} (sp : PySem.W.Looks M s.heap (specialOf me nm) (some (.builtin id)))
    (hb : bindSpecial (.builtin id) me = pure (.builtin id, [me])) (hc : wpAny M A (call (.builtin id) (me :: rest)) (fun v => Q (some v)) E s) : wpAny M A (callSpecialIfBound? me nm rest) Q E s := by
  simp only [callSpecialIfBound?, bindSpecialIfBound?]
  refine wpAny_holding (wpAny_bind (wpAny_bind (sp.here ?_)))
  simp only [hb]
  refine wpAny_bind (wpAny_askSetting (wpAny_ite ?_))
  have fin : wpAny M A (call (.builtin id) ([me] ++ rest) >>= fun v => pure (some v)) Q E s := wpAny_bind (wpAny_mono hc (fun v s2 z => wpAny_pure z) fun _ _ z => z)
  split
  · exact wpAny_bind (wpAny_pure (wpAny_pure fin))
  · exact wpAny_tryCatch (wpAny_bind (wpAny_pure (wpAny_pure fin)))
section
variable {prog : Program} {w : World} {A : Around} {E : Value → Shared → Prop} {s : Shared} {K : PySem.W.Frag} {x y C f : Addr} {ox oy : Obj} {od od2 : Option Obj} {h0 : Heap} {L : Addr}
theorem ne_entry {Q : PySem.Fin → Shared → Prop} (X : K.In s.heap) (J : PySem.W.InstAt s.heap x ox C od) (hs : OpF K C "__eq__" f) (hu : A.units < cLine)
    (hc : wpAny (model prog w) A (call (.ref f) [.ref x, .ref y]) (fun v s2 => ∃ b, v = .bool b ∧ Q (.done (.ret (.bool (!b)))) s2) E s) : wpAny (model prog w) A (Builtin.«object.__ne__» ⟨[.ref x, .ref y], []⟩) Q E s := by
  obtain ⟨hp, g, d, tk, os⟩ := s
  unfold Builtin.«object.__ne__»
  repeat (first
    | with_reducible refine wpAny_cRoomFor hu ?_
    | (refine wpAny_bind (m := callSpecialIfBound? (.ref x) (Str.ofString "__eq__") [.ref y])
        (PySem.W.ifBound_K X J hs.at_ hs.fn (wpAny_mono hc (fun r s2 z => by
          obtain ⟨b, rfl, q⟩ := z
          repeat (first | exact q | exact wpAny_pure q | exact wpAny_truthy_bool q | (refine wpAny_bind (m := truthy (.bool _)) (wpAny_truthy_bool ?_)) | wp_step)) fun _ _ z => z)))
    | wp_step)
end
/-- a != b, both of the class -/
def rNeO (C : Addr) (sp : Sp) (E : XK) : R2 := fun x y H Q => ∃ a b da fa db fb, x = .ref a ∧ y = .ref b ∧ H a = some (.ins C da fa) ∧ H b = some (.ins C db fb) ∧ sp [x, y] H (fun v H2 => ∃ r, v = .bl r ∧ Q (.bl (!r)) H2) E
section
variable {X : Cx} {CX : CXT} {k : Nat} {C f : Addr} {sp : Sp} {E : XK}
theorem op_neO (hs : OpF X.K C "__eq__" f) (hne : PySem.W.findIn X.K (.ref C) "__ne__" = some (some (.builtin "object.__ne__"))) (hm : PySem.W.mroIn X.K C (.type "object") = some true) (F : FnR X.prog X.w X.K X.mg X.base CX k f sp) (hr : Room (k + 1) X.A) (hx : Passes CX X E) : OpR X (compareOp .NotEq) (rNeO C sp E) := by
  intro pins s σ H x y v u Q I rx ry ⟨a, b, da, fa, db, fb, ex, ey, hA, hB, q⟩
  subst ex ey
  cases rx
  cases ry
  obtain ⟨mA, O, _⟩ := ins_get I.hok hA
  obtain ⟨oa, JA, _⟩ := O.look
  obtain ⟨mB, O2, _⟩ := ins_get I.hok hB
  obtain ⟨ob, JB, _⟩ := O2.look
  have XK := I.kIn
  have hu : X.A.units + 1 < cLine := by have := hr.units; omega
  have run : wpAny (model X.prog X.w) X.A.in1 (call (.ref f) [.ref a, .ref b]) (fun v s2 => ∃ r, v = .bool r ∧ EP X pins σ Q (.bool (!r)) s2) X.xe s := wpAny_call (codeAny_mono (SlX.run_at (us := [.ref a, .ref b]) (ws := [V.ref a, V.ref b]) F hr.in1 I.env0.in1 hx I (.cons rfl (.cons rfl .nil)) q) fun r s3 hq => by
    cases r with
    | error e => exact hq
    | ok fl => cases fl with
      | ret w =>
        obtain ⟨z, H3, I3, rz, r, er, q3⟩ := hq
        subst er
        cases rz
        exact ⟨r, rfl, .bl (!r), H3, I3, rfl, q3⟩
      | _ => exact hq.elim)
  have sub : PySem.W.Looks (model X.prog X.w) s.heap (isInstance (.ref a) (.type "object")) true := JA.type.andThen (PySem.W.looks_mroIn XK hm)
  have spl : PySem.W.Looks (model X.prog X.w) s.heap (specialOf (.ref a) "__ne__") (some (.builtin "object.__ne__")) := JA.type.andThen (PySem.W.looks_findIn XK hne)
  have one : wpAny (model X.prog X.w) X.A (tryCompare (.ref a) "__ne__" (.ref b)) (fun r s2 => ∃ v, r = some v ∧ EP X pins σ Q v s2) X.xe s := by
    unfold tryCompare
    refine wpAny_bind (bound_b spl (PySem.F.slot_object_ne.bind _) (wpAny_call (codeAny_call_builtin PySem.F.slot_object_ne.plain PySem.F.cmpEntry_ne (PySem.W.check_slot PySem.F.cmpKind_ne PySem.F.cmpSplit_ne sub (PySem.F.cmpArgs_ne _ _)
      (ne_entry XK JA hs (show X.A.in1.units < cLine from hu) (wpAny_mono run (fun v s2 z => ?_) fun _ _ z => z))))))
    obtain ⟨r, rfl, q2⟩ := z
    refine ⟨r, rfl, ?_⟩
    exact wpAny_pure ⟨_, rfl, q2⟩
  show wpAny _ _ (richCompare .NotEq (.ref a) (.ref b)) _ _ _
  unfold richCompare
  simp only [oneThing_ref]
  refine wpAny_holding (wpAny_bind (wpAny_cRoomFor (Nat.lt_of_succ_lt hu) ?_))
  rw [cmpInfo_NotEq]
  dsimp only
  refine wpAny_bind (JA.type.here (wpAny_bind (JB.type.here ?_)))
  rw [show (Value.ref C != Value.ref C) = false from by simp]
  simp only [Bool.false_eq_true, if_false]
  refine wpAny_bind (wpAny_pure ?_)
  simp only [Bool.false_eq_true, if_false]
  refine wpAny_bind (wpAny_mono one (fun r s2 z => ?_) fun _ _ z => z)
  obtain ⟨v, rfl, q2⟩ := z
  exact wpAny_pure q2
end
end Pk
/-! ## t[::-1], t a tuple -/
namespace Pk
open PySem PySem.Spec PyProof.Rows L2
theorem adjust_back (n : Nat) : Builtin.Slice.sliceAdjust none none (-1) (n : Int) = ((n : Int) - 1, -1) := by
  unfold Builtin.Slice.sliceAdjust
  simp
theorem places_back (n : Nat) : Builtin.Slice.slicePlaces ((n : Int) - 1) (-1) (-1) = n := by
  unfold Builtin.Slice.slicePlaces
  simp
  omega
theorem fm_congr {α β : Type} {f g : α → Option β} : ∀ {l : List α}, (∀ x ∈ l, f x = g x) → l.filterMap f = l.filterMap g
  | [], _ => rfl
  | a :: r, h => by
    rw [List.filterMap_cons, List.filterMap_cons, h a List.mem_cons_self, fm_congr fun x hx => h x (List.mem_cons_of_mem _ hx)]
theorem pick_back (xs : List Value) : ((List.range xs.length).filterMap fun (m : Nat) => xs.toArray[(((xs.length : Int) - 1) + (m : Int) * (-1)).toNat]?) = xs.reverse := by
  have e : ∀ m ∈ List.range xs.length, xs.toArray[(((xs.length : Int) - 1) + (m : Int) * (-1)).toNat]? = xs.reverse[m]? := fun m hm => by
    rw [List.mem_range] at hm
    have h : (((xs.length : Int) - 1) + (m : Int) * (-1)).toNat = xs.length - 1 - m := by omega
    rw [h, List.getElem?_reverse hm]
    simp
  rw [fm_congr e]
  have hl : xs.length = xs.reverse.length := List.length_reverse.symm
  rw [hl]
  generalize xs.reverse = ys
  refine List.ext_getElem? fun i => ?_
  induction ys generalizing i with
  | nil => rfl
  | cons y r ih =>
    rw [List.length_cons, List.range_succ_eq_map, List.filterMap_cons]
    simp only [List.getElem?_cons_zero, List.filterMap_map]
    cases i with
    | zero => rfl
    | succ i =>
      rw [List.getElem?_cons_succ, List.getElem?_cons_succ]
      exact ih i
section
variable {prog : Program} {w : World} {A : Around} {E : Value → Shared → Prop} {s : Shared}
theorem tuple_back {t sl : Addr} {items : List Value} {vl vu vs : Value} {Q : Value → Shared → Prop} (ht : IsTup s.heap t items.toArray) (hs : s.heap.IsSliceOf sl vl vu vs) (pl : IsPart vl none) (pu : IsPart vu none) (ps : IsPart vs (some (-1)))
    (h : Q (.ref s.heap.objs.size) { s with heap := s.heap.push { cls := .type "tuple", data := .seq items.reverse.toArray } }) (hsz : items.length ≤ sizeLine) : wpAny (model prog w) A (getItem (.ref t) (.ref sl)) Q E s := by
  have hok : sizeOk (.seq items.reverse.toArray) := by
    show items.reverse.toArray.size ≤ sizeLine
    rw [List.size_toArray, List.length_reverse]
    exact hsz
  obtain ⟨os, hos, hcs, hds⟩ := id hs
  have isl : s.TypeIs (.ref sl) "slice" := ⟨os, hos, hcs⟩
  unfold getItem
  try with_reducible refine wpAny_holding ?_
  first | refine wpAny_bind (wpAny_pure ?_) | skip
  refine wpAny_bind (wpAny_sequenceKey ht.typeIs (by decide) ?_)
  refine wpAny_bind (wpAny_callSpecial?_slot (name := Str.ofString "__getitem__") ht.typeIs PyProof.Rows.slot_tuple_getitem (wpAny_call_entry PyProof.Rows.slot_tuple_getitem ht.typeIs entry_tuple_getitem ?_ (args_tuple_getitem _ _)))
  change wpAny _ _ (Builtin.Tuple.tupleItemsOf (Value.ref t) >>= _) _ _ s
  refine wpAny_bind (tupleItemsOf_ ht ?_)
  refine wpAny_bind (wpAny_typeOf isl ?_)
  rw [if_pos (by decide)]
  have app : ∀ {R : Int × Int × Nat → Shared → Prop}, R ((items.length : Int) - 1, -1, items.length) s → wpAny (model prog w) A.in1 (Builtin.Slice.sliceApplied (.ref sl) (pure (items.toArray.size : Int))) R E s := fun {R} q => by
    unfold Builtin.Slice.sliceApplied Builtin.Slice.sliceFields
    refine wpAny_bind (wpAny_bind (wpAny_field hos hds (x := vl) rfl (wpAny_bind (wpAny_field hos hds (x := vu) rfl (wpAny_bind (wpAny_field hos hds (x := vs) rfl (wpAny_pure ?_)))))))
    refine wpAny_bind (HT.slicePart_ ps ?_)
    change wpAny _ _ (if ((-1 : Int) == 0) = true then _ else _) _ _ s
    rw [if_neg (by decide)]
    refine wpAny_bind (HT.slicePart_ pl (wpAny_bind (HT.slicePart_ pu (wpAny_bind (wpAny_pure ?_)))))
    change wpAny _ _ (match Builtin.Slice.sliceAdjust none none (-1) (items.toArray.size : Int) with | (lo, hi) => pure (lo, (-1 : Int), Builtin.Slice.slicePlaces lo hi (-1))) _ _ s
    rw [List.size_toArray, adjust_back]
    change wpAny _ _ (pure ((items.length : Int) - 1, (-1 : Int), Builtin.Slice.slicePlaces ((items.length : Int) - 1) (-1) (-1))) _ _ s
    rw [places_back]
    exact wpAny_pure q
  refine wpAny_bind (app ?_)
  have no : ¬ ((((items.length : Int) - 1) == 0 && (-1 : Int) == 1 && items.length == items.toArray.size) = true) := by
    intro q
    rw [Bool.and_eq_true, Bool.and_eq_true] at q
    exact absurd q.1.2 (by decide)
  change wpAny _ _ (if (((items.length : Int) - 1) == 0 && (-1 : Int) == 1 && items.length == items.toArray.size) = true then _ else _) _ _ s
  rw [if_neg no, pick_back]
  first
    | exact wpAny_bind (m := Builtin.Tuple.tupleExact _) (wpAny_newObj_type (wpAny_pure ⟨_, rfl, wpAny_pure h⟩) hok)
    | exact wpAny_bind (m := Builtin.Tuple.tupleExact _) (wpAny_newObj_type (wpAny_bind (wpAny_pure (wpAny_pure ⟨_, rfl, wpAny_pure h⟩))) hok)
    | exact wpAny_bind (wpAny_bind (m := Builtin.Tuple.tupleExact _) (wpAny_newObj_type (wpAny_pure (wpAny_pure ⟨_, rfl, wpAny_pure h⟩)) hok))
    | exact wpAny_bind (wpAny_bind (m := Builtin.Tuple.tupleExact _) (wpAny_newObj_type (wpAny_pure ⟨_, rfl, wpAny_pure h⟩) hok))
end
def tRevT (K : PySem.W.Frag) (te : TE) : TE := fun σ H Q => te σ H fun x H1 => ∃ a xs, x = .ref a ∧ SqT K H1 a xs ∧ ∀ p, H1 p = none → Q (.ref p) (upd H1 p (.tup xs.reverse))
theorem pe_revT {X : Cx} {e : Expr} {te : TE} {k : Nat} {p1 p2 p3 pos : Pos} (he : PE X e te) : PE X (.Subscript e (.Slice none none (some (.UnaryOp .USub (.Constant (.int 1) k p1) p2)) p3) pos) (tRevT X.K te) := ⟨fun pins s σ H Q I h => by
  refine Subscript_ (thn (he.run pins s σ H _ I h) fun v s1 k1 => ?_)
  obtain ⟨x, H1, I1, r1, a, xs, ex, hx, q⟩ := k1
  subst ex
  cases r1
  have hst : PO X (some (.UnaryOp .USub (.Constant (.int 1) k p1) p2)) (tPart (tUn (rU fun i => .int (-i)) (tC (.int 1)))) := po_some (pe_un un_neg pe_int)
  refine wpAny_Slice (thn (po_none.run pins s1 σ H1 (fun o H2 => o = none ∧ H2 = H1) I1 ⟨rfl, rfl⟩) fun vl s2 k2 => ?_)
  obtain ⟨l, H2, I2, pl, el, e2⟩ := k2
  subst el e2
  refine thn (po_none.run pins s2 σ H2 (fun o H3 => o = none ∧ H3 = H2) I2 ⟨rfl, rfl⟩) fun vu s3 k3 => ?_
  obtain ⟨u, H3, I3, pu, eu, e3⟩ := k3
  subst eu e3
  refine thn (hst.run pins s3 σ H3 (fun o H4 => o = some (-1) ∧ H4 = H3) I3 ⟨1, rfl, -1, rfl, rfl, rfl⟩) fun vs s4 k4 => ?_
  obtain ⟨o, H4, I4, ps, eo, e4⟩ := k4
  subst eo e4
  have I5 : Inv X pins σ H4 { s4 with heap := s4.heap.push { cls := .type "slice", data := .fields #[vl, vu, vs] } } := I4.kept (t' := s4.toks) fun b ob q => Heap.get?_push_of_some _ q
  obtain ⟨its, r, ht, hz⟩ := I5.tuple hx
  have hlen := r.length
  change wpAny (model X.prog X.w) X.A (subscriptTail e (.Slice none none (some (.UnaryOp .USub (.Constant (.int 1) k p1) p2)) p3) (.ref a) (.ref s4.heap.objs.size)) (EP X pins σ Q) X.xe { s4 with heap := s4.heap.push { cls := .type "slice", data := .fields #[vl, vu, vs] } }
  refine tail_any (ops := [.ref a, .ref s4.heap.objs.size]) ht.typeIs (PyProof.Rows.slot_tuple_getitem.lookup) ?_ (by with_unfolding_all rfl)
  refine tuple_back ht (Heap.IsSliceOf.new _ vl vu vs) pl pu ps ?_ (by omega)
  refine ⟨.ref _, _, I5.laid (t' := s4.toks) (o := .tup xs.reverse) (fun b ob q => Heap.get?_push_of_some _ q) (Nat.le_refl _) ?_, rfl, q _ (I5.hok.fresh (Nat.le_refl _))⟩
  exact ⟨by rw [List.length_reverse]; exact hz, _, r.reverse, IsTup.new _ _⟩⟩
end Pk
/-! ## xs[i] += e, a list, i from 0 -/
namespace Pk
open PySem PySem.Spec PyProof.Rows L2
def rGetL (K : PySem.W.Frag) : V → V → Hp → VK → Prop := fun o i H Q => ∃ (p : Addr) (xs : List V) (n : Nat) (z : V), o = .ref p ∧ i = .int (n : Nat) ∧ SqL K H p xs ∧ xs[n]? = some z ∧ Q z H
theorem get_listP {X : Cx} : PGet X (rGetL X.K) := by
  intro pins s σ H o i ov iv Q I ro ri h
  obtain ⟨p, xs, n, z, rfl, rfl, hq, he, q⟩ := h
  cases ro
  obtain ⟨t, rfl⟩ := ri
  obtain ⟨its, r, pl, hz⟩ := I.list hq
  obtain ⟨u, hu, ru⟩ := r.get he
  have hl := r.length
  have hn := line63
  have fin : EP X pins σ Q u s := ⟨z, H, I, ru, q⟩
  have hlt : n < its.length := (List.getElem?_eq_some_iff.mp hu).1
  exact wpAny_getItem_list pl.isList (by omega) (by omega) (by simpa using hu) fin
end Pk
/-! ## Numbers that stand in the order in which they come first -/
namespace Pk
open PySem L2
def InOrd : Nat → List Nat → Prop
  | _, [] => True
  | n, k :: r => k ≤ n ∧ InOrd (if k = n then n + 1 else n) r
def fin : Nat → List Nat → Nat
  | n, [] => n
  | n, k :: r => fin (if k = n then n + 1 else n) r
theorem fin_app : ∀ (n : Nat) (a b : List Nat), fin n (a ++ b) = fin (fin n a) b
  | _, [], _ => rfl
  | n, k :: r, b => fin_app _ r b
theorem inOrd_app : ∀ {n : Nat} {a b : List Nat}, InOrd n a → InOrd (fin n a) b → InOrd n (a ++ b)
  | _, [], _, _, h => h
  | n, k :: r, b, h, h2 => ⟨h.1, inOrd_app h.2 h2⟩
theorem inOrd_left : ∀ {n : Nat} {a b : List Nat}, InOrd n (a ++ b) → InOrd n a ∧ InOrd (fin n a) b
  | _, [], _, h => ⟨trivial, h⟩
  | n, k :: r, b, h => let ⟨h1, h2⟩ := inOrd_left (a := r) h.2; ⟨⟨h.1, h1⟩, h2⟩
theorem ord_range : ∀ (m n : Nat), InOrd n (List.range' n m) ∧ fin n (List.range' n m) = n + m
  | 0, n => ⟨trivial, rfl⟩
  | m + 1, n => by
    obtain ⟨h1, h2⟩ := ord_range m (n + 1)
    rw [List.range'_succ]
    refine ⟨⟨Nat.le_refl _, ?_⟩, ?_⟩
    · rw [if_pos rfl]
      exact h1
    · show fin (if n = n then n + 1 else n) _ = _
      rw [if_pos rfl, h2]
      omega
theorem ord_lt : ∀ {n : Nat} {l : List Nat}, (∀ k ∈ l, k < n) → InOrd n l ∧ fin n l = n
  | _, [], _ => ⟨trivial, rfl⟩
  | n, k :: r, h => by
    have h0 := h k (List.mem_cons_self)
    obtain ⟨h1, h2⟩ := ord_lt (l := r) fun j hj => h j (List.mem_cons_of_mem _ hj)
    have e : (if k = n then n + 1 else n) = n := if_neg (by omega)
    refine ⟨⟨by omega, ?_⟩, ?_⟩
    · rw [e]
      exact h1
    · show fin (if k = n then n + 1 else n) r = n
      rw [e]
      exact h2
theorem exF_ord : ∀ (st : List Stp) (E : List Nat) (n : Nat), InOrd 0 E → fin 0 E = n → (∀ k ∈ E, k < n) → InOrd 0 (exF E n st) ∧ fin 0 (exF E n st) = n + nk st ∧ ∀ k ∈ exF E n st, k < n + nk st
  | [], E, n, h1, h2, h3 => ⟨h1, h2, h3⟩
  | .wr w :: r, E, n, h1, h2, h3 => by
    obtain ⟨g1, g2⟩ := ord_range w.length n
    have e : n + nk (.wr w :: r) = (n + w.length) + nk r := by simp [nk, Stp.ks]; omega
    rw [e]
    refine exF_ord r _ _ (inOrd_app h1 (by rw [h2]; exact g1)) (by rw [fin_app, h2, g2]) fun k hk => ?_
    rcases List.mem_append.mp hk with h | h
    · have := h3 k h
      omega
    · rw [List.mem_range'_1] at h
      omega
  | .pa f l t :: r, E, n, h1, h2, h3 => by
    have e : n + nk (.pa f l t :: r) = n + nk r := by simp [nk, Stp.ks]
    rw [e]
    have hl : ∀ k ∈ (List.replicate t ((E.drop f).take (l + 1 - f))).flatten, k < n := fun k hk => by
      obtain ⟨s, hs, hk⟩ := List.mem_flatten.mp hk
      rw [List.eq_of_mem_replicate hs] at hk
      exact h3 k (List.mem_of_mem_drop (List.mem_of_mem_take hk))
    obtain ⟨g1, g2⟩ := ord_lt hl
    refine exF_ord r _ _ (inOrd_app h1 (by rw [h2]; exact g1)) (by rw [fin_app, h2, g2]) fun k hk => ?_
    rcases List.mem_append.mp hk with h | h
    · exact h3 k h
    · exact hl k h
theorem ex_ord (st : List Stp) : InOrd 0 (ex st) := (exF_ord st [] 0 trivial rfl (fun k h => by simp at h)).1
theorem ex_fin (st : List Stp) : fin 0 (ex st) = nk st := by
  have := (exF_ord st [] 0 trivial rfl (fun k h => by simp at h)).2.1
  rwa [Nat.zero_add] at this
theorem ex_lt (st : List Stp) : ∀ k ∈ ex st, k < nk st := by
  have := (exF_ord st [] 0 trivial rfl (fun k h => by simp at h)).2.2
  intro k hk
  have := this k hk
  omega
theorem fin_le : ∀ (n : Nat) (l : List Nat), n ≤ fin n l
  | n, [] => Nat.le_refl _
  | n, k :: r => by
    show n ≤ fin (if k = n then n + 1 else n) r
    refine Nat.le_trans ?_ (fin_le _ r)
    split <;> omega
theorem fin_mem : ∀ {n : Nat} {l : List Nat}, n < fin n l → fin n l - 1 ∈ l
  | n, [], h => absurd h (Nat.lt_irrefl _)
  | n, k :: r, h => by
    by_cases e : k = n
    · have e2 : fin n (k :: r) = fin (n + 1) r := by
        show fin (if k = n then n + 1 else n) r = _
        rw [if_pos e]
      rw [e2] at h ⊢
      by_cases h2 : n + 1 < fin (n + 1) r
      · exact List.mem_cons_of_mem _ (fin_mem h2)
      · have : fin (n + 1) r = n + 1 := by have := fin_le (n + 1) r; omega
        rw [this, ← e]
        exact List.mem_cons_self
    · have e2 : fin n (k :: r) = fin n r := by
        show fin (if k = n then n + 1 else n) r = _
        rw [if_neg e]
      rw [e2] at h ⊢
      exact List.mem_cons_of_mem _ (fin_mem h)
/-- after the first i numbers: what comes next is at most what was seen -/
theorem ord_at {n : Nat} {l : List Nat} {i k : Nat} (h : InOrd n l) (e : l[i]? = some k) : k ≤ fin n (l.take i) ∧ fin n (l.take (i + 1)) = if k = fin n (l.take i) then fin n (l.take i) + 1 else fin n (l.take i) := by
  have hlt : i < l.length := (List.getElem?_eq_some_iff.mp e).1
  have hx : l.drop i = k :: l.drop (i + 1) := by
    rw [List.drop_eq_getElem_cons hlt]
    have := (List.getElem?_eq_some_iff.mp e).2
    rw [this]
  have h2 := (inOrd_left (a := l.take i) (b := l.drop i) (by rw [List.take_append_drop]; exact h)).2
  rw [hx] at h2
  refine ⟨h2.1, ?_⟩
  rw [take_succ e, fin_app]
  rfl
theorem fin_take_le {n : Nat} (l : List Nat) (i : Nat) : fin n (l.take i) ≤ fin n l := by
  have := fin_app n (l.take i) (l.drop i)
  rw [List.take_append_drop] at this
  rw [this]
  exact fin_le _ _
theorem fin_len : ∀ (n : Nat) (l : List Nat), fin n l ≤ n + l.length
  | n, [] => Nat.le_refl _
  | n, k :: r => by
    have := fin_len (if k = n then n + 1 else n) r
    show fin (if k = n then n + 1 else n) r ≤ _
    rw [List.length_cons]
    split at this <;> split <;> omega
/-- numbers that come in order are below what was seen -/
theorem ord_all_lt {l : List Nat} {k : Nat} (h : InOrd 0 l) (hk : k ∈ l) : k < fin 0 l := by
  obtain ⟨i, hi, rfl⟩ := List.mem_iff_getElem.mp hk
  obtain ⟨h1, h2⟩ := ord_at h (List.getElem?_eq_getElem hi)
  have h3 := fin_take_le (n := 0) l (i + 1)
  rw [h2] at h3
  split at h3 <;> omega
end Pk
/-! ## How often a key stands before a place -/
namespace Pk
open PySem L2
def cnt (st : List Stp) (k p : Nat) : Nat := ((ex st).take p).count k
theorem cnt_zero (st : List Stp) (k : Nat) : cnt st k 0 = 0 := rfl
theorem cnt_mono (st : List Stp) (k : Nat) {p q : Nat} (h : p ≤ q) : cnt st k p ≤ cnt st k q := by
  unfold cnt
  exact List.Sublist.count_le _ (List.take_sublist_take_left h)
/-- repeated parts -/
theorem rep_take (seg : List Nat) : ∀ (t m : Nat), m ≤ seg.length * t → (List.replicate t seg).flatten.take m = (List.replicate (m / seg.length) seg).flatten ++ seg.take (m % seg.length)
  | 0, m, h => by
    have hm : m = 0 := by simpa using h
    subst hm
    simp
  | t + 1, m, h => by
    rcases Nat.eq_zero_or_pos seg.length with h0 | h0
    · have : seg = [] := List.length_eq_zero_iff.mp h0
      subst this
      simp
    by_cases hm : m < seg.length
    · rw [List.replicate_succ, List.flatten_cons, List.take_append_of_le_length (by omega), Nat.div_eq_of_lt hm, Nat.mod_eq_of_lt hm]
      simp
    · have hm2 : seg.length ≤ m := by omega
      have e1 : m / seg.length = (m - seg.length) / seg.length + 1 := by
        rw [Nat.div_eq_sub_div h0 hm2]
      have e2 : m % seg.length = (m - seg.length) % seg.length := Nat.mod_eq_sub_mod hm2
      have ih := rep_take seg t (m - seg.length) (by rw [Nat.mul_succ] at h; omega)
      rw [e1, e2, List.replicate_succ, List.flatten_cons, List.take_append, List.take_of_length_le hm2, ih, List.replicate_succ, List.flatten_cons, List.append_assoc]
theorem rep_count (k : Nat) (seg : List Nat) (n : Nat) : ((List.replicate n seg).flatten).count k = n * seg.count k := by
  induction n with
  | zero => simp
  | succ n ih =>
    rw [List.replicate_succ, List.flatten_cons, List.count_append, ih, Nat.succ_mul]
    omega
theorem part_count (E : List Nat) (k f m : Nat) : ((E.drop f).take m).count k = (E.take (f + m)).count k - (E.take f).count k := by
  have e : E.take (f + m) = E.take f ++ (E.drop f).take m := List.take_add
  rw [e, List.count_append]
  omega
/-- the whole is the part ahead of a step, then what the step adds -/
theorem ex_split {most : Nat} {st : List Stp} {i : Nat} {x : Stp} (h : Goes most 0 st) (e : st[i]? = some x) : ∃ A F, ex st = ex (st.take i) ++ (A ++ F) ∧ ex1 (ex (st.take i)) (nk (st.take i)) x = ex (st.take i) ++ A ∧ A.length = x.gr ∧ (ex (st.take i)).length = sz (st.take i) := by
  have hl := ex_len _ (goes_take h i)
  obtain ⟨ok, _⟩ := goes_at h e
  obtain ⟨A, hA⟩ := ex1_pre (ex (st.take i)) (nk (st.take i)) x
  obtain ⟨F, hF⟩ := ex_pre (st.take (i + 1)) (st.drop (i + 1))
  rw [List.take_append_drop, take_succ e, ex_snoc, hA] at hF
  have hlen := ex1_len (E := ex (st.take i)) (n := nk (st.take i)) (x := x) (by rw [hl]; exact ok)
  rw [hA, List.length_append] at hlen
  exact ⟨A, F, by rw [hF, List.append_assoc], hA, by omega, hl⟩
theorem range_count (k : Nat) : ∀ (m n : Nat), (List.range' n m).count k = if n ≤ k ∧ k < n + m then 1 else 0
  | 0, n => by
    rw [if_neg (by omega)]
    rfl
  | m + 1, n => by
    rw [List.range'_succ, List.count_cons, range_count k m (n + 1)]
    have e : (if (n == k) = true then 1 else 0) = if n = k then 1 else 0 := by simp
    rw [e]
    split <;> split <;> split <;> omega
theorem cnt_wr {most : Nat} {st : List Stp} {i : Nat} {w : List Nat} (h : Goes most 0 st) (e : st[i]? = some (.wr w)) (k m : Nat) (hm : m ≤ w.length) :
    cnt st k (sz (st.take i) + m) = cnt st k (sz (st.take i)) + if nk (st.take i) ≤ k ∧ k < nk (st.take i) + m then 1 else 0 := by
  obtain ⟨A, F, h1, h2, h3, h4⟩ := ex_split h e
  have hA : A = List.range' (nk (st.take i)) w.length := (List.append_cancel_left h2).symm
  unfold cnt
  rw [h1, ← h4, List.take_length_add_append, List.take_left, List.count_append, List.take_append_of_le_length (by rw [h3]; exact hm), hA]
  congr 1
  have e3 : (List.range' (nk (st.take i)) w.length).take m = List.range' (nk (st.take i)) m := by
    refine List.ext_getElem (by simp; omega) fun j h1 h2 => ?_
    simp
  rw [e3]
  exact range_count k m _
theorem cnt_pa {most : Nat} {st : List Stp} {i f l t : Nat} (h : Goes most 0 st) (e : st[i]? = some (.pa f l t)) (k m : Nat) (hm : m ≤ (l + 1 - f) * t) :
    cnt st k (sz (st.take i) + m) = cnt st k (sz (st.take i)) + (m / (l + 1 - f)) * (cnt st k (l + 1) - cnt st k f) + (cnt st k (f + m % (l + 1 - f)) - cnt st k f) := by
  obtain ⟨A, F, h1, h2, h3, h4⟩ := ex_split h e
  obtain ⟨ok, _⟩ := goes_at h e
  simp [Stp.ok] at ok
  have hA : A = (List.replicate t (((ex (st.take i)).drop f).take (l + 1 - f))).flatten := (List.append_cancel_left h2).symm
  have hseg : (((ex (st.take i)).drop f).take (l + 1 - f)).length = l + 1 - f := by
    rw [List.length_take, List.length_drop, h4]
    omega
  have low : ∀ q, q ≤ sz (st.take i) → (ex st).take q = (ex (st.take i)).take q := fun q hq => by
    rw [h1, List.take_append_of_le_length (by omega)]
  have hmod : m % (l + 1 - f) < l + 1 - f := Nat.mod_lt _ (by omega)
  unfold cnt
  rw [low (l + 1) (by omega), low f (by omega), low (f + m % (l + 1 - f)) (by omega)]
  rw [h1, ← h4, List.take_length_add_append, List.take_left, List.count_append, List.take_append_of_le_length (by rw [h3]; exact hm), hA, rep_take _ _ _ (by rw [hseg]; exact hm), hseg, List.count_append, rep_count, part_count, List.take_take, Nat.min_eq_left (by omega), part_count]
  rw [show f + (l + 1 - f) = l + 1 by omega]
  omega
/-- behind the end of a text nothing more stands -/
theorem cnt_all {most : Nat} {st : List Stp} (h : Goes most 0 st) (k : Nat) {p : Nat} (hp : sz st ≤ p) : cnt st k p = (ex st).count k := by
  unfold cnt
  rw [List.take_of_length_le (by rw [ex_len _ h]; exact hp)]
end Pk
/-! ## Weights at places -/
namespace Pk
open PySem L2
abbrev WL := List (Nat × Int)
def kvW (W : WL) : List (Key × V) := W.map fun p => ((.inl (p.1 : Int) : Key), V.int p.2)
def val (st : List Stp) (k : Nat) (W : WL) : Int := (W.map fun p => p.2 * (cnt st k p.1 : Int)).sum
def addW : WL → Nat → Int → WL
  | [], p, w => [(p, w)]
  | q :: r, p, w => if q.1 = p then (q.1, q.2 + w) :: r else q :: addW r p w
def dropW (W : WL) (p : Nat) : WL := W.filter fun q => decide (q.1 ≠ p)
def getW : WL → Nat → Int
  | [], _ => 0
  | q :: r, p => if q.1 = p then q.2 else getW r p
theorem val_cons (st : List Stp) (k : Nat) (q : Nat × Int) (W : WL) : val st k (q :: W) = q.2 * (cnt st k q.1 : Int) + val st k W := by simp [val]
theorem val_add (st : List Stp) (k p : Nat) (w : Int) : ∀ W : WL, val st k (addW W p w) = val st k W + w * (cnt st k p : Int)
  | [] => by simp [addW, val]
  | q :: r => by
    unfold addW
    by_cases h : q.1 = p
    · rw [if_pos h, val_cons, val_cons]
      simp only [h]
      rw [Int.add_mul]
      omega
    · rw [if_neg h, val_cons, val_cons, val_add st k p w r]
      omega
theorem keys_add (p : Nat) (w : Int) : ∀ {W : WL} {q : Nat}, q ∈ (addW W p w).map (·.1) ↔ q ∈ W.map (·.1) ∨ q = p
  | [], q => by simp [addW]
  | a :: r, q => by
    unfold addW
    by_cases h : a.1 = p
    · rw [if_pos h]
      simp only [List.map_cons, List.mem_cons]
      constructor
      · intro z
        exact .inl z
      · rintro (z | z)
        · exact z
        · exact .inl (by rw [z, h])
    · rw [if_neg h]
      simp only [List.map_cons, List.mem_cons, keys_add p w (W := r)]
      constructor
      · rintro (z | z | z)
        · exact .inl (.inl z)
        · exact .inl (.inr z)
        · exact .inr z
      · rintro ((z | z) | z)
        · exact .inl z
        · exact .inr (.inl z)
        · exact .inr (.inr z)
theorem nodup_add (p : Nat) (w : Int) : ∀ {W : WL}, (W.map (·.1)).Nodup → ((addW W p w).map (·.1)).Nodup
  | [], _ => by simp [addW]
  | a :: r, h => by
    unfold addW
    rw [List.map_cons, List.nodup_cons] at h
    by_cases e : a.1 = p
    · rw [if_pos e, List.map_cons, List.nodup_cons]
      exact h
    · rw [if_neg e, List.map_cons, List.nodup_cons]
      refine ⟨fun z => ?_, nodup_add p w h.2⟩
      rcases (keys_add p w).mp z with z | z
      · exact h.1 z
      · exact e z
theorem len_add (p : Nat) (w : Int) : ∀ W : WL, (addW W p w).length ≤ W.length + 1
  | [] => by simp [addW]
  | a :: r => by
    unfold addW
    have := len_add p w r
    split <;> simp <;> omega
theorem drop_out {p : Nat} : ∀ {W : WL}, p ∉ W.map (·.1) → dropW W p = W
  | [], _ => rfl
  | a :: r, h => by
    simp only [List.map_cons, List.mem_cons, not_or] at h
    show (a :: r).filter _ = _
    rw [List.filter_cons, if_pos (decide_eq_true (Ne.symm h.1))]
    exact congrArg (a :: ·) (drop_out h.2)
theorem val_drop (st : List Stp) (k p : Nat) : ∀ {W : WL}, (W.map (·.1)).Nodup → val st k (dropW W p) = val st k W - getW W p * (cnt st k p : Int)
  | [], _ => by simp [dropW, val, getW]
  | a :: r, h => by
    rw [List.map_cons, List.nodup_cons] at h
    unfold getW
    by_cases e : a.1 = p
    · rw [if_pos e]
      have hd : dropW (a :: r) p = r := by
        show (a :: r).filter _ = _
        rw [List.filter_cons, if_neg (by simp [e])]
        exact drop_out (W := r) (by rw [← e]; exact h.1)
      rw [hd, val_cons, e]
      omega
    · rw [if_neg e]
      have hd : dropW (a :: r) p = a :: dropW r p := by
        show (a :: r).filter _ = _
        rw [List.filter_cons, if_pos (by simp [e])]
        rfl
      rw [hd, val_cons, val_cons, val_drop st k p h.2]
      omega
theorem keys_drop {W : WL} {p q : Nat} : q ∈ (dropW W p).map (·.1) ↔ q ∈ W.map (·.1) ∧ q ≠ p := by
  unfold dropW
  constructor
  · intro h
    obtain ⟨a, ha, rfl⟩ := List.mem_map.mp h
    rw [List.mem_filter] at ha
    exact ⟨List.mem_map.mpr ⟨a, ha.1, rfl⟩, of_decide_eq_true ha.2⟩
  · rintro ⟨h, hne⟩
    obtain ⟨a, ha, rfl⟩ := List.mem_map.mp h
    exact List.mem_map.mpr ⟨a, List.mem_filter.mpr ⟨ha, decide_eq_true hne⟩, rfl⟩
theorem nodup_drop {W : WL} (p : Nat) (h : (W.map (·.1)).Nodup) : ((dropW W p).map (·.1)).Nodup := by
  unfold dropW
  exact List.Sublist.nodup (List.filter_sublist.map _) h
/-! ### as dicts -/
theorem valV_kv (p : Nat) : ∀ W : WL, (valV (kvW W) (.inl (p : Int))).getD (.int 0) = .int (getW W p)
  | [] => rfl
  | a :: r => by
    unfold getW
    by_cases e : a.1 = p
    · rw [if_pos e]
      show (valV (((.inl (a.1 : Int) : Key), V.int a.2) :: kvW r) _).getD _ = _
      rw [valV_pos (by simp [e])]
      rfl
    · rw [if_neg e]
      show (valV (((.inl (a.1 : Int) : Key), V.int a.2) :: kvW r) _).getD _ = _
      rw [valV_neg (by simp; omega)]
      exact valV_kv p r
theorem valV_in {p : Nat} : ∀ {W : WL}, p ∈ W.map (·.1) → valV (kvW W) (.inl (p : Int)) = some (.int (getW W p))
  | [], h => by simp at h
  | a :: r, h => by
    unfold getW
    by_cases e : a.1 = p
    · rw [if_pos e]
      show valV (((.inl (a.1 : Int) : Key), V.int a.2) :: kvW r) _ = _
      rw [valV_pos (by simp [e])]
    · rw [if_neg e]
      show valV (((.inl (a.1 : Int) : Key), V.int a.2) :: kvW r) _ = _
      rw [valV_neg (by simp; omega)]
      refine valV_in ?_
      simp only [List.map_cons, List.mem_cons] at h
      exact h.resolve_left (Ne.symm e)
theorem dropK_kv (W : WL) (p : Nat) : dropK (kvW W) (.inl (p : Int)) = kvW (dropW W p) := by
  unfold dropK kvW dropW
  rw [List.filter_map]
  congr 1
  refine List.filter_congr fun a _ => ?_
  simp
  omega
theorem any_kv (W : WL) (p : Nat) : ((kvW W).any fun kv => decide (kv.1 = .inl (p : Int))) = decide (p ∈ W.map (·.1)) := by
  rw [Bool.eq_iff_iff, List.any_eq_true, decide_eq_true_iff]
  constructor
  · rintro ⟨x, hx, e⟩
    obtain ⟨a, ha, rfl⟩ := List.mem_map.mp hx
    have e := of_decide_eq_true e
    simp at e
    exact List.mem_map.mpr ⟨a, ha, by omega⟩
  · intro h
    obtain ⟨a, ha, e⟩ := List.mem_map.mp h
    exact ⟨_, List.mem_map.mpr ⟨a, ha, rfl⟩, by simp [e]⟩
theorem addW_in {p : Nat} {w : Int} : ∀ {W : WL}, (W.map (·.1)).Nodup → p ∈ W.map (·.1) → addW W p w = W.map fun q => if q.1 = p then (q.1, getW W p + w) else q
  | [], _, h => by simp at h
  | a :: r, hn, h => by
    rw [List.map_cons, List.nodup_cons] at hn
    unfold addW getW
    by_cases e : a.1 = p
    · rw [if_pos e, List.map_cons, if_pos e, if_pos e]
      congr 1
      refine (List.map_id r).symm.trans (List.map_congr_left fun q hq => ?_)
      have : q.1 ≠ p := fun z => hn.1 (List.mem_map.mpr ⟨q, hq, by rw [z, e]⟩)
      rw [if_neg this]
      rfl
    · simp only [List.map_cons, List.mem_cons] at h
      rw [if_neg e, List.map_cons, if_neg e, if_neg e, addW_in hn.2 (h.resolve_left (Ne.symm e))]
theorem addW_out {p : Nat} {w : Int} : ∀ {W : WL}, p ∉ W.map (·.1) → addW W p w = W ++ [(p, w)]
  | [], _ => rfl
  | a :: r, h => by
    simp only [List.map_cons, List.mem_cons, not_or] at h
    unfold addW
    rw [if_neg (Ne.symm h.1), addW_out h.2]
    rfl
theorem getW_out {p : Nat} : ∀ {W : WL}, p ∉ W.map (·.1) → getW W p = 0
  | [], _ => rfl
  | a :: r, h => by
    simp only [List.map_cons, List.mem_cons, not_or] at h
    unfold getW
    rw [if_neg (Ne.symm h.1), getW_out h.2]
theorem putK_kv {W : WL} (p : Nat) (w : Int) (hn : (W.map (·.1)).Nodup) : putK (kvW W) (.inl (p : Int)) (.int (getW W p + w)) = kvW (addW W p w) := by
  unfold putK
  rw [any_kv]
  by_cases h : p ∈ W.map (·.1)
  · rw [decide_eq_true h, if_pos rfl, addW_in hn h]
    unfold kvW
    rw [List.map_map, List.map_map]
    refine List.map_congr_left fun q _ => ?_
    simp only [Function.comp]
    by_cases e : q.1 = p
    · rw [if_pos (by simp [e]), if_pos e]
    · rw [if_neg (by simp; omega), if_neg e]
  · rw [decide_eq_false h, if_neg (by decide), addW_out h, getW_out h, Int.zero_add]
    simp [kvW]
end Pk
namespace Pk
open PySem L2
theorem val_zero (st : List Stp) (k : Nat) : ∀ {W : WL}, (∀ q ∈ W.map (·.1), q = 0) → val st k W = 0
  | [], _ => rfl
  | a :: r, h => by
    rw [val_cons, val_zero st k fun q hq => h q (List.mem_cons_of_mem _ hq), h a.1 List.mem_cons_self, cnt_zero]
    simp
theorem nodup_len : ∀ (M : Nat) {l : List Nat}, l.Nodup → (∀ q ∈ l, q < M) → l.length ≤ M
  | 0, l, _, h => by
    cases l with
    | nil => exact Nat.le_refl _
    | cons a r => exact absurd (h a List.mem_cons_self) (by omega)
  | M + 1, l, hn, h => by
    have h1 := nodup_len M (l := l.filter fun q => decide (q ≠ M)) (List.Sublist.nodup List.filter_sublist hn) fun q hq => by
      rw [List.mem_filter] at hq
      have h2 := h q hq.1
      have h3 : q ≠ M := of_decide_eq_true hq.2
      omega
    have h4 : l.length ≤ (l.filter fun q => decide (q ≠ M)).length + 1 := by
      clear h1 h
      induction l with
      | nil => simp
      | cons a r ih =>
        rw [List.nodup_cons] at hn
        by_cases e : a = M
        · have : r.filter (fun q => decide (q ≠ M)) = r := List.filter_eq_self.mpr fun q hq => decide_eq_true fun z => hn.1 (by rw [e, ← z]; exact hq)
          rw [List.filter_cons, if_neg (by simp [e]), this]
          exact Nat.le_refl _
        · rw [List.filter_cons, if_pos (by simp [e]), List.length_cons, List.length_cons]
          have := ih hn.2
          omega
    omega
theorem nodup_sub : ∀ {l m : List Nat}, l.Nodup → (∀ q ∈ l, q ∈ m) → l.length ≤ m.length
  | [], _, _, _ => Nat.zero_le _
  | a :: r, m, hn, h => by
    rw [List.nodup_cons] at hn
    have ha : a ∈ m := h a List.mem_cons_self
    have ih := nodup_sub (l := r) (m := m.erase a) hn.2 fun q hq => by
      have hqa : q ≠ a := fun z => hn.1 (by rw [← z]; exact hq)
      exact (List.mem_erase_of_ne hqa).mpr (h q (List.mem_cons_of_mem _ hq))
    have hl := List.length_erase_of_mem ha
    have hp : 0 < m.length := List.length_pos_of_mem ha
    rw [List.length_cons]
    omega
theorem filter_two (l : List Nat) (p : Nat → Bool) : (l.filter p).length + (l.filter fun q => !p q).length = l.length := by
  induction l with
  | nil => rfl
  | cons a r ih =>
    rw [List.filter_cons, List.filter_cons]
    cases h : p a <;> simp <;> omega
theorem keeps_filter (l : List Nat) (p : Nat → Bool) (g : Nat → V) : keeps l.length (fun i => p (l.getD i 0)) (fun i => g (l.getD i 0)) = (l.filter p).map g := by
  unfold keeps
  have h : ∀ m, m ≤ l.length → ((List.range m).filter fun i => p (l.getD i 0)).map (fun i => g (l.getD i 0)) = ((l.take m).filter p).map g := by
    intro m
    induction m with
    | zero => intro _; simp
    | succ m ih =>
      intro hm
      have e : l[m]? = some (l[m]'(by omega)) := List.getElem?_eq_getElem (by omega)
      have e2 : l.getD m 0 = l[m]'(by omega) := by rw [List.getD_eq_getElem?_getD, e]; rfl
      rw [List.range_succ, List.filter_append, List.map_append, ih (by omega), take_succ e, List.filter_append, List.map_append]
      congr 1
      rw [List.filter_cons, List.filter_cons, e2]
      split
      · show [g (l.getD m 0)] = [g (l[m]'(by omega))]
        rw [e2]
      · rfl
  have := h l.length (Nat.le_refl _)
  rwa [List.take_length] at this
/-- what a step of the walk back does to the weights: a written span -/
theorem val_wr {st : List Stp} {i : Nat} {w : List Nat} (h : Goes most 0 st) (e : st[i]? = some (.wr w)) {W : WL} (hn : (W.map (·.1)).Nodup) {p m : Nat} (hp : p = sz (st.take i) + m) (hm : m ≤ w.length) (k : Nat) :
    val st k (addW (dropW W p) (sz (st.take i)) (getW W p)) + (if nk (st.take i) ≤ k ∧ k < nk (st.take i) + m then getW W p else 0) = val st k W := by
  rw [val_add, val_drop st k p hn, hp, cnt_wr h e k m hm]
  split <;> simp only [Int.natCast_add, Int.mul_add, Int.natCast_one, Int.mul_one, Int.natCast_zero, Int.mul_zero] <;> omega
theorem val_pa {st : List Stp} {i f l t : Nat} (h : Goes most 0 st) (e : st[i]? = some (.pa f l t)) {W : WL} (hn : (W.map (·.1)).Nodup) {p m : Nat} (hp : p = sz (st.take i) + m) (hm : m ≤ (l + 1 - f) * t) (k : Nat) :
    val st k (addW (addW (addW (addW (dropW W p) (sz (st.take i)) (getW W p)) (l + 1) (((m / (l + 1 - f) : Nat) : Int) * getW W p)) (f + m % (l + 1 - f)) (getW W p)) f (-(((m / (l + 1 - f) : Nat) : Int) + 1) * getW W p)) = val st k W := by
  obtain ⟨ok, _⟩ := goes_at h e
  simp [Stp.ok] at ok
  have h1 := cnt_mono st k (show f ≤ l + 1 by omega)
  have h2 := cnt_mono st k (show f ≤ f + m % (l + 1 - f) by omega)
  rw [val_add, val_add, val_add, val_add, val_drop st k p hn, hp, cnt_pa h e k m hm]
  generalize cnt st k (l + 1) = A at *
  generalize cnt st k f = F at *
  generalize cnt st k (f + m % (l + 1 - f)) = B at *
  generalize cnt st k (sz (st.take i)) = S at *
  generalize m / (l + 1 - f) = c at *
  generalize getW W (sz (st.take i) + m) = x at *
  obtain ⟨a, rfl⟩ : ∃ a, A = F + a := ⟨A - F, by omega⟩
  obtain ⟨b, rfl⟩ : ∃ b, B = F + b := ⟨B - F, by omega⟩
  rw [Nat.add_sub_cancel_left, Nat.add_sub_cancel_left]
  simp only [Int.natCast_add, Int.natCast_mul, Int.mul_add, Int.add_mul, Int.neg_mul, Int.one_mul, Int.mul_assoc, Int.neg_add]
  have e1 : x * ((c : Int) * (a : Int)) = (c : Int) * (x * (a : Int)) := by rw [← Int.mul_assoc, Int.mul_comm x, Int.mul_assoc]
  rw [e1]
  omega
end Pk
namespace Pk
open PySem L2
def cV (N : Nat) (g : Nat → Int) : List V := (List.range N).map fun k => V.int (g k)
theorem cV_len (N : Nat) (g : Nat → Int) : (cV N g).length = N := by simp [cV]
theorem cV_get {N n : Nat} (g : Nat → Int) (h : n < N) : (cV N g)[n]? = some (V.int (g n)) := by simp [cV, h]
theorem cV_set {N j : Nat} (g : Nat → Int) (z : Int) : (cV N g).set j (V.int z) = cV N fun k => if k = j then z else g k := by
  refine List.ext_getElem? fun i => ?_
  rw [List.getElem?_set, cV_len]
  by_cases e : j = i
  · subst e
    rw [if_pos rfl]
    by_cases h : j < N
    · rw [if_pos h, cV_get _ h, if_pos rfl]
    · rw [if_neg h, List.getElem?_eq_none (by rw [cV_len]; omega)]
  · rw [if_neg e]
    by_cases h : i < N
    · rw [cV_get _ h, cV_get _ h, if_neg (Ne.symm e)]
    · rw [List.getElem?_eq_none (by rw [cV_len]; omega), List.getElem?_eq_none (by rw [cV_len]; omega)]
theorem cV_congr {N : Nat} {g h : Nat → Int} (e : ∀ k, k < N → g k = h k) : cV N g = cV N h := by
  unfold cV
  refine List.map_congr_left fun k hk => ?_
  rw [e k (List.mem_range.mp hk)]
theorem rev_at {α : Type} {l : List α} {j : Nat} {x : α} (h : l.reverse[j]? = some x) : j < l.length ∧ l[l.length - 1 - j]? = some x := by
  have hj : j < l.length := by
    have := (List.getElem?_eq_some_iff.mp h).1
    rwa [List.length_reverse] at this
  rw [List.getElem?_reverse hj] at h
  exact ⟨hj, h⟩
end Pk
/-! ## Often wanted: divmod of great numbers, tests, heaps -/
namespace Pk
open PySem PySem.Spec PyProof.Rows L2
theorem b_divmod : bootBuiltins "divmod" = some (.builtin "divmod") := by decide +kernel
theorem divp {i j : Int} (h : 0 < j) (hj : j < 18446744073709551616) : CDivP i j := by
  refine ⟨h, PyProof.noPylong_of_log2 ?_⟩
  exact Nat.lt_of_lt_of_le (PySem.Flt.log2_lt_of (k := 64) (by decide) (by omega)) (by decide)
/-! ### tests -/
theorem iT {b : Bool} {A B : Prop} (h : b = true) (a : A) : if b = true then A else B := by rw [if_pos h]; exact a
theorem iF {b : Bool} {A B : Prop} (h : b = false) (a : B) : if b = true then A else B := by rw [h]; exact iteF a
theorem iB {P A B : Prop} [Decidable P] (h1 : P → A) (h2 : ¬ P → B) : if decide P = true then A else B := by
  by_cases h : P
  · rw [decide_eq_true h]; exact iteT (h1 h)
  · rw [decide_eq_false h]; exact iteF (h2 h)
theorem iBn {P A B : Prop} [Decidable P] (h1 : ¬ P → A) (h2 : P → B) : if (!decide P) = true then A else B := by
  by_cases h : P
  · rw [decide_eq_true h]; exact iteF (h2 h)
  · rw [decide_eq_false h]; exact iteT (h1 h)
theorem dT {P : Prop} [Decidable P] (h : P) : decide P = true := decide_eq_true h
theorem dF {P : Prop} [Decidable P] (h : ¬ P) : decide P = false := decide_eq_false h
theorem nT {b : Bool} (h : b = false) : (!b) = true := by rw [h]; rfl
theorem nF {b : Bool} (h : b = true) : (!b) = false := by rw [h]; rfl
theorem vT {i j : Int} (h : i = j) : decide (V.int i = V.int j) = true := decide_eq_true (by rw [h])
theorem vF {i j : Int} (h : ¬ i = j) : decide (V.int i = V.int j) = false := decide_eq_false (fun z => h (by injection z))
theorem sT {i j : Str} (h : i = j) : decide (V.str i = V.str j) = true := decide_eq_true (by rw [h])
theorem sF {i j : Str} (h : ¬ i = j) : decide (V.str i = V.str j) = false := decide_eq_false (fun z => h (by injection z))
theorem iV {i j : Int} {A B : Prop} (h1 : i = j → A) (h2 : ¬ i = j → B) : if decide (V.int i = V.int j) = true then A else B := iB (fun e => h1 (by injection e)) fun e => h2 fun z => e (by rw [z])
theorem iVn {i j : Int} {A B : Prop} (h1 : ¬ i = j → A) (h2 : i = j → B) : if (!decide (V.int i = V.int j)) = true then A else B := iBn (fun e => h1 fun z => e (by rw [z])) fun e => h2 (by injection e)
theorem andT {a b : Bool} (h1 : a = true) (h2 : b = true) : (a && b) = true := by rw [h1, h2]; rfl
theorem andF1 {a b : Bool} (h1 : a = false) : (a && b) = false := by rw [h1]; rfl
theorem andF2 {a b : Bool} (h1 : b = false) : (a && b) = false := by rw [h1, Bool.and_false]
/-! ### heaps -/
theorem but_refl {r : Addr} {H : Hp} : But r H H := But.refl r H
/-- an object of one's own, new since H, is stored again -/
theorem same_own {H H1 : Hp} {p : Addr} {o : HO} (s : Same H H1) (h : H p = none) : Same H (upd H1 p o) := fun b u e => by
  rw [upd_ne (ne_of_none e h)]
  exact s _ _ e
theorem but_new {r : Addr} {H H1 H2 : Hp} (s : Same H H1) (b : But r H1 H2) (n : H r = none) : Same H H2 := fun q o e => b _ _ (ne_of_none e n) (s _ _ e)
theorem but_own {r : Addr} {H H1 : Hp} {p : Addr} {o : HO} (s : But r H H1) (h : H p = none) : But r H (upd H1 p o) := fun b u n e => by
  rw [upd_ne (ne_of_none e h)]
  exact s _ _ n e
theorem but_set {r : Addr} {H H1 : Hp} {o : HO} (s : But r H H1) : But r H (upd H1 r o) := fun b u n e => by
  rw [upd_ne n]
  exact s _ _ n e
theorem at_upd {H : Hp} {p q : Addr} {o u : HO} (n : p ≠ q) (h : H p = some o) : upd H q u p = some o := by rw [upd_ne n]; exact h
theorem qInt {Q : VK} {H : Hp} {i j : Int} (h : Q (.int i) H) (e : i = j) : Q (.int j) H := e ▸ h
theorem qBl {Q : VK} {H : Hp} {i j : Bool} (h : Q (.bl i) H) (e : i = j) : Q (.bl j) H := e ▸ h
theorem qStr {Q : VK} {H : Hp} {i j : Str} (h : Q (.str i) H) (e : i = j) : Q (.str j) H := e ▸ h
theorem lst_eq {H : Hp} {p : Addr} {a b : List V} (h : H p = some (.lst a)) (e : a = b) : H p = some (.lst b) := e ▸ h
theorem tup_eq {H : Hp} {p : Addr} {a b : List V} (h : H p = some (.tup a)) (e : a = b) : H p = some (.tup b) := e ▸ h
theorem small_ok {n : Nat} (h : n ≤ 16000000) : n ≤ sizeLine := Nat.le_trans h (by decide)
theorem small_lt {n : Nat} (h : n ≤ 16000000) : n < sizeLine := Nat.lt_of_le_of_lt h (by decide)
end Pk
/-! ## Rules for values of several kinds at once, told of K by name -/
namespace Pk
open PySem PySem.Spec PyProof.Rows L2
section
variable {X : Cx}
theorem SlR.or {r r' : V → Option Int → Option Int → Hp → VK → Prop} (h : SlR X r) (h' : SlR X r') : SlR X (fun x l u H Q => r x l u H Q ∨ r' x l u H Q) := by
  intro pins s σ H x v vl vu lo hi sl Q I rx hs pl pu q
  rcases q with q | q
  · exact h pins s σ H x v vl vu lo hi sl Q I rx hs pl pu q
  · exact h' pins s σ H x v vl vu lo hi sl Q I rx hs pl pu q
def rAddS : R2 := fun x y H Q => ∃ i j, x = .str i ∧ y = .str j ∧ i.length + j.length ≤ sizeLine ∧ Q (.str (i ++ j)) H
def rAddA (K : Fr) : R2 := fun x y H Q => rI0 (fun i j => .int (i + j)) x y H Q ∨ rAddS x y H Q ∨ rCat x y H Q ∨ rCatT K x y H Q
theorem addA (K : Fr) (h : X.K = K := by rfl) : OpR X (binaryOp .Add) (rAddA K) := by
  subst h
  exact op_add.or (OpR.or op_add_str (op_cat.or op_catT))
def rMulA : R2 := fun x y H Q => rI CMul (fun i j => .int (i * j)) x y H Q ∨ rRep x y H Q
theorem mulA : OpR X (binaryOp .Mult) rMulA := op_mul.or op_rep
def rEqA (K : Fr) : R2 := fun x y H Q => rEq x y H Q ∨ rEqD K x y H Q
theorem eqA (K : Fr) (hu : X.A.units + 64 < cLine) (h : X.K = K := by rfl) : OpR X (compareOp .Eq) (rEqA K) := by
  subst h
  exact op_eq.or (op_eqD hu)
def rNeA (K : Fr) : R2 := fun x y H Q => rNe x y H Q ∨ rNeD K x y H Q
theorem neA (K : Fr) (hu : X.A.units + 64 < cLine) (h : X.K = K := by rfl) : OpR X (compareOp .NotEq) (rNeA K) := by
  subst h
  exact op_ne.or (op_neD hu)
def rInS (neg : Bool) : R2 := fun x y H Q => ∃ (c : Nat) (z : Str), x = .str ⟨#[c]⟩ ∧ y = .str z ∧ Q (.bl (if neg then !decide (c ∈ z.cps.toList) else decide (c ∈ z.cps.toList))) H
def rInA (K : Fr) (neg : Bool) : R2 := fun x y H Q => rIn K neg x y H Q ∨ rInS neg x y H Q
theorem inA (K : Fr) (h : X.K = K := by rfl) : OpR X (compareOp .In) (rInA K false) := by
  subst h
  exact op_in_seq.or op_in_sign
theorem notInA (K : Fr) (h : X.K = K := by rfl) : OpR X (compareOp .NotIn) (rInA K true) := by
  subst h
  exact op_notIn_seq.or op_notIn_sign
theorem ixS (K : Fr) (h : X.K = K := by rfl) : IxR X (rIx K) := h ▸ ix_seq
def rSlA (K : Fr) : V → Option Int → Option Int → Hp → VK → Prop := fun x l u H Q => rSlL K x l u H Q ∨ rSlT K x l u H Q ∨ rSlS x l u H Q
theorem slA (K : Fr) (h : X.K = K := by rfl) : SlR X (rSlA K) := by
  subst h
  exact SlR.or sl_list (SlR.or sl_tup sl_str)
def rLenA (K : Fr) : List V → Hp → VK → Prop := fun xs H Q => (∃ z : Str, xs = [.str z] ∧ z.length ≤ sizeLine ∧ Q (.int z.length) H) ∨ (∃ p ys, xs = [.ref p] ∧ (SqL K H p ys ∨ SqT K H p ys) ∧ Q (.int ys.length) H) ∨ ∃ a kvs, xs = [.ref a] ∧ H a = some (.dK kvs) ∧ Q (.int kvs.length) H
theorem lenA (K : Fr) (h : X.K = K := by rfl) : CallR X (.builtin "len") (rLenA K) := by
  subst h
  exact call_len_str.or (call_len_seq.or call_lenD)
end
section
variable {X : Cx} {k : Nat} {f C : Addr} {sp : Sp} {x m : Str} {p pos apos : Pos} {e o : Expr} {es : List Expr} {t : TA} {te ta : TE}
/-- o.m() by a positional promise -/
theorem pe_methR0 {CX : CXT} {E : XK} {pl : Sem Bool} (he : PE X o ta) (c : Cls X.K C) (hm : Meth X.K C m f) (F : FnR X.prog X.w X.K X.mg X.base CX k f sp) (hr : Room k X.A) (hx : Passes CX X E)
    (ht : eval (.Call (.Attribute o m apos) [] [] pos) X.env = (do
      let ov ← eval o X.env
      standAt apos.atName
      let (f, first) ← holding [ov] (getMethod ov m pl)
      callWith pos f first (backTo pos (starEach [] X.env)) (backToKw pos (keywordEach [] X.env))) := by rfl) :
    PE X (.Call (.Attribute o m apos) [] [] pos) (tMethR C m sp E ta tNil) := by
  refine ⟨fun pins s σ H Q I h => ?_⟩
  refine PySem.W.methodCall_KW (pl := pl) (thn (he.run pins s σ H _ I h) fun u s1 ⟨x, H1, I1, rx, a, dx, fs, ex, ea, l, q⟩ => ?_) ht
  subst ex
  obtain rfl : u = Value.ref a := rx
  refine getmeth_ok I1 ea c hm l ?_
  exact PySem.W.callWith_K0 (first := [.ref a]) I1.kIn hm.kp (wpAny_call (run_fnR (us := [.ref a]) (vs := [.ref a]) F hr hx I1 (.cons rfl .nil) q))
/-- constants of the module, as the facts tell them -/
theorem pe_gIx {i : Int} (hm : ∃ tk, X.mg x = some (.int i tk)) (hg : Gl X x := by rfl) (hd : (x == ("__debug__" : Str)) = false := by decide) : PE X (.Name x p) (tC (.int i)) := by
  obtain ⟨tk, hm⟩ := hm
  exact pe_gI hm hg hd
theorem pe_gSx {z : Str} (hm : ∃ tk, X.mg x = some (.str z tk)) (hg : Gl X x := by rfl) (hd : (x == ("__debug__" : Str)) = false := by decide) : PE X (.Name x p) (tC (.str z)) := by
  obtain ⟨tk, hm⟩ := hm
  exact pe_gS hm hg hd
end
end Pk
/-! ## enumerate and zip over lists, tuples and texts, as they come -/
namespace Pk
open PySem PySem.Spec PyProof.Rows L2
theorem Kp.sub {P : Program} {w : World} {K : PySem.W.Frag} {mg : Str → Option Value} {base : Heap} {k : Nat} {f : Addr} {sp sp' : Sp} (G : Kp P w K mg base k f sp) (h : ∀ vs H Q E, sp' vs H Q E → sp vs H Q E) : Kp P w K mg base k f sp' := by
  obtain ⟨fd, ps, F, b, kp⟩ := G
  exact ⟨fd, ps, F.imp h, b, kp⟩
/-- what is gone through -/
inductive Src where
  | lst (a : Addr)
  | tup (a : Addr)
  | txt (z : Str)
/-- the sgn of a text, as texts -/
def sgn (z : Str) : List V := z.cps.toList.map fun c => V.str ⟨#[c]⟩
theorem get_back {xs : List V} {its : List Value} (rv : Vals xs its) {j : Nat} {u : Value} (h : its[j]? = some u) : ∃ x, xs[j]? = some x ∧ RelV x u := by
  have hl := rv.length
  have hj : j < xs.length := by
    have := (List.getElem?_eq_some_iff.mp h).1
    omega
  obtain ⟨u2, h2, r⟩ := rv.get (List.getElem?_eq_getElem hj)
  rw [h] at h2
  cases h2
  exact ⟨_, List.getElem?_eq_getElem hj, r⟩
namespace Src
def v : Src → V
  | .lst a => .ref a
  | .tup a => .ref a
  | .txt z => .str z
def At (K : Fr) : Src → Hp → List V → Prop
  | .lst a, H, xs => SqL K H a xs
  | .tup a, H, xs => SqT K H a xs
  | .txt z, _, xs => xs = sgn z
def adr : Src → List Addr
  | .lst a => [a]
  | .tup a => [a]
  | .txt _ => []
def it : Src → Heap → Addr → Nat → Prop
  | .lst a, h, b, i => h.IsListIter b a i
  | .tup a, h, b, i => h.IsTupleIter b a i
  | .txt z, h, b, i => ∃ t, h.IsStrIter b (strIterType z) z t i
theorem it_obj {S : Src} {h : Heap} {b : Addr} {i : Nat} (p : S.it h b i) : ∃ o vs, h.get? b = some o ∧ o.data = .fields vs := by
  cases S with
  | lst a => obtain ⟨o, e, _, d⟩ := p; exact ⟨o, _, e, d⟩
  | tup a => obtain ⟨o, e, _, d⟩ := p; exact ⟨o, _, e, d⟩
  | txt z => obtain ⟨t, o, e, _, d⟩ := p; exact ⟨o, _, e, d⟩
theorem it_keep {S : Src} {h h2 : Heap} {b : Addr} {i : Nat} (p : S.it h b i) (k : ∀ o, h.get? b = some o → h2.get? b = some o) : S.it h2 b i := by
  cases S with
  | lst a => exact Heap.IsListIter.at p k
  | tup a => exact Heap.IsTupleIter.at p k
  | txt z => obtain ⟨t, o, e, r⟩ := p; exact ⟨t, o, k o e, r⟩
theorem inj {K : Fr} {X : Cx} {pins : List (Addr × Obj)} {σ : L2.St} {H : Hp} {s : Shared} (I : Inv X pins σ H s) {S : Src} {xs ys : List V} (h : S.At X.K H xs) (h2 : S.At X.K H ys) : xs = ys := by
  cases S with
  | lst a => exact I.list_inj h h2
  | tup a => exact I.tuple_inj h h2
  | txt z => exact (show xs = sgn z from h).trans (show ys = sgn z from h2).symm
theorem draws {X : Cx} {pins : List (Addr × Obj)} {σ : L2.St} {H : Hp} {s : Shared} (I : Inv X pins σ H s) {S : Src} {xs : List V} (h : S.At X.K H xs) {b : Addr} {i : Nat} (p : S.it s.heap b i) (n : b ∉ S.adr) {A : Around} (hh : A.handled = none) :
    ∃ (P : Nat → Value → Prop) (St : Nat → Heap → Prop), Draws X.prog X.w A b (b :: S.adr) xs.length P St ∧ St i s.heap ∧ (∀ j u, P j u → ∃ x, xs[j]? = some x ∧ RelV x u) ∧ ∀ j h2, St j h2 → S.it h2 b j := by
  cases S with
  | lst a =>
    obtain ⟨its, rv, q, _⟩ := I.list h
    have ql : s.heap.IsList a its.toArray := q.isList
    have hn : a ≠ b := fun e => n (by rw [e]; exact List.mem_singleton.mpr rfl)
    have D := Draws.list (prog := X.prog) (w := X.w) hh b a hn its.toArray
    have hl : its.toArray.size = xs.length := by simpa using rv.length.symm
    rw [hl] at D
    refine ⟨_, _, D, ⟨p, ql⟩, fun j u hu => ?_, fun j h2 r => r.1⟩
    have hu2 : its[j]? = some u := by simpa using hu
    exact get_back rv hu2
  | tup a =>
    obtain ⟨its, rv, q, _⟩ := I.tuple h
    have ql : s.heap.IsTuple a its.toArray := q
    have hn : a ≠ b := fun e => n (by rw [e]; exact List.mem_singleton.mpr rfl)
    have D := Draws.tuple (prog := X.prog) (w := X.w) hh b a hn its.toArray
    have hl : its.toArray.size = xs.length := by simpa using rv.length.symm
    rw [hl] at D
    refine ⟨_, _, D, ⟨p, ql⟩, fun j u hu => ?_, fun j h2 r => r.1⟩
    have hu2 : its[j]? = some u := by simpa using hu
    exact get_back rv hu2
  | txt z =>
    obtain ⟨t, p⟩ := p
    have D := Draws.text (prog := X.prog) (w := X.w) hh b z t
    have e : xs = sgn z := h
    have hl : z.cps.size = xs.length := by rw [e]; simp [sgn]
    rw [hl] at D
    refine ⟨_, _, D, p, fun j u hu => ?_, fun j h2 r => ⟨t, r⟩⟩
    obtain ⟨c, t2, hc, eu⟩ := hu
    refine ⟨.str ⟨#[c]⟩, ?_, t2, eu⟩
    rw [e]
    simp [sgn, hc]
/-- iter(v) of it is one new object -/
theorem begins {X : Cx} {pins : List (Addr × Obj)} {σ : L2.St} {H : Hp} {s : Shared} (I : Inv X pins σ H s) {S : Src} {xs : List V} (h : S.At X.K H xs) {u : Value} (r : RelV S.v u) :
    ∃ (ob : Obj) (P : Heap → Prop), Begins u ob P ∧ P s.heap ∧ (∀ h2 b, h2.get? b = some ob → S.it h2 b 0) ∧ ∀ b, b ∈ S.adr → b < s.heap.objs.size := by
  cases S with
  | lst a =>
    cases r
    obtain ⟨its, rv, q, _⟩ := I.list h
    have ql : s.heap.IsList a its.toArray := q.isList
    exact ⟨_, _, begins_list a its.toArray, ql, fun h2 b e => ⟨_, e, rfl, rfl⟩, fun b hb => by rw [List.mem_singleton.mp hb]; exact q.lt⟩
  | tup a =>
    cases r
    obtain ⟨its, rv, q, _⟩ := I.tuple h
    have ql : s.heap.IsTuple a its.toArray := q
    obtain ⟨o, ho, _⟩ := id ql
    exact ⟨_, _, begins_tuple a its.toArray, ql, fun h2 b e => ⟨_, e, rfl, rfl⟩, fun b hb => by rw [List.mem_singleton.mp hb]; exact Heap.lt_size ho⟩
  | txt z =>
    obtain ⟨t, e⟩ := r
    subst e
    exact ⟨_, _, begins_text z t, trivial, fun h2 b e => ⟨t, _, e, rfl, rfl⟩, fun b hb => nomatch hb⟩
end Src
/-! ### for i, x in enumerate(xs) -/
def IteX (K : Fr) (S : Src) : It :=
  ⟨fun i H => ∃ (xs : List V) (x : V), S.At K H xs ∧ xs[i]? = some x, fun i H v H2 => ∃ T x, v = .ref T ∧ H T = none ∧ H2 = upd H T (.tup [.int (i : Nat), x]) ∧ ∀ xs, S.At K H xs → xs[i]? = some x, fun i H => ∃ xs : List V, S.At K H xs ∧ xs.length = i⟩
theorem turn_enumX {P : Program} {w : World} {K : PySem.W.Frag} {elts : List Expr} {kk : Nat} {tpos : Pos} (S : Src) (e it : Addr) :
    Turn P w K (.Tuple elts kk tpos) (IteX K S) [e, it] e (fun i h => (∃ old, IsEnum h e it ((i : Nat) : Int) old) ∧ S.it h it i ∧ e ≠ it ∧ e ∉ S.adr ∧ it ∉ S.adr) where
  mem := List.mem_cons_self
  obj := fun i h st b hb => by
    obtain ⟨⟨old, h1⟩, hit, _⟩ := st
    obtain ⟨o, vs, ho, hd⟩ := Src.it_obj hit
    have hb2 : b = e ∨ b = it := by simpa using hb
    rcases hb2 with z | z
    · exact ⟨_, by rw [z]; exact h1, fun v q => by cases q⟩
    · exact ⟨o, by rw [z]; exact ho, fun v q => by rw [hd] at q; cases q⟩
  keep := fun i h h2 st k => let ⟨⟨old, h1⟩, hi, n⟩ := st; ⟨⟨old, k e List.mem_cons_self _ h1⟩, Src.it_keep hi (fun o q => k it (by simp) o q), n⟩
  item := by
    intro X hP hw hK hc i pins s σ H E I hf st hg
    subst hP hw hK
    obtain ⟨⟨old, hen⟩, hit, n1, n2, n3⟩ := st
    obtain ⟨xs, x, hq, hx⟩ := hg
    have hcalm : X.A.in1.handled = none := I.ok.hd hc
    obtain ⟨Pd, St, D, st0, hP, hS⟩ := Src.draws I hq hit n3 hcalm
    have le_ : e < s.heap.objs.size := Heap.lt_size hen
    have li_ : it < s.heap.objs.size := by
      obtain ⟨_, _, q, _⟩ := Src.it_obj hit
      exact Heap.lt_size q
    have hsz : i < xs.length := (List.getElem?_eq_some_iff.mp hx).1
    refine wpAny_pyNext_enum_itemC D hen st0 hsz n1 (by simp [n1, n2]) fun y h1 tk hy ho1 st1 hT _ hk => ?_
    obtain ⟨x2, hx2, ry⟩ := hP i y hy
    rw [hx] at hx2
    cases hx2
    refine ⟨_, rfl, wpAny_letOwnedTupleGo_enum (s := { s with heap := h1, toks := tk + 1 }) ho1 fun h2 hen2 sb => ?_⟩
    have hT2 := (sb.2 _ (Nat.ne_of_gt le_)).trans hT
    have new : ObjOk X.prog X.w (upd H s.heap.objs.size (.tup [.int (i : Nat), x])) h2 s.heap.objs.size (.tup [.int (i : Nat), x]) :=
      ⟨(by decide : 2 ≤ sizeLine), [.int (i : Nat) tk, y], .cons ⟨_, rfl⟩ (.cons ry .nil), ⟨_, hT2, rfl, _, rfl⟩⟩
    have I2 : Inv X pins σ (upd H s.heap.objs.size (.tup [.int (i : Nat), x])) { s with heap := h2, toks := tk + 1 } :=
      I.turnedNew (ch := [e, it]) (fun b ob hb q => (sb.2 b (fun z => hb (by simp [z]))).trans (hk b ob (fun z => hb (by simp [z])) (fun z => hb (by simp [z])) q)) hf (Nat.le_refl _) new
    refine ⟨.ref s.heap.objs.size, _, I2, rfl, ⟨_, x, rfl, I.hok.fresh (Nat.le_refl _), rfl, fun ys hy2 => by rw [Src.inj (K := X.K) I hy2 hq]; exact hx⟩, ⟨⟨y, ?_⟩, Src.it_keep (hS _ _ st1) (fun o q => (sb.2 it n1.symm).trans q), n1, n2, n3⟩, fun b hb => ?_⟩
    · rw [Int.natCast_succ]
      exact hen2
    · have hb2 : b < s.heap.objs.size := by
        have q : b = e ∨ b = it := by simpa using hb
        rcases q with z | z <;> rw [z] <;> assumption
      rw [upd_ne (Nat.ne_of_lt hb2)]
      exact (hf b hb).1
  done := by
    intro X hP hw hK hc i pins s σ H E I hf st hg
    subst hP hw hK
    obtain ⟨⟨old, hen⟩, hit, n1, n2, n3⟩ := st
    obtain ⟨xs, hq, hx⟩ := hg
    obtain ⟨f0, f1, f2, f3, f4, f5⟩ := hf it (by simp)
    have hcalm : X.A.in1.handled = none := I.ok.hd hc
    obtain ⟨Pd, St, D, st0, hP, hS⟩ := Src.draws I hq hit n3 hcalm
    rw [hx] at D
    exact wpAny_pyNext_enum_endD D hen st0 fun h1 eb => ⟨rfl, I.turned (t' := s.toks) (fun b o hb q => eb b o hb q) f0 f1 f3 f4 f5⟩
  self := fun A i s Q E st h => let ⟨⟨_, hen⟩, _⟩ := st; wpAny_pyIter_enum hen h
def iEnumX (K : Fr) (ta : TA) : TI := fun σ H R => ta σ H fun vs H1 => ∃ (S : Src) (xs : List V), vs = [S.v] ∧ S.At K H1 xs ∧ R (IteX K S) H1
theorem pi_enumX {X : Cx} {e : Expr} {ta : TA} {p pos tpos : Pos} {elts : List Expr} {kk : Nat} (hg : Gl X "enumerate") (hm : X.mg "enumerate" = none) (ha : PA X [e] ta) (hs : starEach [e] X.env = [(false, eval e X.env)] := by rfl) :
    PI X (.Tuple elts kk tpos) (.Call (.Name "enumerate" p) [e] [] pos) (iEnumX X.K ta) := ⟨fun pins s σ H R I h => by
  refine Call_ (ld_blt I hg hm boot_enumerate (PyProof.Rows.callWith_type1 (thn (ha.run pos pins s σ H _ I h) fun us s1 ⟨vs, H1, I1, r1, S, xs, ev, hq, q⟩ => ?_) hs rfl))
  subst ev
  cases r1 with
  | cons r rr =>
    cases rr
    obtain ⟨ob, P, B, hP, hit, hlt⟩ := Src.begins I1 hq r
    refine enum_new B hP fun h2 hen ho hk => wpAny_pyIter_enum hen ?_
    have I2 : Inv X pins σ H1 { s1 with heap := h2 } := I1.kept (t' := s1.toks) hk
    refine ⟨s1.heap.objs.size + 1, [s1.heap.objs.size + 1, s1.heap.objs.size], _, _, H1, rfl, I2, turn_enumX S (s1.heap.objs.size + 1) s1.heap.objs.size, ⟨⟨.none, hen⟩, hit _ _ ho, Nat.succ_ne_self _, fun z => ?_, fun z => ?_⟩, fun b hb => ?_, q⟩
    · exact absurd (hlt _ z) (Nat.not_lt.mpr (Nat.le_succ _))
    · exact absurd (hlt _ z) (Nat.lt_irrefl _)
    have hb2 : b = s1.heap.objs.size + 1 ∨ b = s1.heap.objs.size := by simpa using hb
    have hle : s1.heap.objs.size ≤ b := by
      rcases hb2 with z | z
      · rw [z]; exact Nat.le_succ _
      · rw [z]; exact Nat.le_refl _
    exact I1.fpOk hle (I1.hok.fresh hle)⟩
theorem walk_enumX {K : Fr} {S : Src} {xs : List V} : Walk (IteX K S) xs.length (fun H => S.At K H xs) (YPair (fun i => some (.int (i : Nat))) (fun i => xs[i]?)) := by
  refine ⟨fun i _ hi q => ⟨xs, xs[i], q, by simp [hi]⟩, fun _ q => ⟨xs, q, rfl⟩, fun i H v H2 _ q y => ?_⟩
  obtain ⟨T, x, h1, h2, h3, h4⟩ := y
  exact ⟨T, .int (i : Nat), x, h1, h2, h3, rfl, h4 xs q⟩
/-! ### for x, y in zip(xs, ys) -/
def ItzX (K : Fr) (S S' : Src) : It :=
  ⟨fun i H => ∃ (xs ys : List V) (x y : V), S.At K H xs ∧ S'.At K H ys ∧ xs[i]? = some x ∧ ys[i]? = some y,
    fun i H v H2 => ∃ T x y, v = .ref T ∧ H T = none ∧ H2 = upd H T (.tup [x, y]) ∧ (∀ xs, S.At K H xs → xs[i]? = some x) ∧ ∀ ys, S'.At K H ys → ys[i]? = some y,
    fun i H => ∃ xs ys : List V, S.At K H xs ∧ S'.At K H ys ∧ i ≤ xs.length ∧ i ≤ ys.length ∧ (i = xs.length ∨ i = ys.length)⟩
theorem turn_zipX {P : Program} {w : World} {K : PySem.W.Frag} {elts : List Expr} {kk : Nat} {tpos : Pos} {S S' : Src} {z TI TO i1 i2 : Addr} (D : ZipSep2 z TI TO i1 i2 (i1 :: S.adr) (i2 :: S'.adr)) (n1 : i1 ∉ S.adr) (n2 : i2 ∉ S'.adr) :
    Turn P w K (.Tuple elts kk tpos) (ItzX K S S') [z, TI, TO, i1, i2] z (fun i h => IsZip h z TI TO .none ∧ IsTupOf2 h TI (.ref i1) (.ref i2) ∧ (∃ x y, IsTupOf2 h TO x y) ∧ S.it h i1 i ∧ S'.it h i2 i) where
  mem := by simp
  obj := fun i h st c hc => by
    obtain ⟨hz, hTI, ⟨x, y, hTO⟩, p1, p2⟩ := st
    obtain ⟨o1, _, e1, d1⟩ := Src.it_obj p1
    obtain ⟨o2, _, e2, d2⟩ := Src.it_obj p2
    have e' : c = z ∨ c = TI ∨ c = TO ∨ c = i1 ∨ c = i2 := by simpa using hc
    rcases e' with q | q | q | q | q
    · rw [q]; exact ⟨_, hz, fun v q => nomatch q⟩
    · rw [q]; exact ⟨_, hTI, fun v q => nomatch q⟩
    · rw [q]; exact ⟨_, hTO, fun v q => nomatch q⟩
    · rw [q]; exact ⟨o1, e1, fun v q => by rw [d1] at q; cases q⟩
    · rw [q]; exact ⟨o2, e2, fun v q => by rw [d2] at q; cases q⟩
  keep := fun i h h' st k => by
    obtain ⟨hz, hTI, ⟨x, y, hTO⟩, h1, h2⟩ := st
    exact ⟨k z (by simp) _ hz, k TI (by simp) _ hTI, ⟨x, y, k TO (by simp) _ hTO⟩, Src.it_keep h1 (fun o q => k i1 (by simp) o q), Src.it_keep h2 (fun o q => k i2 (by simp) o q)⟩
  item := by
    intro X hP hw hK hc i pins s σ H E I hf st hg
    subst hP hw hK
    obtain ⟨hz, hTI, ⟨x0, y0, hTO⟩, h1, h2⟩ := st
    obtain ⟨xs, ys, x, y, hqx, hqy, hx, hy⟩ := hg
    have hcalm : X.A.in1.handled = none := I.ok.hd hc
    obtain ⟨P1, St1, D1, st1, hP1, hS1⟩ := Src.draws I hqx h1 n1 hcalm
    obtain ⟨P2, St2, D2, st2, hP2, hS2⟩ := Src.draws I hqy h2 n2 hcalm
    have hzl : z < s.heap.objs.size := Heap.lt_size hz
    refine wpAny_pyNext_zipD2_item D D1 D2 hz hTI hTO st1 st2 (List.getElem?_eq_some_iff.mp hx).1 (List.getElem?_eq_some_iff.mp hy).1 fun u u2 h' tk pu pu2 z' TO' s1' s2' hT hsz hk => ?_
    obtain ⟨x2, hx2, ru⟩ := hP1 i u pu
    rw [hx] at hx2
    cases hx2
    obtain ⟨y2, hy2, ru2⟩ := hP2 i u2 pu2
    rw [hy] at hy2
    cases hy2
    refine ⟨_, rfl, wpAny_letOwnedTupleGo_zip (s := { s with heap := h', toks := tk }) z' fun h'' z'' sb => ?_⟩
    have hT2 : h''.get? s.heap.objs.size = some { cls := .type "tuple", data := .seq #[u, u2] } := (sb.2 _ (Nat.ne_of_gt hzl)).trans hT
    have new : ObjOk X.prog X.w (upd H s.heap.objs.size (.tup [x, y])) h'' s.heap.objs.size (.tup [x, y]) :=
      ⟨by show 2 ≤ sizeLine; decide, [u, u2], .cons ru (.cons ru2 .nil), ⟨_, hT2, rfl, _, rfl⟩⟩
    have I1 : Inv X pins σ (upd H s.heap.objs.size (.tup [x, y])) { s with heap := h'', toks := tk } :=
      I.turnedNew (t' := tk) (ch := [z, TI, TO, i1, i2]) (fun c o hb q => (sb.2 c (fun q' => hb (by simp [q']))).trans (hk c o (fun q' => hb (by simp [q'])) (fun q' => hb (by simp [q'])) (fun q' => hb (by simp [q'])) (fun q' => hb (by simp [q'])) q)) hf (Nat.le_refl _) new
    have i1z : i1 ≠ z := fun e => D.zf1 (by rw [e]; exact List.mem_cons_self)
    have i2z : i2 ≠ z := fun e => D.zf2 (by rw [e]; exact List.mem_cons_self)
    refine ⟨.ref s.heap.objs.size, _, I1, rfl, ⟨_, x, y, rfl, I.hok.fresh (Nat.le_refl _), rfl, fun l hl => by rw [Src.inj (K := X.K) I hl hqx]; exact hx, fun l hl => by rw [Src.inj (K := X.K) I hl hqy]; exact hy⟩, ⟨z'', ?_, ⟨u, u2, ?_⟩, ?_, ?_⟩, fun c hcm => ?_⟩
    · exact (sb.2 _ D.TIz).trans (hk _ _ D.TIz D.TITO D.TIi1 D.TIi2 hTI)
    · exact (sb.2 _ D.TOz).trans TO'
    · exact Src.it_keep (hS1 _ _ s1') fun o q => (sb.2 _ i1z).trans q
    · exact Src.it_keep (hS2 _ _ s2') fun o q => (sb.2 _ i2z).trans q
    · have hlt : c < s.heap.objs.size := by
        have e' : c = z ∨ c = TI ∨ c = TO ∨ c = i1 ∨ c = i2 := by simpa using hcm
        rcases e' with q | q | q | q | q
        · rw [q]; exact hzl
        · rw [q]; exact Heap.lt_size hTI
        · rw [q]; exact Heap.lt_size hTO
        · rw [q]; obtain ⟨_, _, e1, _⟩ := Src.it_obj h1; exact Heap.lt_size e1
        · rw [q]; obtain ⟨_, _, e2, _⟩ := Src.it_obj h2; exact Heap.lt_size e2
      rw [upd_ne (Nat.ne_of_lt hlt)]
      exact (hf c hcm).1
  done := by
    intro X hP hw hK hc i pins s σ H E I hf st hg
    subst hP hw hK
    obtain ⟨hz, hTI, ⟨x0, y0, hTO⟩, h1, h2⟩ := st
    obtain ⟨xs, ys, hqx, hqy, l1, l2, hend⟩ := hg
    have hcalm : X.A.in1.handled = none := I.ok.hd hc
    obtain ⟨P1, St1, D1, st1, hP1, hS1⟩ := Src.draws I hqx h1 n1 hcalm
    obtain ⟨P2, St2, D2, st2, hP2, hS2⟩ := Src.draws I hqy h2 n2 hcalm
    exact wpAny_pyNext_zipD2_end D D1 D2 hz hTI hTO st1 st2 l1 l2 hend fun h' tk hk => ⟨rfl, I.turnedL (t' := tk) (ch := [z, TI, TO, i1, i2]) (fun c o hb q =>
      hk c o (fun q' => hb (by simp [q'])) (fun q' => hb (by simp [q'])) (fun q' => hb (by simp [q'])) (fun q' => hb (by simp [q'])) q) hf⟩
  self := fun A i s Q E st h => wpAny_pyIter_zip st.1 h
def iZipX (K : Fr) (ta : TA) : TI := fun σ H R => ta σ H fun vs H1 => ∃ (S S' : Src) (xs ys : List V), vs = [S.v, S'.v] ∧ S.At K H1 xs ∧ S'.At K H1 ys ∧ R (ItzX K S S') H1
theorem pi_zipX {X : Cx} {e e2 : Expr} {ta : TA} {p pos tpos : Pos} {elts : List Expr} {kk : Nat} (hg : Gl X "zip") (hm : X.mg "zip" = none) (ha : PA X [e, e2] ta)
    (hs : starEach [e, e2] X.env = (false, eval e X.env) :: starEach [e2] X.env := by rfl) (hpl : (backTo pos (starEach [e2] X.env)).any (·.1) = false := by rfl) :
    PI X (.Tuple elts kk tpos) (.Call (.Name "zip" p) [e, e2] [] pos) (iZipX X.K ta) := by
  refine ⟨fun pins s σ H R I h => ?_⟩
  refine Call_ (ld_blt I hg hm PyProof.Rows.boot_zip (PyProof.Rows.callWith_type1 (thn (ha.run pos pins s σ H _ I h) fun us s1 ⟨vs, H1, I1, r1, q1⟩ => ?_) hs hpl))
  obtain ⟨S, S', xs, ys, ex, hqx, hqy, q⟩ := q1
  subst ex
  cases r1 with
  | cons r rr =>
    cases rr with
    | cons r' rr =>
      cases rr
      obtain ⟨o1, P1, B1, hP1, it1, l1⟩ := Src.begins I1 hqx r
      obtain ⟨o2, P2, B2, hP2, it2, l2⟩ := Src.begins I1 hqy r'
      have fresh5 : ∀ c, c ∈ [s1.heap.objs.size + 4, s1.heap.objs.size + 2, s1.heap.objs.size + 3, s1.heap.objs.size, s1.heap.objs.size + 1] → FpOk X pins H1 c := fun c hcm => by
        have e' : c = s1.heap.objs.size + 4 ∨ c = s1.heap.objs.size + 2 ∨ c = s1.heap.objs.size + 3 ∨ c = s1.heap.objs.size ∨ c = s1.heap.objs.size + 1 := by simpa using hcm
        have hle : s1.heap.objs.size ≤ c := by
          rcases e' with z | z | z | z | z <;> rw [z] <;> first | exact Nat.le_add_right _ _ | exact Nat.le_refl _
        exact I1.fpOk hle (I1.hok.fresh hle)
      refine zip_begins2 B1 B2 hP1 hP2 fun h' hz hTI hTO g1 g2 hsz hk => wpAny_pyIter_zip hz ?_
      have I2 : Inv X pins σ H1 { s1 with heap := h' } := I1.kept (t' := s1.toks) hk
      have nin1 : ∀ k : Nat, s1.heap.objs.size + k ∉ S.adr := fun k m => absurd (l1 _ m) (Nat.not_lt.mpr (Nat.le_add_right _ _))
      have nin2 : ∀ k : Nat, s1.heap.objs.size + k ∉ S'.adr := fun k m => absurd (l2 _ m) (Nat.not_lt.mpr (Nat.le_add_right _ _))
      have ne : ∀ a b : Nat, a ≠ b → s1.heap.objs.size + a ≠ s1.heap.objs.size + b := fun a b n e => n (Nat.add_left_cancel e)
      have D : ZipSep2 (s1.heap.objs.size + 4) (s1.heap.objs.size + 2) (s1.heap.objs.size + 3) s1.heap.objs.size (s1.heap.objs.size + 1) (s1.heap.objs.size :: S.adr) ((s1.heap.objs.size + 1) :: S'.adr) := by
        refine ⟨ne 2 4 (by decide), ne 3 4 (by decide), ne 2 3 (by decide), ne 2 0 (by decide), List.mem_cons_self, ?_, ?_, ne 2 1 (by decide), List.mem_cons_self, ?_, ?_, ?_, ?_⟩
        · exact fun m => (List.mem_cons.mp m).elim (ne 4 0 (by decide)) (nin1 4)
        · exact fun m => (List.mem_cons.mp m).elim (ne 3 0 (by decide)) (nin1 3)
        · exact fun m => (List.mem_cons.mp m).elim (ne 4 1 (by decide)) (nin2 4)
        · exact fun m => (List.mem_cons.mp m).elim (ne 3 1 (by decide)) (nin2 3)
        · exact fun m => (List.mem_cons.mp m).elim (ne 0 1 (by decide)) (nin2 0)
        · exact fun m => (List.mem_cons.mp m).elim (ne 1 0 (by decide)) (nin1 1)
      exact ⟨s1.heap.objs.size + 4, [s1.heap.objs.size + 4, s1.heap.objs.size + 2, s1.heap.objs.size + 3, s1.heap.objs.size, s1.heap.objs.size + 1], _, _, H1, rfl, I2, turn_zipX D (nin1 0) (nin2 1), ⟨hz, hTI, ⟨_, _, hTO⟩, it1 _ _ g1, it2 _ _ g2⟩, fresh5, q⟩
theorem walk_zipX {K : Fr} {S S' : Src} {xs ys : List V} {n : Nat} (hn : n = min xs.length ys.length) : Walk (ItzX K S S') n (fun H => S.At K H xs ∧ S'.At K H ys) (YPair (fun i => xs[i]?) (fun i => ys[i]?)) := by
  refine ⟨fun i _ hi q => ⟨xs, ys, xs[i]'(by omega), ys[i]'(by omega), q.1, q.2, List.getElem?_eq_getElem _, List.getElem?_eq_getElem _⟩, fun _ q => ⟨xs, ys, q.1, q.2, by omega, by omega, by omega⟩, fun i H v H2 _ q y => ?_⟩
  obtain ⟨T, x, y, h1, h2, h3, h4, h5⟩ := y
  exact ⟨T, x, y, h1, h2, h3, h4 xs q.1, h5 ys q.2⟩
end Pk
/-! ## Dict comprehensions that change nothing -/
namespace Pk
open PySem PySem.Spec PyProof.Rows L2
theorem b_sorted : bootBuiltins "sorted" = some (.builtin "sorted") := by decide +kernel
theorem b_sum : bootBuiltins "sum" = some (.builtin "sum") := by decide +kernel
theorem pe_joinK {X : Cx} (K : Fr) {o e : Expr} {to te : TE} {apos pos : Pos} (ho : PE X o to) (he : PE X e te) (hs : starEach [e] X.env = [(false, eval e X.env)] := by rfl) (hbase : attributeBase o "join" X.env (eval o X.env) = eval o X.env := by rfl) (hline : (apos.endLine == pos.line) = true := by rfl) (h : X.K = K := by rfl) :
    PE X (.Call (.Attribute o "join" apos) [e] [] pos) (tM1 (fun x xs H Q => ∃ a p, ∃ ys : List Str, x = .str a ∧ xs = [.ref p] ∧ (SqL K H p (ys.map V.str) ∨ SqT K H p (ys.map V.str)) ∧
      (ys.map (·.length)).sum + ys.length * a.length ≤ 16777216 ∧ Q (.str (Txt.join a ys)) H) to te) := by
  subst h
  exact pe_join ho he hs hbase hline
def keepsK (n : Nat) (f : Nat → Bool) (k : Nat → Key) (v : Nat → V) : List (Key × V) := ((List.range n).filter f).map fun i => (k i, v i)
theorem keepsK_succ (n : Nat) (f : Nat → Bool) (k : Nat → Key) (v : Nat → V) : keepsK (n + 1) f k v = if f n = true then keepsK n f k v ++ [(k n, v n)] else keepsK n f k v := by
  unfold keepsK
  rw [List.range_succ, List.filter_append]
  by_cases h : f n = true
  · simp [h]
  · simp [h]
theorem keepsK_le (n : Nat) (f : Nat → Bool) (k : Nat → Key) (v : Nat → V) : (keepsK n f k v).length ≤ n := by
  unfold keepsK
  rw [List.length_map]
  exact Nat.le_trans (List.length_filter_le _ _) (by simp)
theorem valV_none {kvs : List (Key × V)} {k : Key} (h : ∀ p ∈ kvs, p.1 ≠ k) : valV kvs k = none := by
  induction kvs with
  | nil => rfl
  | cons p r ih =>
    rw [valV_neg (h p List.mem_cons_self)]
    exact ih fun q hq => h q (List.mem_cons_of_mem _ hq)
section
variable {J : It} {n : Nat} {G : Hp → Prop} {Y : Nat → Hp → V → Hp → Prop} {g : TG} {tk tv : TE} {tt : TT} {vs : List Nat} {σ : L2.St} {H1 : Hp} {D : Addr} {Qd : Hp → Prop}
theorem dc_keep (w : Walk J n G Y) (hD : H1 D = none) (f : Nat → Bool) (k : Nat → Key) (v : Nat → V) (hn : n ≤ sizeLine) (inj : ∀ i j, i < j → j < n → f i = true → f j = true → k i ≠ k j) (hG : ∀ H, Same H1 H → G H)
    (hs : ∀ i x H H2 (N : V → VK) (N0 : Hp → Prop), i < n → Same H1 H → Y i H x H2 → (f i = true → ∀ H5, Same H H5 → N (kV (k i)) (v i) H5) → (f i = false → ∀ H5, Same H H5 → N0 H5) →
      g x (wipe σ vs) H2 fun σ2 H3 => wipe σ2 vs = wipe σ vs ∧ tt σ2 H3 fun b H4 => if b = true then tk σ2 H4 fun y H5 => tv σ2 H5 (N y) else N0 H4)
    (hd : ∀ H, Same H1 H → H D = some (.dK (keepsK n f k v)) → Qd H) :
    ∃ W : Nat → Nat → Hp → Prop, (∃ m, W 0 m (upd H1 D (.dK []))) ∧ ∀ i m H, W i m H →
      (J.stop i H ∧ Qd H) ∨ (J.go i H ∧ ∃ Nx : Hp → Prop, (∀ H', Nx H' → ∃ m', m' < m ∧ W (i + 1) m' H') ∧ ∀ x H', J.yld i H x H' → g x (wipe σ vs) H' fun σ2 H2 => wipe σ2 vs = wipe σ vs ∧ tt σ2 H2 fun b H3 =>
        if b = true then tk σ2 H3 fun y H4 => tv σ2 H4 fun z H5 => ∃ kvs k, y = kV k ∧ H5 D = some (.dK kvs) ∧ kvs.length < sizeLine ∧ Nx (upd H5 D (.dK (putK kvs k z))) else Nx H3) := by
  refine ⟨fun i m H => m = n - i ∧ i ≤ n ∧ Same H1 H ∧ H D = some (.dK (keepsK i f k v)), ⟨n, by simp, Nat.zero_le _, same_upd hD, upd_same⟩, ?_⟩
  rintro i m H ⟨rfl, hi, p1, p2⟩
  have q := hG H p1
  by_cases hlt : i < n
  · refine .inr ⟨w.goes i H hlt q, fun H' => Same H1 H' ∧ H' D = some (.dK (keepsK (i + 1) f k v)), fun H' p' => ⟨n - (i + 1), by omega, rfl, hlt, p'⟩, fun x H' y => ?_⟩
    refine hs i x H H' (fun y z H5 => ∃ kvs k, y = kV k ∧ H5 D = some (.dK kvs) ∧ kvs.length < sizeLine ∧ _) _ hlt p1 (w.yields i H x H' hlt q y) (fun hb H5 s5 => ?_) fun hb H5 s5 => ?_
    · refine ⟨_, k i, rfl, s5 _ _ p2, Nat.lt_of_le_of_lt (keepsK_le i f k v) (by omega), same_own (p1.trans s5) hD, ?_⟩
      rw [upd_same, keepsK_succ, if_pos hb, putK_new]
      refine valV_none fun p hp e => ?_
      obtain ⟨j, hj, rfl⟩ := List.mem_map.mp hp
      rw [List.mem_filter, List.mem_range] at hj
      exact inj j i hj.1 hlt hj.2 hb e
    · refine ⟨p1.trans s5, ?_⟩
      rw [s5 _ _ p2, keepsK_succ, hb]
      rfl
  · have e : i = n := by omega
    subst e
    exact .inl ⟨w.stops H q, hd H p1 p2⟩
end
end Pk
/-! ## for in a generator's body -/
namespace Pk
open PySem PySem.Spec PyProof.Rows L2 GenW
section
variable {M : Model} {A : Around} {R : GenEnd} {Y : Protocol} {n : Nat} {s₀ s : Shared} {c : Code} {fs : List Frame} {env : Env}
  {K : Flow → Sem PySem.Fin} {J : Value → Sem PySem.Fin} {gd : Bool → Bool} {lv : List Value → List Value}
theorem segw_bind {α β : Type} {m : Sem α} {f : α → Sem β} {K : β → Sem PySem.Fin}
    (h : wpAny M (A.over c fs) m (fun a s' => Seg M A R Y n s₀ c ((f a).wrap K J gd lv) fs s') (fun x s' => Seg M A R Y n s₀ c (J x) fs s') s) :
    Seg M A R Y n s₀ c ((m >>= f).wrap K J gd lv) fs s := by
  rw [Sem.bind_eq_wrap' m f, Sem.wrap_wrap]
  exact seg_wrap h
theorem seg_For {target iter : Expr} {body orelse : List Stmt} {pos : Pos} (hs : ∀ x, foldedSetIterable iter env x = pure x)
    (h : wpAny M (A.over c fs) (eval iter env) (fun x s1 => wpAny M (A.over c fs) (pyIter x) (fun it s2 => ∀ p, Seg M A R Y n s₀ (.forLoop target it body orelse env) (M.den (.forLoop target it body orelse env))
      (.ret (fun r => ((match r with | .ok f => (.pure f : Sem Flow) | .error e => .raise e).onRaise (cameBack env)).wrap K J gd lv) none (gd false) (lv []) c p [] :: fs) s2)
      (fun x s' => Seg M A R Y n s₀ c (J x) fs s') s1) (fun x s' => Seg M A R Y n s₀ c (J x) fs s') s) :
    Seg M A R Y n s₀ c ((exec (.For target iter body orelse pos) env).wrap K J gd lv) fs s := by
  rw [exec_For]
  refine segw_bind (wpAny_standAt ?_)
  refine segw_bind (wpAny_mono h (fun x s1 h1 => ?_) fun _ _ z => z)
  refine segw_bind (wpAny_of_eq (hs x) ?_)
  refine segw_bind (wpAny_standAt ?_)
  refine segw_bind (wpAny_holding (wpAny_mono h1 (fun it s2 h2 => ?_) fun _ _ z => z))
  exact seg_call h2
end
section
variable {prog : Program} {w : World} {A : Around} {R : GenEnd} {Y : Protocol} {n : Nat} {s₀ : Shared} {fs : List Frame} {s : Shared} {env : Env}
abbrev noted (env : Env) (e : Value) : Sem PySem.Fin := (do noteFrame e env; theTreesLotGoes e : Sem Unit).wrap (fun _ => .raise e) .raise id id
theorem seg_forLoop {target : Expr} {it : Value} {body : List Stmt}
    (h : wpAny (model prog w) (A.over (.forLoop target it body [] env) fs) (pyNext it) (fun r s1 => match r with
        | none => Seg (model prog w) A R Y n s₀ (.block [] env) (.pure (.done .next)) fs s1
        | some v => wpAny (model prog w) (A.over (.forLoop target it body [] env) fs) (letOwnedTupleGo target it v) (fun _ s2 =>
          wpAny (model prog w) (A.over (.forLoop target it body [] env) fs) (assign target env v) (fun _ s3 =>
            Seg (model prog w) A R Y n s₀ (.forLoop target it body [] env) ((execs body env).wrap (fun f => match f with
              | .next | .cont => .pure (.again (.forLoop target it body [] env))
              | .brk => .pure (.done .next)
              | .ret v => .pure (.done (.ret v))) (noted env) id id) fs s3)
            (fun x s' => Seg (model prog w) A R Y n s₀ (.forLoop target it body [] env) (noted env x) fs s') s2)
          (fun x s' => Seg (model prog w) A R Y n s₀ (.forLoop target it body [] env) (noted env x) fs s') s1)
      (fun x s' => Seg (model prog w) A R Y n s₀ (.forLoop target it body [] env) (noted env x) fs s') s) :
    Seg (model prog w) A R Y n s₀ (.forLoop target it body [] env) ((model prog w).den (.forLoop target it body [] env)) fs s := by
  show Seg _ A R Y n s₀ _ ((forTurn target it body [] env).onRaise (fun x => do noteFrame x env; theTreesLotGoes x)) fs s
  have eH : (fun e : Value => (do noteFrame e env; theTreesLotGoes e : Sem Unit).bind fun _ => (Sem.raise e : Sem PySem.Fin)) = noted env := by
    funext e
    exact Sem.bind_eq_wrap _ _
  rw [Sem.onRaise_eq_wrap, eH]
  unfold forTurn
  refine segw_bind (wpAny_standAt ?_)
  refine segw_bind (wpAny_onRaise (wpAny_mono h (fun r s1 h1 => ?_) fun _ _ z => wpAny_standAt z))
  cases r with
  | none => exact seg_again rfl h1
  | some v =>
    refine segw_bind (wpAny_mono h1 (fun _ s2 h2 => ?_) fun _ _ z => z)
    refine segw_bind (wpAny_mono h2 (fun _ s3 h3 => ?_) fun _ _ z => z)
    rw [Sem.bind_eq_wrap', Sem.wrap_wrap]
    refine Eq.mp (congrArg (fun t => Seg (model prog w) A R Y n s₀ (Code.forLoop target it body [] env) t fs s3) (Sem.wrap_congr (execs body env) _ _ ?_ ?_)) h3
    · intro f
      cases f <;> rfl
    · intro e
      rfl
end
def tGFor (wi : TI) (g : TG) (tb : TGn) : TGn := fun D ys σ H => wi σ H fun J H1 => ∃ W : Nat → Nat → List V → L2.St → Hp → Prop, (∃ m, W 0 m ys σ H1) ∧ ∀ i m ys σ H, W i m ys σ H →
  (J.stop i H ∧ D.nx ys σ H) ∨ (J.go i H ∧ ∃ N : List V → L2.St → Hp → Prop, (∀ ys' σ' H', N ys' σ' H' → ∃ m', m' < m ∧ W (i + 1) m' ys' σ' H') ∧ ∀ x H', J.yld i H x H' → g x σ H' fun σ2 H2 => tb { D with nx := N, ct := N, bk := D.nx } ys σ2 H2)
theorem gs_for {X : Cx} {tg iter : Expr} {body : List Stmt} {wi : TI} {g : TG} {tb : TGn} {pos : Pos} (hp : PassesOwn (model X.prog X.w) X.A X.env X.xe) (hc : X.calm = true) (hi : PI X tg iter wi) (hg : PG X tg g) (hb : GSs X body tb)
    (hs : ∀ x, foldedSetIterable iter X.env x = pure x := by intro _; rfl) : GS X (.For tg iter body [] pos) (tGFor wi g tb) := by
  refine ⟨fun A S ip R n ys s₀ c fs K J gd lv s σ H D gc hn k hI ht => ?_⟩
  obtain ⟨acc, cc, r, I⟩ := hI
  refine seg_For hs ?_
  rw [gc.over]
  refine wpAny_mono (hi.run _ s σ H _ I ht) (fun v s1 h1 => wpAny_mono h1 (fun itv s2 h2 => ?_) fun x s' hx => k.exc _ s₀ x s' hx) fun x s' hx => k.exc _ s₀ x s' hx
  intro p
  obtain ⟨it, fp, tn, JJ, H2, e, I2, T, st2, f2, W, ⟨m0, w0⟩, turn⟩ := h2
  subst e
  have f2S : ∀ b ∈ fp, S ≠ b := fun b hb' => (f2 b hb').2.2.2.2.2 (S, lstObj acc cc) (List.mem_append_right _ List.mem_cons_self)
  have stat : ∀ {H' : Hp} {acc' : Array Value} {cc' : Nat}, (∀ b ∈ fp, H' b = none) → ∀ b ∈ fp, FpOk X ((S, lstObj acc' cc') :: ip) H' b := fun {H' acc' cc'} hn' b hb' => by
    obtain ⟨_, q1, q2, q3, q4, q5⟩ := f2 b hb'
    refine ⟨hn' b hb', q1, q2, q3, q4, fun p hp' => ?_⟩
    rcases List.mem_append.mp hp' with z | z
    · exact q5 p (List.mem_append_left _ z)
    · rcases List.mem_cons.mp z with z | z
      · rw [z]; exact f2S b hb'
      · exact q5 p (List.mem_append_right _ (List.mem_cons_of_mem _ z))
  have gl := fun (kk : Result → Sem PySem.Fin) => gc_loop (k := kk) (c' := .forLoop tg (.ref it) body [] X.env) (l := lv []) (kp := []) (p := p) gc rfl rfl
  have gk := gl (fun r => ((match r with | .ok f => (.pure f : Sem Flow) | .error e => .raise e).onRaise (cameBack X.env)).wrap K J gd lv)
  have ee : ∀ (n : Nat) (s₀ : Shared) (x : Value) (s' : Shared), X.xe x s' → Seg (model X.prog X.w) A R (GY X S) n s₀ (.forLoop tg (.ref it) body [] X.env) (noted X.env x)
      (.ret (fun r => ((match r with | .ok f => (.pure f : Sem Flow) | .error e => .raise e).onRaise (cameBack X.env)).wrap K J gd lv) none (gd false) (lv []) c p [] :: fs) s' := fun n s₀ x s' hx => by
    refine seg_wrap ?_
    rw [(gl _).over]
    refine wpAny_bind (wpAny_mono (hp x s' hx) (fun _ s'' hcb => wpAny_theTreesLotGoes ?_) fun y s'' hcb => ?_)
    · exact seg_leaf (.error x) (seg_cameBack gc k hcb)
    · exact seg_leaf (.error y) (seg_cameBack gc k hcb)
  have loop : ∀ (m i n : Nat) (ys : List V) (s₀ s : Shared) (σ : L2.St) (H : Hp), n + ys.length = sizeLine → W i m ys σ H → GI X S ip ys σ H s → tn i s.heap → (∀ b ∈ fp, H b = none) →
      Seg (model X.prog X.w) A R (GY X S) n s₀ (.forLoop tg (.ref it) body [] X.env) ((model X.prog X.w).den (.forLoop tg (.ref it) body [] X.env))
        (.ret (fun r => ((match r with | .ok f => (.pure f : Sem Flow) | .error e => .raise e).onRaise (cameBack X.env)).wrap K J gd lv) none (gd false) (lv []) c p [] :: fs) s := by
    intro m
    induction m using Nat.strongRecOn with
    | ind m ih =>
      intro i n ys s₀ s σ H hn w hI st fr
      refine seg_forLoop ?_
      rw [(gl _).over]
      obtain ⟨acc, cc, r, I⟩ := hI
      rcases turn i m ys σ H w with ⟨stop, qn⟩ | ⟨go, N, hN, step⟩
      · refine wpAny_mono (T.done X rfl rfl rfl hc i _ s σ H X.xe I (stat fr) st stop) (fun rr s4 h4 => ?_) fun x s' hx => ee n s₀ x s' hx
        obtain ⟨hr, I4⟩ := h4
        subst hr
        exact seg_leaf (.ok .next) (k.ok n ys s₀ s4 .next hn ⟨σ, H, ⟨acc, cc, r, I4⟩, qn⟩)
      · refine wpAny_mono (T.item X rfl rfl rfl hc i _ s σ H X.xe I (stat fr) st go) (fun rr s4 h4 => ?_) fun x s' hx => ee n s₀ x s' hx
        obtain ⟨u, hr, h4⟩ := h4
        subst hr
        refine wpAny_mono h4 (fun _ s5 h5 => ?_) fun x s' hx => ee n s₀ x s' hx
        obtain ⟨x, H5, I5, r5, y5, st5, fr5⟩ := h5
        have I5' := I5.pinned (stat fr5) (T.obj _ _ st5)
        refine wpAny_mono (hg.run _ s5 σ H5 x u _ I5' r5 (step x H5 y5)) (fun _ s6 h6 => ?_) fun x s' hx => ee n s₀ x s' hx
        obtain ⟨σ6, H6, I6, q6⟩ := h6
        have G6 : GI X S (ip ++ pinsAt fp s5.heap) ys σ6 H6 s6 := ⟨acc, cc, r, I6⟩
        have gc2 : GC X S (ip ++ pinsAt fp s5.heap) A (.forLoop tg (.ref it) body [] X.env) (.ret (fun r => ((match r with | .ok f => (.pure f : Sem Flow) | .error e => .raise e).onRaise (cameBack X.env)).wrap K J gd lv) none (gd false) (lv []) c p [] :: fs) id :=
          ⟨gk.pn, fun q hq => by
            rcases List.mem_append.mp hq with z | z
            · exact gk.ip q z
            · exact (f2S _ (of_pinsAt z).1).symm, gk.apart, gk.over, gk.split, gk.guard, rfl⟩
        have drop : ∀ {ys7 : List V} {σ7 : L2.St} {H7 : Hp} {s7 : Shared}, GI X S (ip ++ pinsAt fp s5.heap) ys7 σ7 H7 s7 → GI X S ip ys7 σ7 H7 s7 := fun {ys7 σ7 H7 s7} h => by
          obtain ⟨acc7, cc7, r7, I7⟩ := h
          have I7' : Inv X (((S, lstObj acc7 cc7) :: ip) ++ pinsAt fp s5.heap) σ7 H7 s7 := I7
          exact ⟨acc7, cc7, r7, I7'.unpinned⟩
        have again : ∀ {n7 : Nat} {ys7 : List V} {σ7 : L2.St} {H7 : Hp} {s07 s7 : Shared}, n7 + ys7.length = sizeLine → GI X S (ip ++ pinsAt fp s5.heap) ys7 σ7 H7 s7 → N ys7 σ7 H7 → Seg (model X.prog X.w) A R (GY X S) n7 s07 (.forLoop tg (.ref it) body [] X.env) (.pure (.again (.forLoop tg (.ref it) body [] X.env)))
            (.ret (fun r => ((match r with | .ok f => (.pure f : Sem Flow) | .error e => .raise e).onRaise (cameBack X.env)).wrap K J gd lv) none (gd false) (lv []) c p [] :: fs) s7 := fun {n7 ys7 σ7 H7 s07 s7} hn7 h n7' => by
          obtain ⟨m', hm, w7⟩ := hN ys7 σ7 H7 n7'
          have h' := h
          obtain ⟨acc7, cc7, r7, I7⟩ := h
          refine seg_again rfl (ih m' hm (i + 1) n7 ys7 s07 s7 σ7 H7 hn7 w7 (drop h') (T.keep _ _ _ st5 fun b hb' o e => (I7.pin (b, o) (List.mem_append_right _ (List.mem_cons_of_mem _ (List.mem_append_right _ (mem_pinsAt hb' e))))).1) fun b hb' => ?_)
          obtain ⟨o, e, d⟩ := T.obj _ _ st5 b hb'
          exact (I7.pin (b, o) (List.mem_append_right _ (List.mem_cons_of_mem _ (List.mem_append_right _ (mem_pinsAt hb' e))))).2.1
        refine hb.run A S (ip ++ pinsAt fp s5.heap) R n ys s₀ _ _ _ _ id id s6 σ6 H6 { D with nx := N, ct := N, bk := D.nx } gc2 hn ⟨fun n' ys' s₀' s3 f hn' hs' => ?_, fun n' s₀' x s3 hx => ee n' s₀' x s3 hx⟩ G6 q6
        cases f with
        | next =>
          obtain ⟨σ3, H3, I3, n3⟩ := hs'
          exact again hn' I3 n3
        | cont =>
          obtain ⟨σ3, H3, I3, n3⟩ := hs'
          exact again hn' I3 n3
        | brk =>
          obtain ⟨σ3, H3, I3, n3⟩ := hs'
          exact seg_leaf (.ok .next) (k.ok n' ys' s₀' s3 .next hn' ⟨σ3, H3, drop I3, n3⟩)
        | ret v =>
          obtain ⟨v3, σ3, H3, I3, r3, n3⟩ := hs'
          exact seg_leaf (.ok (.ret v)) (k.ok n' ys' s₀' s3 (.ret v) hn' ⟨v3, σ3, H3, drop I3, r3, n3⟩)
  exact loop m0 0 n ys s₀ s2 σ H2 hn w0 ⟨acc, cc, r, I2⟩ st2 fun b hb' => (f2 b hb').1
/-- a loop over it: Pv by the turn, what is out, the slots and the heap -/
theorem gfor_it {J : It} {n : Nat} {G : Hp → Prop} {Y : Nat → Hp → V → Hp → Prop} (w : Walk J n G Y) {g : TG} {tb : TGn} {D : GEnds} {ys : List V} {σ : L2.St} {H : Hp} (Pv : Nat → List V → L2.St → Hp → Prop) (h0 : Pv 0 ys σ H) (hG : ∀ i ys σ H, i ≤ n → Pv i ys σ H → G H)
    (hs : ∀ i x ys σ H H', i < n → Pv i ys σ H → Y i H x H' → g x σ H' fun σ2 H2 => tb { D with nx := Pv (i + 1), ct := Pv (i + 1), bk := D.nx } ys σ2 H2) (hd : ∀ ys σ H, Pv n ys σ H → D.nx ys σ H) :
    ∃ W : Nat → Nat → List V → L2.St → Hp → Prop, (∃ m, W 0 m ys σ H) ∧ ∀ i m ys σ H, W i m ys σ H →
      (J.stop i H ∧ D.nx ys σ H) ∨ (J.go i H ∧ ∃ N : List V → L2.St → Hp → Prop, (∀ ys' σ' H', N ys' σ' H' → ∃ m', m' < m ∧ W (i + 1) m' ys' σ' H') ∧ ∀ x H', J.yld i H x H' → g x σ H' fun σ2 H2 => tb { D with nx := N, ct := N, bk := D.nx } ys σ2 H2) := by
  refine ⟨fun i m ys σ H => m = n - i ∧ i ≤ n ∧ Pv i ys σ H, ⟨n, by simp, Nat.zero_le _, h0⟩, ?_⟩
  rintro i m ys σ H ⟨rfl, hi, p⟩
  have q := hG i ys σ H hi p
  by_cases hlt : i < n
  · exact .inr ⟨w.goes i H hlt q, Pv (i + 1), fun ys' σ' H' p' => ⟨n - (i + 1), by omega, rfl, hlt, p'⟩, fun x H' y => hs i x ys σ H H' hlt p (w.yields i H x H' hlt q y)⟩
  · have e : i = n := by omega
    subst e
    exact .inl ⟨w.stops H q, hd ys σ H p⟩
/-- the generator def at f keeps sp (nothing is raised) -/
def Gp (P : Program) (w : World) (K : PySem.W.Frag) (mg : Str → Option Value) (base : Heap) (k : Nat) (f : Addr) (sp : SpG) : Prop := ∃ fd ps, GFn P w K mg base k f fd ps sp ∧ Binds K fd ps [] ∧ PySem.W.keepIn K (.ref f) = true
theorem gp_of {P : Program} {w : World} {K : PySem.W.Frag} {mg : Str → Option Value} {base : Heap} {k : Nat} {f : Addr} {sp : SpG} {x qual : Str} {st : Stmt} {kws : List (Str × V)} {N ps : List Str} (D : ∃ fd, FunD K x qual (defArgs st) (defBody st) (defScope st) [] kws f fd) (S : GScope N ps (defScope st))
    (hb : ∀ (kV doc pm : Value) (an : Option Addr) (cdv ct : Value) (us : List Value), us.length = ps.length → bindArgs (PySem.W.fnOf x qual (defArgs st) (defBody st) (defScope st) .none kV doc pm an cdv ct) ⟨us, []⟩ = pure (ps.zip us))
    (len : ∀ vs H Q E, sp vs H Q E → vs.length = ps.length)
    (hbody : ∀ (cdv : Value) (A : Around) (outer : List Env) (s : Shared) (H : Hp) (vs : List V) (Q : List V → Hp → Prop) (E : XK) (pn : List (Addr × Obj)), Room k (A.deeper (envOfC qual (defScope st) s.heap.objs.size f cdv)) → sp vs H Q E →
      ∃ t, GSs (gcxOf P w K mg base N qual (defScope st) f cdv A outer s H E pn) (defBody st) t ∧ t { nx := fun ys _ H' => Q ys H', rt := fun ys v H' => v = .non ∧ Q ys H' } [] (start N vs) H) : Gp P w K mg base (k + 1) f sp := by
  obtain ⟨fd, F⟩ := D
  refine ⟨fd, ps, ?_, F.bindsN hb, F.kp⟩
  obtain ⟨oc, od, dV, kV, doc, pm, an, cdv, ct, osl, rfl, lk, hcd, _, _⟩ := F.ex
  exact gfn_of lk hcd S len fun A outer s H vs Q E pn hr h => hbody cdv A outer s H vs Q E pn hr h
/-- list(f(..)), f a generator def -/
theorem pe_listG0 {X : Cx} {k : Nat} {f : Addr} {sp : SpG} {x : Str} {p p2 pos pos2 : Pos} {e : Expr} {es : List Expr} {t : TA} (G : Gp X.prog X.w X.K X.mg X.base k f sp) (hr : Room (k + 3) X.A) (hm : X.mg x = some (.ref f)) (hl : X.mg ("list" : Str) = none) (ha : PA X (e :: es) t)
    (hg : Gl X x := by rfl) (hgl : Gl X "list" := by rfl) (hdb : (x == ("__debug__" : Str)) = false := by decide)
    (he : starEach (e :: es) X.env = (false, eval e X.env) :: starEach es X.env := by rfl) (hpl : (backTo pos2 (starEach es X.env)).any (·.1) = false := by rfl)
    (he2 : starEach [.Call (.Name x p2) (e :: es) [] pos2] X.env = (false, eval (.Call (.Name x p2) (e :: es) [] pos2) X.env) :: starEach [] X.env := by rfl) :
    PE X (.Call (.Name "list" p) [.Call (.Name x p2) (e :: es) [] pos2] [] pos) (tListG (tCallG sp [] E0 t)) := by
  obtain ⟨fd, ps, F, b, kp⟩ := G
  exact pe_listG (pgen_call F (hr.mono (by omega)) hg hm kp b .nil ha hdb he hpl) passL (fun _ _ _ h => h.elim) hr hgl hl b_list (by decide) (by decide) he2
end Pk
/-! ## == of flat lists and tuples -/
namespace Pk
open PySem PySem.Spec PyProof.Rows L2
def dOf : V → PyData
  | .int i => .int i
  | .str z => .str z
  | _ => .none
def okV : V → Bool
  | .int _ => true
  | .non => true
  | .str z => PyData.strOk z
  | _ => false
theorem dOf_dp {K : Fr} {H : Hp} {x : V} (h : okV x = true) : Dp K H x (dOf x) := by
  cases x with
  | non => exact .non
  | int i => exact .int i
  | str z => exact .str z
  | _ => cases h
theorem dOf_dpA {K : Fr} {H : Hp} : ∀ {xs : List V}, xs.all okV = true → DpAll K H xs (xs.map dOf)
  | [], _ => .nil
  | x :: r, h => by
    rw [List.all_cons, Bool.and_eq_true] at h
    exact .cons (dOf_dp h.1) (dOf_dpA h.2)
theorem dOf_lay {x : V} (h : okV x = true) : (dOf x).canLay0 = true := by
  cases x with
  | non => simp [dOf, PyData.canLay0]
  | int i => simp [dOf, PyData.canLay0]
  | str z =>
    simp only [dOf, PyData.canLay0]
    exact h
  | _ => cases h
theorem dOf_layA : ∀ {xs : List V}, xs.all okV = true → PyData.canLayAll0 (xs.map dOf) = true
  | [], _ => by simp [PyData.canLayAll0]
  | x :: r, h => by
    rw [List.all_cons, Bool.and_eq_true] at h
    rw [List.map_cons]
    simp [PyData.canLayAll0, dOf_lay h.1, dOf_layA h.2]
theorem dOf_depth (x : V) : (dOf x).depth = 0 := by cases x <;> simp [dOf, PyData.depth]
theorem dOf_depthA : ∀ xs : List V, PyData.depthAll (xs.map dOf) ≤ 1
  | [] => by simp [PyData.depthAll]
  | x :: r => by
    have := dOf_depthA r
    have h2 := dOf_depth x
    rw [List.map_cons]
    simp only [PyData.depthAll, h2]
    omega
theorem shapedL {xs : List V} (h : xs.all okV = true) : SeqAt.shaped (.list (xs.map dOf)) = true := by
  have h1 := dOf_depthA xs
  have h2 : PyData.depth (.list (xs.map dOf)) ≤ 64 := by simp only [PyData.depth]; omega
  show (PyData.canLay0 (.list (xs.map dOf)) && decide (PyData.depth (.list (xs.map dOf)) ≤ 64)) = true
  rw [decide_eq_true h2, Bool.and_true]
  simp only [PyData.canLay0]
  exact dOf_layA h
theorem shapedT {xs : List V} (h : xs.all okV = true) : SeqAt.shaped (.tuple (xs.map dOf)) = true := by
  have h1 := dOf_depthA xs
  have h2 : PyData.depth (.tuple (xs.map dOf)) ≤ 64 := by simp only [PyData.depth]; omega
  show (PyData.canLay0 (.tuple (xs.map dOf)) && decide (PyData.depth (.tuple (xs.map dOf)) ≤ 64)) = true
  rw [decide_eq_true h2, Bool.and_true]
  simp only [PyData.canLay0]
  exact dOf_layA h
theorem dOf_eqv {x y : V} (h1 : okV x = true) (h2 : okV y = true) : PyData.eqv (dOf x) (dOf y) = decide (x = y) := by
  cases x <;> cases y <;> first | (cases h1; done) | (cases h2; done) | skip
  all_goals rw [Bool.eq_iff_iff]
  all_goals simp [dOf, PyData.eqv]
theorem dOf_eqvA : ∀ {xs ys : List V}, xs.all okV = true → ys.all okV = true → PyData.eqvAll (xs.map dOf) (ys.map dOf) = decide (xs = ys)
  | [], [], _, _ => by simp [PyData.eqvAll]
  | [], _ :: _, _, _ => by simp [PyData.eqvAll]
  | _ :: _, [], _, _ => by simp [PyData.eqvAll]
  | x :: r, y :: s, h1, h2 => by
    rw [List.all_cons, Bool.and_eq_true] at h1 h2
    rw [List.map_cons, List.map_cons]
    show (PyData.eqv (dOf x) (dOf y) && PyData.eqvAll (r.map dOf) (s.map dOf)) = _
    rw [dOf_eqv h1.1 h2.1, dOf_eqvA h1.2 h2.2, Bool.eq_iff_iff]
    simp
def rEqF (K : Fr) : R2 := fun x y H Q => ∃ a b xs ys, x = .ref a ∧ y = .ref b ∧ ((SqL K H a xs ∧ SqL K H b ys) ∨ (SqT K H a xs ∧ SqT K H b ys)) ∧ xs.all okV = true ∧ ys.all okV = true ∧ Q (.bl (decide (xs = ys))) H
def rNeF (K : Fr) : R2 := fun x y H Q => ∃ a b xs ys, x = .ref a ∧ y = .ref b ∧ ((SqL K H a xs ∧ SqL K H b ys) ∨ (SqT K H a xs ∧ SqT K H b ys)) ∧ xs.all okV = true ∧ ys.all okV = true ∧ Q (.bl (!decide (xs = ys))) H
section
variable {X : Cx}
theorem eqF (K : Fr) (hu : X.A.units + 64 < cLine) (h : X.K = K := by rfl) : OpR X (compareOp .Eq) (rEqF K) := by
  subst h
  intro pins s σ H x y v u Q I rx ry ⟨a, b, xs, ys, ex, ey, hs, ox, oy, q⟩
  rcases hs with ⟨s1, s2⟩ | ⟨s1, s2⟩
  · refine op_eqD hu pins s σ H x y v u Q I rx ry ⟨.list (xs.map dOf), .list (ys.map dOf), ex ▸ .lst s1 (dOf_dpA ox), ey ▸ .lst s2 (dOf_dpA oy), shapedL ox, shapedL oy, ?_⟩
    simp only [PyData.eqv]
    rw [dOf_eqvA ox oy]
    exact q
  · refine op_eqD hu pins s σ H x y v u Q I rx ry ⟨.tuple (xs.map dOf), .tuple (ys.map dOf), ex ▸ .tup s1 (dOf_dpA ox), ey ▸ .tup s2 (dOf_dpA oy), shapedT ox, shapedT oy, ?_⟩
    simp only [PyData.eqv]
    rw [dOf_eqvA ox oy]
    exact q
theorem neF (K : Fr) (hu : X.A.units + 64 < cLine) (h : X.K = K := by rfl) : OpR X (compareOp .NotEq) (rNeF K) := by
  subst h
  intro pins s σ H x y v u Q I rx ry ⟨a, b, xs, ys, ex, ey, hs, ox, oy, q⟩
  rcases hs with ⟨s1, s2⟩ | ⟨s1, s2⟩
  · refine op_neD hu pins s σ H x y v u Q I rx ry ⟨.list (xs.map dOf), .list (ys.map dOf), ex ▸ .lst s1 (dOf_dpA ox), ey ▸ .lst s2 (dOf_dpA oy), shapedL ox, shapedL oy, ?_⟩
    simp only [PyData.eqv]
    rw [dOf_eqvA ox oy]
    exact q
  · refine op_neD hu pins s σ H x y v u Q I rx ry ⟨.tuple (xs.map dOf), .tuple (ys.map dOf), ex ▸ .tup s1 (dOf_dpA ox), ey ▸ .tup s2 (dOf_dpA oy), shapedT ox, shapedT oy, ?_⟩
    simp only [PyData.eqv]
    rw [dOf_eqvA ox oy]
    exact q
def rEqB (K : Fr) : R2 := fun x y H Q => rEq x y H Q ∨ rEqF K x y H Q ∨ rEqD K x y H Q ∨ rEqDA x y H Q
theorem eqB (K : Fr) (hu : X.A.units + 64 < cLine) (h : X.K = K := by rfl) : OpR X (compareOp .Eq) (rEqB K) := op_eq.or ((eqF K hu h).or (OpR.or (by subst h; exact op_eqD hu) (op_eq_dictA (by omega))))
def rNeB (K : Fr) : R2 := fun x y H Q => rNe x y H Q ∨ rNeF K x y H Q ∨ rNeD K x y H Q ∨ rNeDA x y H Q
theorem neB (K : Fr) (hu : X.A.units + 64 < cLine) (h : X.K = K := by rfl) : OpR X (compareOp .NotEq) (rNeB K) := op_ne.or ((neF K hu h).or (OpR.or (by subst h; exact op_neD hu) (op_ne_dictA (by omega))))
end
theorem okV_app {xs ys : List V} (h1 : xs.all okV = true) (h2 : ys.all okV = true) : (xs ++ ys).all okV = true := by rw [List.all_append, h1, h2]; rfl
theorem okV_ints (l : List Int) : (l.map V.int).all okV = true := by
  rw [List.all_eq_true]
  intro x hx
  obtain ⟨i, _, rfl⟩ := List.mem_map.mp hx
  rfl
theorem okV_cV (n : Nat) (g : Nat → Int) : (cV n g).all okV = true := by
  rw [List.all_eq_true]
  intro x hx
  obtain ⟨i, _, rfl⟩ := List.mem_map.mp hx
  rfl
end Pk
namespace Pk
open PySem PySem.Spec PyProof.Rows L2
/-! ### text * int -/
theorem foldl_repS (z : List Nat) : ∀ (m : Nat) (acc : List Nat), List.foldl (fun (a b : Array Nat) => a ++ b) acc.toArray (List.replicate m z.toArray) = (acc ++ (List.replicate m z).flatten).toArray
  | 0, acc => by simp
  | m + 1, acc => by
    rw [List.replicate_succ, List.foldl_cons, List.append_toArray, foldl_repS z m (acc ++ z), List.replicate_succ, List.flatten_cons, List.append_assoc]
def rMulS : R2 := fun x y H Q => ∃ (z : List Nat) (n : Int), x = .str (sL z) ∧ y = .int n ∧ 1 ≤ n ∧ n ≤ 1000 ∧ z.length ≤ 10000 ∧ Q (.str (sL (List.replicate n.toNat z).flatten)) H
theorem op_mulS {X : Cx} : OpR X (binaryOp .Mult) rMulS := by
  intro pins s σ H x y v u Q I rx ry ⟨z, n, ex, ey, h1, h2, h3, q⟩
  subst ex ey
  obtain ⟨t, rfl⟩ := rx
  obtain ⟨t2, rfl⟩ := ry
  have hl : (sL z).length = z.length := sL_len z
  refine P.mul_str (by rw [decide_eq_false (by omega), decide_eq_false (by omega)]; rfl) (fun _ _ => ?_) (fun _ _ => ?_) ?_
  · rw [hl]
    have : (2 ^ 63 - 1) / n ≥ (2 ^ 63 - 1) / 1000 := by
      refine Int.le_ediv_of_mul_le (by omega) ?_
      omega
    omega
  · unfold Builtin.Str.tooLong
    rw [hl]
    have a1 : z.length * n.toNat ≤ 10000 * 1000 := Nat.mul_le_mul h3 (by omega)
    exact decide_eq_false (by rw [sizeLine_eq]; omega)
  · rw [if_neg (by omega)]
    by_cases hc : (n == 1 || (sL z).length == 0) = true
    · rw [if_pos hc]
      have e : (List.replicate n.toNat z).flatten = z := by
        rw [Bool.or_eq_true] at hc
        rcases hc with hc | hc
        · have : n = 1 := by simpa using hc
          subst this
          simp
        · have h0 : z = [] := by
            have : (sL z).length = 0 := by simpa using hc
            rw [hl] at this
            exact List.length_eq_zero_iff.mp this
          subst h0
          simp
      rw [e] at q
      exact ⟨.str (sL z), H, I, ⟨t, rfl⟩, q⟩
    · rw [if_neg hc]
      have e : (⟨(List.replicate n.toNat (sL z).cps).foldl (· ++ ·) #[]⟩ : Str) = sL (List.replicate n.toNat z).flatten := by
        have := foldl_repS z n.toNat []
        rw [List.nil_append] at this
        show (⟨List.foldl _ [].toArray (List.replicate n.toNat z.toArray)⟩ : Str) = _
        rw [this]
        rfl
      rw [e]
      refine ⟨?_, .str (sL (List.replicate n.toNat z).flatten), H, I.tok _, ⟨_, rfl⟩, q⟩
      rw [sizeLine_eq]
      show (sL (List.replicate n.toNat z).flatten).length ≤ _
      rw [sL_len]
      simp
      have a1 : n.toNat * z.length ≤ 1000 * 10000 := Nat.mul_le_mul (by omega) h3
      omega
end Pk
namespace Pk
open PySem PySem.Spec PyProof.Rows L2
def rMulB : R2 := fun x y H Q => rI CMul (fun i j => .int (i * j)) x y H Q ∨ rRep x y H Q ∨ rMulS x y H Q
theorem mulB {X : Cx} : OpR X (binaryOp .Mult) rMulB := op_mul.or (op_rep.or op_mulS)
end Pk
namespace Pk
open PySem PySem.Spec PyProof.Rows L2
theorem pe_imp {X : Cx} {e : Expr} {t t' : TE} (h : PE X e t) (i : ∀ σ H Q, t' σ H Q → t σ H Q) : PE X e t' := ⟨fun pins s σ H Q I hw => h.run pins s σ H Q I (i _ _ _ hw)⟩
theorem pe_makeR0 {X : Cx} {CX : CXT} {k : Nat} {f C : Addr} {sp : Sp} {E : XK} {x : Str} {p pos : Pos} (M : Mk X.K C f) (F : FnR X.prog X.w X.K X.mg X.base CX k f sp) (hr : Room (k + 1) X.A) (hg : Gl X x) (hm : X.mg x = some (.ref C)) (hx : Passes CX X E) (hdb : (x == ("__debug__" : Str)) = false := by decide) :
    PE X (.Call (.Name x p) [] [] pos) (StX.tMakeR C sp E tNil) := by
  refine ⟨fun pins s σ H Q I h => ?_⟩
  refine wpAny_Call_Name_kw (ld_glob I hg hm ?_ hdb)
  exact PySem.W.callWith_K0 I.kIn M.kp (StX.run_makeR (us := []) M F hr hx I .nil h)
end Pk
namespace Pk
open PySem PySem.Spec PyProof.Rows L2
def rListK (K : Fr) : List V → Hp → VK → Prop := fun xs H Q => ∃ (p : Addr) (ys : List V), xs = [.ref p] ∧ (SqL K H p ys ∨ SqT K H p ys) ∧ ∀ (l : Addr), H l = none → Q (.ref l) (upd H l (.lst ys))
theorem listK {X : Cx} (K : Fr) (h : X.K = K := by rfl) : CallR X (.type "list") (rListK K) := h ▸ call_list_of
end Pk
namespace Pk
open PySem PySem.Spec PyProof.Rows L2
/-- a comprehension without a test, whatever its step changes -/
theorem lc_all {J : It} {n : Nat} {G : Hp → Prop} {Y : Nat → Hp → V → Hp → Prop} (w : Walk J n G Y) {g : TG} {te : TE} {vs : List Nat} {σ : L2.St} {H1 : Hp} {D : Addr} {Qd : Hp → Prop} (Pv : Nat → Hp → Prop) (h0 : Pv 0 (upd H1 D (.lst []))) (hG : ∀ i H, i ≤ n → Pv i H → G H)
    (hs : ∀ i x H H', i < n → Pv i H → Y i H x H' → g x (wipe σ vs) H' fun σ2 H2 => wipe σ2 vs = wipe σ vs ∧ te σ2 H2 fun y H4 => ∃ acc, H4 D = some (.lst acc) ∧ acc.length < sizeLine ∧ Pv (i + 1) (upd H4 D (.lst (acc ++ [y])))) (hd : ∀ H, Pv n H → Qd H) :
    ∃ W : Nat → Nat → Hp → Prop, (∃ m, W 0 m (upd H1 D (.lst []))) ∧ ∀ i m H, W i m H →
      (J.stop i H ∧ Qd H) ∨ (J.go i H ∧ ∃ Nx : Hp → Prop, (∀ H', Nx H' → ∃ m', m' < m ∧ W (i + 1) m' H') ∧ ∀ x H', J.yld i H x H' → g x (wipe σ vs) H' fun σ2 H2 => wipe σ2 vs = wipe σ vs ∧ tYes σ2 H2 fun b H3 =>
        if b = true then te σ2 H3 fun y H4 => ∃ acc, H4 D = some (.lst acc) ∧ acc.length < sizeLine ∧ Nx (upd H4 D (.lst (acc ++ [y]))) else Nx H3) :=
  lc_it w Pv h0 hG (fun i x H H' hi p y => hs i x H H' hi p y) hd
end Pk
/-! ## Where keys of a kind stand -/
namespace Pk
open PySem L2
def cntP (st : List Stp) (P : Nat → Bool) (p : Nat) : Nat := ((ex st).take p).countP P
theorem cntP_zero (st : List Stp) (P : Nat → Bool) : cntP st P 0 = 0 := rfl
theorem cntP_mono (st : List Stp) (P : Nat → Bool) {p q : Nat} (h : p ≤ q) : cntP st P p ≤ cntP st P q := by
  unfold cntP
  exact List.Sublist.countP_le (List.take_sublist_take_left h)
theorem cnt_cntP (st : List Stp) (k p : Nat) : cnt st k p = cntP st (fun x => x == k) p := rfl
theorem rep_countP (P : Nat → Bool) (seg : List Nat) (n : Nat) : ((List.replicate n seg).flatten).countP P = n * seg.countP P := by
  induction n with
  | zero => simp
  | succ n ih =>
    rw [List.replicate_succ, List.flatten_cons, List.countP_append, ih, Nat.succ_mul]
    omega
theorem part_countP (E : List Nat) (P : Nat → Bool) (f m : Nat) : ((E.drop f).take m).countP P = (E.take (f + m)).countP P - (E.take f).countP P := by
  have e : E.take (f + m) = E.take f ++ (E.drop f).take m := List.take_add
  rw [e, List.countP_append]
  omega
theorem cntP_wr {most : Nat} {st : List Stp} {i : Nat} {w : List Nat} (h : Goes most 0 st) (e : st[i]? = some (.wr w)) (P : Nat → Bool) (m : Nat) (hm : m ≤ w.length) :
    cntP st P (sz (st.take i) + m) = cntP st P (sz (st.take i)) + (List.range' (nk (st.take i)) m).countP P := by
  obtain ⟨A, F, h1, h2, h3, h4⟩ := ex_split h e
  have hA : A = List.range' (nk (st.take i)) w.length := (List.append_cancel_left h2).symm
  unfold cntP
  rw [h1, ← h4, List.take_length_add_append, List.take_left, List.countP_append, List.take_append_of_le_length (by rw [h3]; exact hm), hA]
  congr 1
  have e3 : (List.range' (nk (st.take i)) w.length).take m = List.range' (nk (st.take i)) m := by
    refine List.ext_getElem (by simp; omega) fun j h1 h2 => ?_
    simp
  rw [e3]
theorem cntP_pa {most : Nat} {st : List Stp} {i f l t : Nat} (h : Goes most 0 st) (e : st[i]? = some (.pa f l t)) (P : Nat → Bool) (m : Nat) (hm : m ≤ (l + 1 - f) * t) :
    cntP st P (sz (st.take i) + m) = cntP st P (sz (st.take i)) + (m / (l + 1 - f)) * (cntP st P (l + 1) - cntP st P f) + (cntP st P (f + m % (l + 1 - f)) - cntP st P f) := by
  obtain ⟨A, F, h1, h2, h3, h4⟩ := ex_split h e
  obtain ⟨ok, _⟩ := goes_at h e
  simp [Stp.ok] at ok
  have hA : A = (List.replicate t (((ex (st.take i)).drop f).take (l + 1 - f))).flatten := (List.append_cancel_left h2).symm
  have hseg : (((ex (st.take i)).drop f).take (l + 1 - f)).length = l + 1 - f := by
    rw [List.length_take, List.length_drop, h4]
    omega
  have low : ∀ q, q ≤ sz (st.take i) → (ex st).take q = (ex (st.take i)).take q := fun q hq => by
    rw [h1, List.take_append_of_le_length (by omega)]
  have hmod : m % (l + 1 - f) < l + 1 - f := Nat.mod_lt _ (by omega)
  unfold cntP
  rw [low (l + 1) (by omega), low f (by omega), low (f + m % (l + 1 - f)) (by omega)]
  rw [h1, ← h4, List.take_length_add_append, List.take_left, List.countP_append, List.take_append_of_le_length (by rw [h3]; exact hm), hA, rep_take _ _ _ (by rw [hseg]; exact hm), hseg, List.countP_append, rep_countP, part_countP, List.take_take, Nat.min_eq_left (by omega), part_countP]
  rw [show f + (l + 1 - f) = l + 1 by omega]
  omega
theorem cntP_paI {most : Nat} {st : List Stp} {i f l t : Nat} (h : Goes most 0 st) (e : st[i]? = some (.pa f l t)) (P : Nat → Bool) (m : Nat) (hm : m ≤ (l + 1 - f) * t) :
    (cntP st P (sz (st.take i) + m) : Int) = (cntP st P (sz (st.take i)) : Int) + ((m / (l + 1 - f) : Nat) : Int) * ((cntP st P (l + 1) : Int) - (cntP st P f : Int)) - (cntP st P f : Int) + (cntP st P (f + m % (l + 1 - f)) : Int) := by
  obtain ⟨ok, _⟩ := goes_at h e
  simp [Stp.ok] at ok
  have h1 := cntP_mono st P (show f ≤ l + 1 by omega)
  have h2 := cntP_mono st P (show f ≤ f + m % (l + 1 - f) by omega)
  rw [cntP_pa h e P m hm, ← Int.ofNat_sub h1]
  rw [Int.natCast_add, Int.natCast_add, Int.natCast_mul, Int.ofNat_sub h2]
  omega
theorem keeps_pre {v : Nat → V} {f : Nat → Bool} : ∀ (n m : Nat), m ≤ n → (∀ i, i < n → f i = decide (i < m)) → keeps n f v = (List.range m).map v
  | 0, m, h, _ => by
    have : m = 0 := by omega
    subst this
    rfl
  | n + 1, m, h, hf => by
    rw [keeps_succ]
    by_cases e : m = n + 1
    · subst e
      rw [if_pos (by rw [hf n (by omega)]; simp), keeps_pre n n (Nat.le_refl _) fun i hi => by rw [hf i (by omega), decide_eq_true (by omega), decide_eq_true hi], List.range_succ, List.map_append]
      rfl
    · rw [if_neg (by rw [hf n (by omega)]; simp; omega)]
      exact keeps_pre n m (by omega) fun i hi => hf i (by omega)
theorem sz_take_mono (st : List Stp) {i j : Nat} (h : i ≤ j) : sz (st.take i) ≤ sz (st.take j) := by
  have e : st.take j = st.take i ++ (st.drop i).take (j - i) := by
    rw [← List.take_add, show i + (j - i) = j by omega]
  rw [e, sz_app]
  omega
theorem step_of {st : List Stp} : ∀ (d : Nat) {p : Nat}, 0 < p → p ≤ sz (st.take d) → ∃ m, m < d ∧ m < st.length ∧ sz (st.take m) < p ∧ p ≤ sz (st.take (m + 1))
  | 0, p, h0, h => by simp [sz] at h; omega
  | d + 1, p, h0, h => by
    by_cases h1 : p ≤ sz (st.take d)
    · obtain ⟨m, a, b, c, e⟩ := step_of d h0 h1
      exact ⟨m, by omega, b, c, e⟩
    · refine ⟨d, by omega, ?_, by omega, h⟩
      rcases Nat.lt_or_ge d st.length with z | z
      · exact z
      · rw [List.take_of_length_le (by omega)] at h
        rw [List.take_of_length_le z] at h1
        omega
theorem cntP_all {most : Nat} {st : List Stp} (h : Goes most 0 st) (P : Nat → Bool) {p : Nat} (hp : sz st ≤ p) : cntP st P p = (ex st).countP P := by
  unfold cntP
  rw [List.take_of_length_le (by rw [ex_len _ h]; exact hp)]
theorem cntP_succ {st : List Stp} {P : Nat → Bool} {p k : Nat} (h : (ex st)[p]? = some k) : cntP st P (p + 1) = cntP st P p + if P k = true then 1 else 0 := by
  unfold cntP
  rw [take_succ h, List.countP_append, List.countP_singleton]
/-- two places of such keys with as many ahead are one -/
theorem cntP_inj {st : List Stp} {P : Nat → Bool} {p q k m : Nat} (hp : (ex st)[p]? = some k) (hk : P k = true) (hq : (ex st)[q]? = some m) (hm : P m = true) (e : cntP st P p = cntP st P q) : p = q := by
  have h1 := cntP_succ (P := P) hp
  have h2 := cntP_succ (P := P) hq
  rw [if_pos hk] at h1
  rw [if_pos hm] at h2
  rcases Nat.lt_trichotomy p q with h | h | h
  · have := cntP_mono st P (show p + 1 ≤ q by omega)
    omega
  · exact h
  · have := cntP_mono st P (show q + 1 ≤ p by omega)
    omega
theorem cntP_le (st : List Stp) (P : Nat → Bool) (p : Nat) : cntP st P p ≤ p := by
  unfold cntP
  exact Nat.le_trans (List.countP_le_length) (by rw [List.length_take]; omega)
/-! ### the places themselves -/
def occL (E : List Nat) (P : Nat → Bool) (n : Nat) : List Nat := (List.range n).filter fun p => P (E.getD p 0)
def occ (st : List Stp) (P : Nat → Bool) : List Nat := occL (ex st) P (ex st).length
theorem occL_succ (E : List Nat) (P : Nat → Bool) (n : Nat) : occL E P (n + 1) = occL E P n ++ if P (E.getD n 0) = true then [n] else [] := by
  unfold occL
  rw [List.range_succ, List.filter_append]
  congr 1
  rw [List.filter_cons]
  split <;> simp
theorem occL_len (E : List Nat) (P : Nat → Bool) : ∀ n, n ≤ E.length → (occL E P n).length = (E.take n).countP P
  | 0, _ => by simp [occL]
  | n + 1, h => by
    have e : E[n]? = some (E[n]'(by omega)) := List.getElem?_eq_getElem (by omega)
    have e2 : E.getD n 0 = E[n]'(by omega) := by rw [List.getD_eq_getElem?_getD, e]; rfl
    rw [occL_succ, List.length_append, occL_len E P n (by omega), take_succ e, List.countP_append, List.countP_singleton, e2]
    split <;> rfl
theorem occL_get (E : List Nat) (P : Nat → Bool) : ∀ n, n ≤ E.length → ∀ j p, (occL E P n)[j]? = some p ↔ p < n ∧ P (E.getD p 0) = true ∧ (E.take p).countP P = j
  | 0, _, j, p => by simp [occL]
  | n + 1, h, j, p => by
    have hl := occL_len E P n (by omega)
    rw [occL_succ]
    by_cases hj : j < (occL E P n).length
    · rw [List.getElem?_append_left hj, occL_get E P n (by omega)]
      constructor
      · rintro ⟨a, b, c⟩
        exact ⟨by omega, b, c⟩
      · rintro ⟨a, b, c⟩
        refine ⟨?_, b, c⟩
        rcases Nat.lt_or_ge p n with z | z
        · exact z
        · have : p = n := by omega
          subst this
          omega
    · rw [List.getElem?_append_right (by omega)]
      constructor
      · intro z
        by_cases hP : P (E.getD n 0) = true
        · rw [if_pos hP] at z
          have h0 : j - (occL E P n).length = 0 := by
            rcases Nat.eq_zero_or_pos (j - (occL E P n).length) with y | y
            · exact y
            · rw [List.getElem?_eq_none (by simp; omega)] at z
              cases z
          rw [h0] at z
          have : n = p := by simpa using z
          subst this
          exact ⟨by omega, hP, by omega⟩
        · rw [if_neg hP] at z
          simp at z
      · rintro ⟨a, b, c⟩
        rcases Nat.lt_or_ge p n with z | z
        · have := (occL_get E P n (by omega) j p).mpr ⟨z, b, c⟩
          exact absurd (List.getElem?_eq_some_iff.mp this).1 hj
        · have : p = n := by omega
          subst this
          rw [if_pos b, show j - (occL E P p).length = 0 by omega]
          rfl
theorem occ_get {st : List Stp} {P : Nat → Bool} {j p : Nat} : (occ st P)[j]? = some p ↔ ∃ k, (ex st)[p]? = some k ∧ P k = true ∧ cntP st P p = j := by
  unfold occ
  rw [occL_get _ _ _ (Nat.le_refl _)]
  constructor
  · rintro ⟨a, b, c⟩
    refine ⟨(ex st)[p], List.getElem?_eq_getElem a, ?_, c⟩
    rw [List.getD_eq_getElem?_getD, List.getElem?_eq_getElem a] at b
    exact b
  · rintro ⟨k, a, b, c⟩
    have := (List.getElem?_eq_some_iff.mp a).1
    refine ⟨this, ?_, c⟩
    rw [List.getD_eq_getElem?_getD, a]
    exact b
theorem occ_len {st : List Stp} {P : Nat → Bool} : (occ st P).length = (ex st).countP P := by
  unfold occ
  rw [occL_len _ _ _ (Nat.le_refl _), List.take_length]
def optV : Option Nat → V
  | none => .non
  | some p => .int p
theorem occ_none {st : List Stp} (h : Goes most 0 st) {P : Nat → Bool} {n : Nat} (hn : cntP st P (sz st) ≤ n) : (occ st P)[n]? = none := by
  rw [List.getElem?_eq_none_iff, occ_len, ← cntP_all h P (Nat.le_refl _)]
  exact hn
theorem occ_some {st : List Stp} (h : Goes most 0 st) {P : Nat → Bool} {n : Nat} (hn : n < cntP st P (sz st)) : ∃ p, (occ st P)[n]? = some p := by
  rw [cntP_all h P (Nat.le_refl _), ← occ_len] at hn
  exact ⟨_, List.getElem?_eq_getElem hn⟩
theorem step_cnt {st : List Stp} {P : Nat → Bool} : ∀ (d : Nat) {n : Nat}, n < cntP st P (sz (st.take d)) → ∃ m, m < d ∧ m < st.length ∧ cntP st P (sz (st.take m)) ≤ n ∧ n < cntP st P (sz (st.take (m + 1)))
  | 0, n, h => by
    have : sz (st.take 0) = 0 := rfl
    rw [this, cntP_zero] at h
    omega
  | d + 1, n, h => by
    by_cases h1 : n < cntP st P (sz (st.take d))
    · obtain ⟨m, a, b, c, e⟩ := step_cnt d h1
      exact ⟨m, by omega, b, c, e⟩
    · refine ⟨d, by omega, ?_, by omega, h⟩
      rcases Nat.lt_or_ge d st.length with z | z
      · exact z
      · rw [List.take_of_length_le (by omega)] at h
        rw [List.take_of_length_le z] at h1
        omega
/-- a place within a pasted span, by the place that it goes back to -/
theorem occ_pa {st : List Stp} {i f l t : Nat} (h : Goes most 0 st) (e : st[i]? = some (.pa f l t)) {P : Nat → Bool} {n u : Nat} (hn : n = cntP st P (sz (st.take i)) + u) (h2 : n < cntP st P (sz (st.take (i + 1)))) :
    cntP st P f < cntP st P (l + 1) ∧ u / (cntP st P (l + 1) - cntP st P f) < t ∧ ∃ q, (occ st P)[cntP st P f + u % (cntP st P (l + 1) - cntP st P f)]? = some q ∧ f ≤ q ∧ q ≤ l ∧ (occ st P)[n]? = some (sz (st.take i) + (u / (cntP st P (l + 1) - cntP st P f)) * (l + 1 - f) + (q - f)) := by
  obtain ⟨ok, lim⟩ := goes_at h e
  simp only [Stp.ok, Bool.and_eq_true, decide_eq_true_eq] at ok
  have hz1 : sz (st.take (i + 1)) = sz (st.take i) + (l + 1 - f) * t := by rw [take_succ e, sz_app]; simp [sz, Stp.gr]
  have hw : 0 < l + 1 - f := by omega
  have hall := cntP_pa h e P ((l + 1 - f) * t) (Nat.le_refl _)
  rw [Nat.mul_div_cancel_left t hw, Nat.mul_mod_right, Nat.add_zero f, Nat.sub_self, Nat.add_zero, ← hz1] at hall
  have hm := cntP_mono st P (show f ≤ l + 1 by omega)
  have hu : u < t * (cntP st P (l + 1) - cntP st P f) := by omega
  have hpos : 0 < cntP st P (l + 1) - cntP st P f := by
    rcases Nat.eq_zero_or_pos (cntP st P (l + 1) - cntP st P f) with z | z
    · rw [z] at hu
      omega
    · exact z
  have hdiv : u / (cntP st P (l + 1) - cntP st P f) < t := by
    rw [Nat.div_lt_iff_lt_mul hpos]
    exact hu
  have hmod := Nat.mod_lt u hpos
  have hsz : sz (st.take i) ≤ sz st := by have := sz_take_mono st (show i ≤ st.length by have := (List.getElem?_eq_some_iff.mp e).1; omega); rwa [List.take_length] at this
  have hl1 := cntP_mono st P (show l + 1 ≤ sz st by omega)
  obtain ⟨q, hq⟩ := occ_some h (P := P) (n := cntP st P f + u % (cntP st P (l + 1) - cntP st P f)) (by omega)
  obtain ⟨k, hk, hP, hc⟩ := occ_get.mp hq
  have hs := cntP_succ (P := P) hk
  rw [if_pos hP] at hs
  have hfq : f ≤ q := by
    rcases Nat.lt_or_ge q f with z | z
    · have := cntP_mono st P (show q + 1 ≤ f by omega)
      omega
    · exact z
  have hql : q ≤ l := by
    rcases Nat.lt_or_ge l q with z | z
    · have := cntP_mono st P (show l + 1 ≤ q by omega)
      omega
    · exact z
  refine ⟨by omega, hdiv, q, hq, hfq, hql, ?_⟩
  generalize hcc : u / (cntP st P (l + 1) - cntP st P f) = c at *
  have hoff : c * (l + 1 - f) + (q - f) < (l + 1 - f) * t := by
    have h3 : (c + 1) * (l + 1 - f) ≤ t * (l + 1 - f) := Nat.mul_le_mul_right _ (by omega)
    rw [Nat.add_mul, Nat.one_mul] at h3
    rw [Nat.mul_comm (l + 1 - f) t]
    omega
  have ho1 : (c * (l + 1 - f) + (q - f)) / (l + 1 - f) = c := by
    rw [Nat.mul_comm, Nat.mul_add_div hw, Nat.div_eq_of_lt (by omega), Nat.add_zero]
  have ho2 : (c * (l + 1 - f) + (q - f)) % (l + 1 - f) = q - f := by
    rw [Nat.mul_comm, Nat.mul_add_mod, Nat.mod_eq_of_lt (by omega)]
  rw [Nat.add_assoc]
  refine occ_get.mpr ⟨k, ?_, hP, ?_⟩
  · have := (ex_pa h e (p := sz (st.take i) + (c * (l + 1 - f) + (q - f))) (by omega) (by omega)).1
    rw [this, Nat.add_sub_cancel_left, ho2, show f + (q - f) = q by omega]
    exact hk
  · rw [cntP_pa h e P _ (Nat.le_of_lt hoff), ho1, ho2, show f + (q - f) = q by omega, hc]
    have hu2 : u = c * (cntP st P (l + 1) - cntP st P f) + u % (cntP st P (l + 1) - cntP st P f) := by
      rw [← hcc, Nat.mul_comm]
      exact (Nat.div_add_mod u _).symm
    omega
/-! ### wanted keys: an ascending list -/
def isIn (ws : List Nat) (k : Nat) : Bool := decide (k ∈ ws)
theorem range_in (ws : List Nat) (hn : ws.Nodup) (n m : Nat) : (List.range' n m).countP (isIn ws) = (ws.filter fun k => decide (n ≤ k) && decide (k < n + m)).length := by
  induction ws with
  | nil =>
    have : (List.range' n m).countP (isIn []) = 0 := by rw [List.countP_eq_zero]; intro a _; simp [isIn]
    rw [this]
    rfl
  | cons a r ih =>
    rw [List.nodup_cons] at hn
    have h1 : (List.range' n m).countP (isIn (a :: r)) = (List.range' n m).count a + (List.range' n m).countP (isIn r) := by
      induction (List.range' n m) with
      | nil => rfl
      | cons b s ih2 =>
        rw [List.countP_cons, List.count_cons, List.countP_cons, ih2]
        by_cases e : b = a
        · subst e
          have : isIn r b = false := decide_eq_false hn.1
          simp [isIn, hn.1]
          omega
        · have : isIn (a :: r) b = isIn r b := by simp [isIn, e]
          rw [this]
          simp [e]
          omega
    rw [h1, ih hn.2, range_count, List.filter_cons]
    by_cases h : n ≤ a ∧ a < n + m
    · rw [if_pos h, if_pos (by simp [h.1, h.2]), List.length_cons]
      omega
    · rw [if_neg h, if_neg (by simpa using h)]
      omega
theorem asc_nodup {ws : List Nat} (h : ws.Pairwise (· < ·)) : ws.Nodup := h.imp fun z => Nat.ne_of_lt z
theorem asc_take : ∀ {l : List Nat} {j k : Nat}, l.Pairwise (· < ·) → l[j]? = some k → (l.filter fun x => decide (x < k)).length = j
  | [], _, _, _, h => by simp at h
  | a :: r, 0, k, hp, h => by
    have e : a = k := by simpa using h
    subst e
    rw [List.pairwise_cons] at hp
    rw [List.filter_cons, if_neg (by simp), List.filter_eq_nil_iff.mpr fun x hx => by have := hp.1 x hx; simp; omega]
    rfl
  | a :: r, j + 1, k, hp, h => by
    rw [List.pairwise_cons] at hp
    have h2 : r[j]? = some k := by simpa using h
    have := hp.1 k (List.mem_of_getElem? h2)
    rw [List.filter_cons, if_pos (by simp [this]), List.length_cons, asc_take hp.2 h2]
/-- the j-th wanted key from n on: j wanted ones stand between -/
theorem own_at {ws : List Nat} (h : ws.Pairwise (· < ·)) {n j k : Nat} (e : (ws.filter fun x => decide (n ≤ x))[j]? = some k) : n ≤ k ∧ k ∈ ws ∧ (List.range' n (k - n)).countP (isIn ws) = j := by
  have hm := List.mem_of_getElem? e
  rw [List.mem_filter] at hm
  have hn : n ≤ k := of_decide_eq_true hm.2
  refine ⟨hn, hm.1, ?_⟩
  rw [range_in ws (asc_nodup h)]
  have h2 := asc_take (List.Pairwise.filter (fun x => decide (n ≤ x)) h) e
  rw [List.filter_filter] at h2
  rw [← h2]
  congr 1
  refine List.filter_congr fun x _ => ?_
  rw [show n + (k - n) = k by omega, Bool.and_comm]
theorem own_len {ws : List Nat} (h : ws.Pairwise (· < ·)) {n m j : Nat} (e : j < (List.range' n m).countP (isIn ws)) : ∃ k, (ws.filter fun x => decide (n ≤ x))[j]? = some k ∧ k < n + m := by
  rw [range_in ws (asc_nodup h)] at e
  have hj : j < (ws.filter fun x => decide (n ≤ x)).length := by
    refine Nat.lt_of_lt_of_le e ?_
    rw [← List.countP_eq_length_filter, ← List.countP_eq_length_filter]
    exact List.countP_mono_left fun x _ hx => by
      rw [Bool.and_eq_true] at hx
      exact hx.1
  refine ⟨_, List.getElem?_eq_getElem hj, ?_⟩
  have h2 := asc_take (List.Pairwise.filter (fun x => decide (n ≤ x)) h) (List.getElem?_eq_getElem hj)
  rcases Nat.lt_or_ge ((ws.filter fun x => decide (n ≤ x))[j]) (n + m) with z | z
  · exact z
  · exfalso
    have h3 : (ws.filter fun k => decide (n ≤ k) && decide (k < n + m)).length ≤ ((ws.filter fun x => decide (n ≤ x)).filter fun x => decide (x < (ws.filter fun x => decide (n ≤ x))[j])).length := by
      rw [List.filter_filter, ← List.countP_eq_length_filter, ← List.countP_eq_length_filter]
      refine List.countP_mono_left fun x _ hx => ?_
      rw [Bool.and_eq_true, decide_eq_true_iff, decide_eq_true_iff] at hx
      rw [Bool.and_eq_true, decide_eq_true_iff, decide_eq_true_iff]
      exact ⟨by omega, hx.1⟩
    omega
end Pk
/-! ## Letters: the keys that type them, counts by letters, dicts with letters for keys -/
namespace Pk
open PySem PySem.Spec PyProof.Rows L2
/-- the key types the letter -/
def lP (st : List Stp) (c k : Nat) : Bool := (typed st).getD k 0 == c
def lks (st : List Stp) (c : Nat) : List Nat := (List.range (nk st)).filter (lP st c)
theorem lks_asc (st : List Stp) (c : Nat) : (lks st c).Pairwise (· < ·) := List.Pairwise.filter _ List.pairwise_lt_range
theorem lks_len (st : List Stp) (c : Nat) : (lks st c).length ≤ nk st := Nat.le_trans (List.length_filter_le _ _) (by simp)
theorem lP_lt {st : List Stp} {c k : Nat} (h : isLet c = true) (z : lP st c k = true) : k < nk st := by
  rcases Nat.lt_or_ge k (nk st) with q | q
  · exact q
  · unfold lP at z
    rw [List.getD_eq_getElem?_getD, List.getElem?_eq_none (by rw [typed_len]; exact q)] at z
    have z2 : (0 : Nat) = c := by simpa using z
    rw [← z2] at h
    exact absurd h (by decide)
theorem lks_in {st : List Stp} {c : Nat} (h : isLet c = true) : isIn (lks st c) = lP st c := by
  funext k
  unfold isIn lks
  rw [Bool.eq_iff_iff, decide_eq_true_eq, List.mem_filter, List.mem_range]
  exact ⟨fun z => z.2, fun z => ⟨lP_lt h z, z⟩⟩
theorem sgn_at {z : List Nat} {i : Nat} {v : V} (h : (sgn (sL z))[i]? = some v) : ∃ c, z[i]? = some c ∧ v = .str (sL [c]) := by
  unfold sgn at h
  rw [List.getElem?_map] at h
  cases e : (sL z).cps.toList[i]? with
  | none => rw [e] at h; cases h
  | some c => rw [e] at h; cases h; exact ⟨c, e, rfl⟩
theorem sgn_len (z : List Nat) : (sgn (sL z)).length = z.length := by unfold sgn; rw [List.length_map]; rfl
/-! ### the letters of a text -/
def ltr (st : List Stp) (k : Nat) : Nat := (typed st).getD k 0
def lts (st : List Stp) : List Nat := (ex st).map (ltr st)
theorem lts_len (st : List Stp) : (lts st).length = (ex st).length := List.length_map ..
theorem ltr_at {st : List Stp} {k c : Nat} (h : (typed st)[k]? = some c) : ltr st k = c := by unfold ltr; rw [List.getD_eq_getElem?_getD, h]; rfl
theorem lts_at {st : List Stp} {p k : Nat} (h : (ex st)[p]? = some k) : (lts st)[p]? = some (ltr st k) := by unfold lts; rw [List.getElem?_map, h]; rfl
theorem key_typed {st : List Stp} {k : Nat} (h : k < nk st) : (typed st)[k]? = some (ltr st k) := by
  unfold ltr
  rw [List.getD_eq_getElem?_getD, List.getElem?_eq_getElem (by rw [typed_len]; exact h)]
  rfl
theorem ltr_let {st : List Stp} {k : Nat} (hlet : (typed st).all isLet = true) (h : k < nk st) : isLet (ltr st k) = true := (List.all_eq_true.mp hlet) _ (List.mem_of_getElem? (key_typed h))
/-! ### sums by letters -/
def sumL (st : List Stp) (c i : Nat) (g : Nat → Int) : Int := (((List.range i).filter (lP st c)).map g).sum
theorem sumL_succ {st : List Stp} {c i d : Nat} (g : Nat → Int) (h : (typed st)[i]? = some d) : sumL st c (i + 1) g = sumL st c i g + if d = c then g i else 0 := by
  have hp : lP st c i = decide (d = c) := by
    unfold lP
    rw [List.getD_eq_getElem?_getD, h]
    rfl
  unfold sumL
  rw [List.range_succ, List.filter_append, List.map_append, List.sum_append]
  by_cases e : d = c
  · rw [if_pos e]
    simp [hp, e]
  · rw [if_neg e]
    simp [hp, e]
theorem sum_ones (x : Nat) : ∀ l : List Nat, (l.map fun k => if x = k then (1 : Int) else 0).sum = (l.count x : Nat)
  | [] => rfl
  | a :: r => by
    rw [List.map_cons, List.sum_cons, sum_ones x r, List.count_cons]
    by_cases e : x = a
    · rw [if_pos e]; simp [e]; omega
    · rw [if_neg e]; simp [Ne.symm e]
theorem sum_add (f g : Nat → Int) : ∀ l : List Nat, (l.map fun k => f k + g k).sum = (l.map f).sum + (l.map g).sum
  | [] => rfl
  | a :: r => by
    rw [List.map_cons, List.sum_cons, sum_add f g r, List.map_cons, List.sum_cons, List.map_cons, List.sum_cons]
    omega
theorem sum_sub (f g : Nat → Int) : ∀ l : List Nat, (l.map fun k => f k - g k).sum = (l.map f).sum - (l.map g).sum
  | [] => rfl
  | a :: r => by
    rw [List.map_cons, List.sum_cons, sum_sub f g r, List.map_cons, List.sum_cons, List.map_cons, List.sum_cons]
    omega
theorem sum_zero : ∀ l : List Nat, (l.map fun _ => (0 : Int)).sum = 0
  | [] => rfl
  | a :: r => by rw [List.map_cons, List.sum_cons, sum_zero r]; rfl
theorem nd_count {x : Nat} : ∀ {l : List Nat}, l.Nodup → x ∈ l → l.count x = 1
  | [], _, h => by simp at h
  | a :: r, hn, h => by
    rw [List.nodup_cons] at hn
    rw [List.count_cons]
    rcases List.mem_cons.mp h with e | e
    · subst e
      rw [List.count_eq_zero_of_not_mem hn.1]
      simp
    · rw [nd_count hn.2 e]
      have : ¬ a = x := fun z => hn.1 (z ▸ e)
      simp [this]
theorem sum_count {P : Nat → Bool} {n : Nat} : ∀ E : List Nat, (∀ k ∈ E, k < n) → (((List.range n).filter P).map fun k => (E.count k : Int)).sum = (E.countP P : Nat)
  | [], _ => by
    have : (fun k => (([] : List Nat).count k : Int)) = fun _ => 0 := by funext k; simp
    rw [this, sum_zero]
    rfl
  | x :: r, h => by
    have e : (fun k => ((x :: r).count k : Int)) = fun k => (r.count k : Int) + if x = k then 1 else 0 := by
      funext k
      rw [List.count_cons]
      by_cases e : x = k
      · simp [e]
      · simp [e]
    rw [e, sum_add, sum_count r fun k hk => h k (List.mem_cons_of_mem _ hk), sum_ones, List.countP_cons]
    have hx := h x List.mem_cons_self
    have hnd : ((List.range n).filter P).Nodup := List.Nodup.sublist List.filter_sublist List.nodup_range
    by_cases hp : P x = true
    · rw [if_pos hp, nd_count hnd (by rw [List.mem_filter, List.mem_range]; exact ⟨hx, hp⟩)]
      omega
    · rw [if_neg hp, List.count_eq_zero_of_not_mem (by rw [List.mem_filter]; exact fun z => hp z.2)]
      omega
theorem sum_cnt {st : List Stp} (P : Nat → Bool) (p : Nat) : (((List.range (nk st)).filter P).map fun k => (cnt st k p : Int)).sum = (cntP st P p : Nat) :=
  sum_count ((ex st).take p) fun k hk => ex_lt st k (List.mem_of_mem_take hk)
/-! ### dicts with letters for keys -/
def kvL (W : WL) : List (Key × V) := W.map fun p => ((.inr (sL [p.1]) : Key), V.int p.2)
theorem sL1 {p q : Nat} : (Sum.inr (sL [p]) : Key) = .inr (sL [q]) ↔ p = q := by
  refine ⟨fun e => ?_, fun e => by rw [e]⟩
  injection e with e
  have := sL_inj.mp e
  simpa using this
theorem kvL_len (W : WL) : (kvL W).length = W.length := List.length_map ..
theorem valV_L (p : Nat) : ∀ W : WL, (valV (kvL W) (.inr (sL [p]))).getD (.int 0) = .int (getW W p)
  | [] => rfl
  | a :: r => by
    unfold getW
    by_cases e : a.1 = p
    · rw [if_pos e]
      show (valV (((.inr (sL [a.1]) : Key), V.int a.2) :: kvL r) _).getD _ = _
      rw [valV_pos (sL1.mpr e)]
      rfl
    · rw [if_neg e]
      show (valV (((.inr (sL [a.1]) : Key), V.int a.2) :: kvL r) _).getD _ = _
      rw [valV_neg fun z => e (sL1.mp z)]
      exact valV_L p r
theorem valV_inL {p : Nat} : ∀ {W : WL}, p ∈ W.map (·.1) → valV (kvL W) (.inr (sL [p])) = some (.int (getW W p))
  | [], h => by simp at h
  | a :: r, h => by
    unfold getW
    by_cases e : a.1 = p
    · rw [if_pos e]
      show valV (((.inr (sL [a.1]) : Key), V.int a.2) :: kvL r) _ = _
      rw [valV_pos (sL1.mpr e)]
    · rw [if_neg e]
      show valV (((.inr (sL [a.1]) : Key), V.int a.2) :: kvL r) _ = _
      rw [valV_neg fun z => e (sL1.mp z)]
      refine valV_inL ?_
      simp only [List.map_cons, List.mem_cons] at h
      exact h.resolve_left (Ne.symm e)
theorem valV_outL {p : Nat} {W : WL} (h : p ∉ W.map (·.1)) : valV (kvL W) (.inr (sL [p])) = none := by
  refine valV_none fun q hq e => ?_
  obtain ⟨a, ha, rfl⟩ := List.mem_map.mp hq
  exact h (List.mem_map.mpr ⟨a, ha, sL1.mp e⟩)
theorem any_L (W : WL) (p : Nat) : ((kvL W).any fun kv => decide (kv.1 = .inr (sL [p]))) = decide (p ∈ W.map (·.1)) := by
  rw [Bool.eq_iff_iff, List.any_eq_true, decide_eq_true_iff]
  constructor
  · rintro ⟨x, hx, e⟩
    obtain ⟨a, ha, rfl⟩ := List.mem_map.mp hx
    exact List.mem_map.mpr ⟨a, ha, sL1.mp (of_decide_eq_true e)⟩
  · intro h
    obtain ⟨a, ha, e⟩ := List.mem_map.mp h
    exact ⟨_, List.mem_map.mpr ⟨a, ha, rfl⟩, decide_eq_true (sL1.mpr e)⟩
theorem putK_L {W : WL} (p : Nat) (w : Int) (hn : (W.map (·.1)).Nodup) : putK (kvL W) (.inr (sL [p])) (.int (getW W p + w)) = kvL (addW W p w) := by
  unfold putK
  rw [any_L]
  by_cases h : p ∈ W.map (·.1)
  · rw [decide_eq_true h, if_pos rfl, addW_in hn h]
    unfold kvL
    rw [List.map_map, List.map_map]
    refine List.map_congr_left fun q _ => ?_
    simp only [Function.comp]
    by_cases e : q.1 = p
    · rw [if_pos (sL1.mpr e), if_pos e]
    · rw [if_neg (fun z => e (sL1.mp z)), if_neg e]
  · rw [decide_eq_false h, if_neg (by decide), addW_out h, getW_out h, Int.zero_add]
    simp [kvL]
theorem getW_add (p q : Nat) (w : Int) : ∀ W : WL, getW (addW W p w) q = getW W q + if q = p then w else 0
  | [] => by
    unfold addW
    show (if p = q then w else 0) = 0 + _
    by_cases e : q = p
    · rw [if_pos e, if_pos e.symm]; omega
    · rw [if_neg e, if_neg (Ne.symm e)]; omega
  | a :: r => by
    unfold addW
    by_cases e : a.1 = p
    · rw [if_pos e]
      show (if a.1 = q then a.2 + w else getW r q) = (if a.1 = q then a.2 else getW r q) + _
      by_cases e2 : a.1 = q
      · rw [if_pos e2, if_pos e2, if_pos (e2.symm.trans e)]
      · rw [if_neg e2, if_neg e2, if_neg (fun z => e2 (e.trans z.symm))]; omega
    · rw [if_neg e]
      show (if a.1 = q then a.2 else getW (addW r p w) q) = (if a.1 = q then a.2 else getW r q) + _
      by_cases e2 : a.1 = q
      · rw [if_pos e2, if_pos e2, if_neg (fun z => e (e2.trans z))]; omega
      · rw [if_neg e2, if_neg e2, getW_add p q w r]
/-! ### sorted letters -/
theorem rising_one : ∀ (l : List Nat) (a : Nat), risingS (sL [a]) (l.map fun c => sL [c]) = true → (a :: l).Pairwise (· ≤ ·) := by
  intro l
  induction l with
  | nil => intro a _; exact List.pairwise_singleton _ _
  | cons b r ih =>
    intro a h
    have h2 : (!ltCps [b] [a] && risingS (sL [b]) (r.map fun c => sL [c])) = true := h
    rw [Bool.and_eq_true] at h2
    have ih2 := ih b h2.2
    have hab : a ≤ b := by
      have h1 := h2.1
      simp [ltCps] at h1
      exact h1
    refine List.pairwise_cons.mpr ⟨fun x hx => ?_, ih2⟩
    rcases List.mem_cons.mp hx with e | e
    · rw [e]; exact hab
    · exact Nat.le_trans hab ((List.pairwise_cons.mp ih2).1 x e)
theorem sorted_one {ks : List Nat} {ys : List Str} (h : ys.Perm (ks.map fun c => sL [c])) (hs : sortedS ys = true) (hn : ks.Nodup) : ∃ cs : List Nat, cs.Perm ks ∧ ys = cs.map (fun c => sL [c]) ∧ cs.Pairwise (· < ·) := by
  have e : ys = (ys.map fun y => y.cps.toList.headD 0).map fun c => sL [c] := by
    rw [List.map_map]
    refine (List.map_id ys).symm.trans (List.map_congr_left fun y hy => ?_)
    obtain ⟨c, _, rfl⟩ := List.mem_map.mp (h.mem_iff.mp hy)
    rfl
  have hp : (ys.map fun y => y.cps.toList.headD 0).Perm ks := by
    have := h.map fun y : Str => y.cps.toList.headD 0
    rw [List.map_map] at this
    have e2 : ((fun y : Str => y.cps.toList.headD 0) ∘ fun c => sL [c]) = id := by funext c; rfl
    rw [e2, List.map_id] at this
    exact this
  generalize (ys.map fun y => y.cps.toList.headD 0) = cs at *
  refine ⟨cs, hp, e, ?_⟩
  have hle : cs.Pairwise (· ≤ ·) := by
    rw [e] at hs
    cases cs with
    | nil => exact .nil
    | cons a r => exact rising_one r a hs
  have hnd : cs.Nodup := hp.nodup_iff.mpr hn
  exact hle.imp₂ (fun a b h1 h2 => Nat.lt_of_le_of_ne h1 h2) hnd
theorem asc_ext : ∀ {l m : List Nat}, l.Pairwise (· < ·) → m.Pairwise (· < ·) → (∀ x, x ∈ l ↔ x ∈ m) → l = m
  | [], [], _, _, _ => rfl
  | [], b :: s, _, _, h => absurd ((h b).mpr List.mem_cons_self) (by simp)
  | a :: r, [], _, _, h => absurd ((h a).mp List.mem_cons_self) (by simp)
  | a :: r, b :: s, h1, h2, h => by
    rw [List.pairwise_cons] at h1 h2
    have e : a = b := by
      rcases List.mem_cons.mp ((h a).mp List.mem_cons_self) with e | e
      · exact e
      · rcases List.mem_cons.mp ((h b).mpr List.mem_cons_self) with e2 | e2
        · exact e2.symm
        · have := h1.1 b e2
          have := h2.1 a e
          omega
    subst e
    congr 1
    refine asc_ext h1.2 h2.2 fun x => ⟨fun hx => ?_, fun hx => ?_⟩
    · rcases List.mem_cons.mp ((h x).mp (List.mem_cons_of_mem _ hx)) with e | e
      · have := h1.1 x hx; omega
      · exact e
    · rcases List.mem_cons.mp ((h x).mpr (List.mem_cons_of_mem _ hx)) with e | e
      · have := h2.1 x hx; omega
      · exact e
/-! ### what letter_counts tells -/
def lcs (st : List Stp) (a e : Nat) : List Nat := (List.range' 97 26).filter fun c => decide (cntP st (lP st c) a < cntP st (lP st c) e)
def lcD (st : List Stp) (a e : Nat) : WL := (lcs st a e).map fun c => (c, (cntP st (lP st c) e : Int) - (cntP st (lP st c) a : Int))
theorem let_iff {c : Nat} : isLet c = true ↔ c ∈ List.range' 97 26 := by
  unfold isLet
  rw [List.mem_range'_1, Bool.and_eq_true, decide_eq_true_eq, decide_eq_true_eq]
  omega
theorem range_filter {α : Type} (l : List Nat) (p : Nat → Bool) (g : Nat → α) : (((List.range l.length).filter fun i => p (l.getD i 0)).map fun i => g (l.getD i 0)) = (l.filter p).map g := by
  have h : ∀ m, m ≤ l.length → ((List.range m).filter fun i => p (l.getD i 0)).map (fun i => g (l.getD i 0)) = ((l.take m).filter p).map g := by
    intro m
    induction m with
    | zero => intro _; simp
    | succ m ih =>
      intro hm
      have e : l[m]? = some (l[m]'(by omega)) := List.getElem?_eq_getElem (by omega)
      have e2 : l.getD m 0 = l[m]'(by omega) := by rw [List.getD_eq_getElem?_getD, e]; rfl
      rw [List.range_succ, List.filter_append, List.map_append, ih (by omega), take_succ e, List.filter_append, List.map_append]
      congr 1
      rw [List.filter_cons, List.filter_cons, e2]
      split
      · show [g (l.getD m 0)] = [g (l[m]'(by omega))]
        rw [e2]
      · rfl
  have := h l.length (Nat.le_refl _)
  rwa [List.take_length] at this
theorem sumL_all (st : List Stp) (c a e : Nat) : (sumL st c (nk st) fun k => (cnt st k e : Int) - (cnt st k a : Int)) = (cntP st (lP st c) e : Int) - (cntP st (lP st c) a : Int) := by
  unfold sumL
  rw [sum_sub, sum_cnt, sum_cnt]
theorem let_len {l : List Nat} (hn : l.Nodup) (h : ∀ c ∈ l, isLet c = true) : l.length ≤ 26 := by
  have h1 := nodup_len 123 hn fun c hc => by
    have := List.mem_range'_1.mp (let_iff.mp (h c hc))
    omega
  have h2 : (l ++ List.range' 0 97).Nodup := by
    rw [List.nodup_append]
    refine ⟨hn, List.nodup_range', fun a ha b hb e => ?_⟩
    have h3 := List.mem_range'_1.mp (let_iff.mp (h a ha))
    have h4 := List.mem_range'_1.mp hb
    omega
  have h3 := nodup_len 123 h2 fun c hc => by
    rcases List.mem_append.mp hc with z | z
    · have := List.mem_range'_1.mp (let_iff.mp (h c z)); omega
    · have := List.mem_range'_1.mp z; omega
  rw [List.length_append, List.length_range'] at h3
  omega
theorem cntP_key {st : List Stp} {P : Nat → Bool} {p : Nat} (h : 0 < cntP st P p) : ∃ k, k ∈ (ex st).take p ∧ P k = true := List.countP_pos_iff.mp h
theorem lcs_eq {st : List Stp} (hlet : (typed st).all isLet = true) {cs : List Nat} (hasc : cs.Pairwise (· < ·)) (hmem : ∀ c, c ∈ cs ↔ ∃ j, j < nk st ∧ (typed st)[j]? = some c) (a e : Nat) :
    (cs.filter fun c => decide ((0 : Int) < (cntP st (lP st c) e : Int) - (cntP st (lP st c) a : Int))) = lcs st a e := by
  refine asc_ext (hasc.filter _) ((List.pairwise_lt_range' (s := 97) (n := 26)).filter _) fun c => ?_
  unfold lcs
  rw [List.mem_filter, List.mem_filter, decide_eq_true_eq, decide_eq_true_eq, ← let_iff]
  constructor
  · rintro ⟨h1, h2⟩
    obtain ⟨j, hj, hc⟩ := (hmem c).mp h1
    exact ⟨(List.all_eq_true.mp hlet) c (List.mem_of_getElem? hc), by omega⟩
  · rintro ⟨h1, h2⟩
    refine ⟨?_, by omega⟩
    obtain ⟨k, hk, hp⟩ := cntP_key (show 0 < cntP st (lP st c) e by omega)
    have hlt := lP_lt h1 hp
    refine (hmem c).mpr ⟨k, hlt, ?_⟩
    unfold lP at hp
    rw [List.getD_eq_getElem?_getD, List.getElem?_eq_getElem (by rw [typed_len]; exact hlt)] at hp
    rw [List.getElem?_eq_getElem (by rw [typed_len]; exact hlt)]
    have : (typed st)[k]'(by rw [typed_len]; exact hlt) = c := by simpa using hp
    rw [this]
end Pk
/-! ## dict(pairs); sums of counts -/
namespace Pk
open PySem PySem.Spec PyProof.Rows L2
theorem b_dict : bootBuiltins "dict" = some (.type "dict") := by decide +kernel
theorem b_set : bootBuiltins "set" = some (.type "set") := by decide +kernel
def rDictP (K : Fr) : List V → Hp → VK → Prop := fun xs H Q => ∃ (a : Addr) (ps : List Addr) (kvs : List (Key × V)), xs = [.ref a] ∧ SqL K H a (ps.map V.ref) ∧ Paired (fun p kv => SqT K H p [kV kv.1, kv.2]) ps kvs ∧
    ∀ p, H p = none → Q (.ref p) (upd H p (.dK (mergeK [] kvs)))
theorem dictP {X : Cx} (K : Fr) (hc : X.calm = true := by rfl) (h : X.K = K := by rfl) : CallR X (.type "dict") (rDictP K) := h ▸ call_dictP hc
theorem putK_out {kvs : List (Key × V)} {k : Key} {v : V} (h : k ∉ kvs.map (·.1)) : putK kvs k v = kvs ++ [(k, v)] := by
  unfold putK
  rw [if_neg]
  intro z
  rw [List.any_eq_true] at z
  obtain ⟨x, hx, e⟩ := z
  exact h (List.mem_map.mpr ⟨x, hx, of_decide_eq_true e⟩)
theorem mergeK_app : ∀ (more kvs : List (Key × V)), ((kvs ++ more).map (·.1)).Nodup → mergeK kvs more = kvs ++ more
  | [], kvs, _ => (List.append_nil _).symm
  | p :: r, kvs, h => by
    have h1 : p.1 ∉ kvs.map (·.1) := by
      rw [List.map_append, List.nodup_append] at h
      exact fun z => h.2.2 _ z _ (by simp) rfl
    show mergeK (putK kvs p.1 p.2) r = _
    rw [putK_out h1, mergeK_app r _ (by rw [List.append_assoc]; exact h), List.append_assoc]
    rfl
theorem mergeK_self {kvs : List (Key × V)} (h : (kvs.map (·.1)).Nodup) : mergeK [] kvs = kvs := mergeK_app kvs [] h
theorem kvL_keys (W : WL) : (kvL W).map (·.1) = (W.map (·.1)).map fun c => (.inr (sL [c]) : Key) := by
  unfold kvL
  rw [List.map_map, List.map_map]
  rfl
theorem kvL_nodup {W : WL} (h : (W.map (·.1)).Nodup) : ((kvL W).map (·.1)).Nodup := by
  rw [kvL_keys]
  generalize W.map (·.1) = l at h
  induction l with
  | nil => exact List.nodup_nil
  | cons c r ih =>
    rw [List.map_cons, List.nodup_cons]
    rw [List.nodup_cons] at h
    refine ⟨fun z => ?_, ih h.2⟩
    obtain ⟨d, hd, e⟩ := List.mem_map.mp z
    rw [sL1] at e
    exact h.1 (e ▸ hd)
theorem cV_map (n : Nat) (g : Nat → Int) : cV n g = ((List.range n).map g).map V.int := by
  unfold cV
  rw [List.map_map]
  rfl
theorem sum_counts {st : List Stp} {m : Nat} (h : Goes m 0 st) {p : Nat} (hp : p ≤ sz st) : ((List.range (nk st)).map fun k => (cnt st k p : Int)).sum = (p : Nat) := by
  have h1 := sum_cnt (st := st) (fun _ => true) p
  rw [List.filter_eq_self.mpr (fun _ _ => rfl)] at h1
  rw [h1]
  unfold cntP
  rw [List.countP_true, List.length_take, ex_len st h]
  omega
/-- values found in a dict of letters -/
theorem getW_mem {p : Nat} {w : Int} : ∀ {W : WL}, (W.map (·.1)).Nodup → (p, w) ∈ W → getW W p = w
  | [], _, h => by simp at h
  | q :: r, hn, h => by
    rw [List.map_cons, List.nodup_cons] at hn
    show (if q.1 = p then q.2 else getW r p) = w
    rcases List.mem_cons.mp h with e | h
    · rw [← e, if_pos rfl]
    · have hne : ¬ q.1 = p := fun z => hn.1 (List.mem_map.mpr ⟨(p, w), h, z.symm⟩)
      rw [if_neg hne]
      exact getW_mem hn.2 h
theorem paired_snoc {α β : Type} {F : α → β → Prop} {x : α} {y : β} (h : F x y) : ∀ {xs : List α} {ys : List β}, Paired F xs ys → Paired F (xs ++ [x]) (ys ++ [y])
  | _, _, .nil => .cons h .nil
  | _, _, .cons a r => .cons a (paired_snoc h r)
section
variable {J : It} {n : Nat} {G : Hp → Prop} {Y : Nat → Hp → V → Hp → Prop} {g : TG} {tt : TT} {te : TE} {vs : List Nat} {σ : L2.St} {H1 : Hp} {D : Addr} {Qd : Hp → Prop}
/-- a comprehension that makes new things, or keeps some: what is made at turn i is told by R -/
theorem lc_objs (wk : Walk J n G Y) (hD : H1 D = none) (f : Nat → Bool) (R : Nat → V → Hp → Prop) (hR : ∀ i y H H' ys, H D = some (.lst ys) → R i y H → But D H H' → R i y H') (hn : n ≤ sizeLine) (hG : ∀ H, Same H1 H → G H)
    (hs : ∀ i x H H2 (N : VK) (N0 : Hp → Prop), i < n → Same H1 H → Y i H x H2 → (f i = true → ∀ y H5, Same H H5 → R i y H5 → N y H5) → (f i = false → ∀ H5, Same H H5 → N0 H5) →
      g x (wipe σ vs) H2 fun σ2 H3 => wipe σ2 vs = wipe σ vs ∧ tt σ2 H3 fun b H4 => if b = true then te σ2 H4 N else N0 H4)
    (hd : ∀ H ys, Same H1 H → H D = some (.lst ys) → Paired (fun y i => R i y H) ys ((List.range n).filter f) → Qd H) :
    ∃ W : Nat → Nat → Hp → Prop, (∃ m, W 0 m (upd H1 D (.lst []))) ∧ ∀ i m H, W i m H →
      (J.stop i H ∧ Qd H) ∨ (J.go i H ∧ ∃ Nx : Hp → Prop, (∀ H', Nx H' → ∃ m', m' < m ∧ W (i + 1) m' H') ∧ ∀ x H', J.yld i H x H' → g x (wipe σ vs) H' fun σ2 H2 => wipe σ2 vs = wipe σ vs ∧ tt σ2 H2 fun b H3 =>
        if b = true then te σ2 H3 fun y H4 => ∃ acc, H4 D = some (.lst acc) ∧ acc.length < sizeLine ∧ Nx (upd H4 D (.lst (acc ++ [y]))) else Nx H3) := by
  refine lc_it wk (fun i H => Same H1 H ∧ ∃ ys, H D = some (.lst ys) ∧ Paired (fun y j => R j y H) ys ((List.range i).filter f)) ⟨same_upd hD, [], upd_same, .nil⟩ (fun i H _ p => hG H p.1) ?_ fun H ⟨p1, ys, p2, p3⟩ => hd H ys p1 p2 p3
  intro i x H H2 hi p y
  obtain ⟨p1, ys, p2, p3⟩ := p
  have hl : ys.length ≤ i := by
    have h1 := Paired.length p3
    have h2 := List.length_filter_le f (List.range i)
    rw [List.length_range] at h2
    omega
  refine hs i x H H2 _ _ hi p1 y (fun hb z H5 s5 r5 => ?_) fun hb H5 s5 => ?_
  · have bu : But D H5 (upd H5 D (.lst (ys ++ [z]))) := fun b o nb e => by rw [upd_ne nb]; exact e
    refine ⟨ys, s5 _ _ p2, Nat.lt_of_le_of_lt hl (by omega), fun b o e => ?_, ys ++ [z], upd_same, ?_⟩
    · by_cases hbD : b = D
      · rw [hbD, hD] at e
        cases e
      · rw [upd_ne hbD]
        exact s5 _ _ (p1 _ _ e)
    · rw [List.range_succ, List.filter_append, List.filter_cons, hb]
      show Paired (fun y j => R j y (upd H5 D (.lst (ys ++ [z])))) (ys ++ [z]) ((List.range i).filter f ++ [i])
      exact paired_snoc (F := fun y j => R j y (upd H5 D (.lst (ys ++ [z])))) (hR i z _ _ _ (s5 _ _ p2) r5 bu) (Paired.mapP p3 fun y j r => hR j y _ _ _ (s5 _ _ p2) (hR j y _ _ _ p2 r (Same.but s5)) bu)
  · refine ⟨p1.trans s5, ys, s5 _ _ p2, ?_⟩
    rw [List.range_succ, List.filter_append, List.filter_cons, hb]
    simp only [List.filter_nil, Bool.false_eq_true, if_false, List.append_nil]
    exact Paired.mapP p3 fun y j r => hR j y _ _ _ p2 r (Same.but s5)
end
/-- new tuples -/
theorem tup_stays {D : Addr} {xs : Nat → List V} : ∀ (i : Nat) (y : V) (H H' : Hp) (ys : List V), H D = some (.lst ys) → (∃ t, y = .ref t ∧ H t = some (.tup (xs i))) → But D H H' → ∃ t, y = .ref t ∧ H' t = some (.tup (xs i)) :=
  fun i y H H' ys hD ⟨t, e, h⟩ b => ⟨t, e, b _ _ (ne_of h hD (by intro z; cases z)) h⟩
theorem range_filterG {α β : Type} (d : α) (l : List α) (p : α → Bool) (g : α → β) : (((List.range l.length).filter fun i => p (l.getD i d)).map fun i => g (l.getD i d)) = (l.filter p).map g := by
  have h : ∀ m, m ≤ l.length → ((List.range m).filter fun i => p (l.getD i d)).map (fun i => g (l.getD i d)) = ((l.take m).filter p).map g := by
    intro m
    induction m with
    | zero => intro _; simp
    | succ m ih =>
      intro hm
      have e : l[m]? = some (l[m]'(by omega)) := List.getElem?_eq_getElem (by omega)
      have e2 : l.getD m d = l[m]'(by omega) := by rw [List.getD_eq_getElem?_getD, e]; rfl
      rw [List.range_succ, List.filter_append, List.map_append, ih (by omega), take_succ e, List.filter_append, List.map_append]
      congr 1
      rw [List.filter_cons, List.filter_cons, e2]
      split
      · show [g (l.getD m d)] = [g (l[m]'(by omega))]
        rw [e2]
      · rfl
  have := h l.length (Nat.le_refl _)
  rwa [List.take_length] at this
/-- refs to new tuples, by their places -/
theorem paired_refs {H : Hp} {xs : Nat → List V} : ∀ {ys : List V} {is : List Nat}, Paired (fun y i => ∃ t, y = .ref t ∧ H t = some (.tup (xs i))) ys is → ∃ ps : List Addr, ys = ps.map V.ref ∧ Paired (fun t i => H t = some (.tup (xs i))) ps is
  | _, _, .nil => ⟨[], rfl, .nil⟩
  | _, _, .cons ⟨t, e, h⟩ r => by
    obtain ⟨ps, e2, h2⟩ := paired_refs r
    exact ⟨t :: ps, by rw [e, e2]; rfl, .cons h h2⟩
theorem paired_map {α β γ : Type} {F : α → β → Prop} {F' : α → γ → Prop} (g : β → γ) (h : ∀ a b, F a b → F' a (g b)) : ∀ {xs : List α} {ys : List β}, Paired F xs ys → Paired F' xs (ys.map g)
  | _, _, .nil => .nil
  | _, _, .cons a r => .cons (h _ _ a) (paired_map g h r)
/-- what counts of letters come to, as dicts -/
theorem due_dict {st : List Stp} {W : WL} {a e : Nat} (hlet : (typed st).all isLet = true) (hn : (W.map (·.1)).Nodup) (hk : ∀ c, c ∈ W.map (·.1) ↔ ∃ j, j < nk st ∧ (typed st)[j]? = some c) (hv : ∀ c, getW W c = (cntP st (lP st c) e : Int) - (cntP st (lP st c) a : Int)) :
    (kvL (lcD st a e)).length = (kvL (W.filter fun p => decide ((0 : Int) < p.2))).length ∧ ∀ p ∈ kvL (lcD st a e), valV (kvL (W.filter fun p => decide ((0 : Int) < p.2))) p.1 = some p.2 ∧ flatB p.2 = true := by
  have hsub : ((W.filter fun p => decide ((0 : Int) < p.2)).map (·.1)).Nodup := List.Sublist.nodup (List.Sublist.map _ List.filter_sublist) hn
  have hm : ∀ c, c ∈ (W.filter fun p => decide ((0 : Int) < p.2)).map (·.1) ↔ c ∈ lcs st a e := by
    intro c
    unfold lcs
    rw [List.mem_filter, decide_eq_true_eq, ← let_iff]
    constructor
    · intro h
      obtain ⟨p, hp, e1⟩ := List.mem_map.mp h
      rw [List.mem_filter, decide_eq_true_eq] at hp
      have h1 : c ∈ W.map (·.1) := List.mem_map.mpr ⟨p, hp.1, e1⟩
      have h2 : getW W c = p.2 := getW_mem hn (by rw [← e1]; exact hp.1)
      rw [hv] at h2
      obtain ⟨j, hj, hc⟩ := (hk c).mp h1
      exact ⟨(List.all_eq_true.mp hlet) c (List.mem_of_getElem? hc), by omega⟩
    · rintro ⟨h1, h2⟩
      obtain ⟨k, hk2, hp⟩ := cntP_key (show 0 < cntP st (lP st c) e by omega)
      have hlt := lP_lt h1 hp
      have hc : (typed st)[k]? = some c := by
        unfold lP at hp
        rw [List.getD_eq_getElem?_getD, List.getElem?_eq_getElem (by rw [typed_len]; exact hlt)] at hp
        rw [List.getElem?_eq_getElem (by rw [typed_len]; exact hlt)]
        have : (typed st)[k]'(by rw [typed_len]; exact hlt) = c := by simpa using hp
        rw [this]
      obtain ⟨p, hp1, e1⟩ := List.mem_map.mp ((hk c).mpr ⟨k, hlt, hc⟩)
      have h3 : getW W c = p.2 := getW_mem hn (by rw [← e1]; exact hp1)
      rw [hv] at h3
      refine List.mem_map.mpr ⟨p, ?_, e1⟩
      rw [List.mem_filter, decide_eq_true_eq]
      exact ⟨hp1, by omega⟩
  have hln : (lcs st a e).Nodup := asc_nodup ((List.pairwise_lt_range' (s := 97) (n := 26)).filter _)
  refine ⟨?_, fun p hp => ?_⟩
  · rw [kvL_len, kvL_len]
    have h1 := nodup_sub hln fun c hc => (hm c).mpr hc
    have h2 := nodup_sub hsub fun c hc => (hm c).mp hc
    unfold lcD
    rw [List.length_map] at h1 h2 ⊢
    omega
  · unfold kvL lcD at hp
    obtain ⟨q, hq, rfl⟩ := List.mem_map.mp hp
    obtain ⟨c, hc, rfl⟩ := List.mem_map.mp hq
    refine ⟨?_, rfl⟩
    have h1 := (hm c).mpr hc
    show valV _ (Sum.inr (sL [c]) : Key) = some (.int ((cntP st (lP st c) e : Int) - (cntP st (lP st c) a : Int)))
    rw [valV_inL h1]
    obtain ⟨p, hp1, e1⟩ := List.mem_map.mp h1
    have h2 : getW (W.filter fun p => decide ((0 : Int) < p.2)) c = p.2 := getW_mem hsub (by rw [← e1]; exact hp1)
    have h3 : getW W c = p.2 := getW_mem hn (by rw [← e1]; exact (List.mem_filter.mp hp1).1)
    rw [h2, ← h3, hv]
end Pk
/-! ## Places of keys and letters, further -/
namespace Pk
theorem exF_sub : ∀ (st : List Stp) (E : List Nat) (n : Nat), (∀ k ∈ E, k ∈ exF E n st) ∧ ∀ k, n ≤ k → k < n + nk st → k ∈ exF E n st
  | [], E, n => ⟨fun k h => h, fun k h1 h2 => absurd h2 (by show ¬ k < n + 0; omega)⟩
  | .wr w :: r, E, n => by
    have ih := exF_sub r (E ++ List.range' n w.length) (n + w.length)
    have e1 : nk (.wr w :: r) = w.length + nk r := by simp [nk, Stp.ks]
    refine ⟨fun k h => ih.1 k (List.mem_append_left _ h), fun k h1 h2 => ?_⟩
    by_cases h3 : k < n + w.length
    · exact ih.1 k (List.mem_append_right _ (by rw [List.mem_range'_1]; omega))
    · exact ih.2 k (by omega) (by omega)
  | .pa f l t :: r, E, n => by
    have ih := exF_sub r (E ++ (List.replicate t ((E.drop f).take (l + 1 - f))).flatten) n
    have e1 : nk (.pa f l t :: r) = nk r := by simp [nk, Stp.ks]
    exact ⟨fun k h => ih.1 k (List.mem_append_left _ h), fun k h1 h2 => ih.2 k h1 (by omega)⟩
theorem ex_all {st : List Stp} {k : Nat} (h : k < nk st) : k ∈ ex st := (exF_sub st [] 0).2 k (Nat.zero_le _) (by omega)
theorem isIn_one (k x : Nat) : isIn [k] x = decide (x = k) := by
  unfold isIn
  simp
theorem cnt_in (st : List Stp) (k p : Nat) : cntP st (isIn [k]) p = cnt st k p := by
  unfold cntP cnt List.count
  refine List.countP_congr fun x _ => ?_
  rw [isIn_one]
  simp
theorem cntP_split (st : List Stp) (P : Nat → Bool) {p q : Nat} (h : p ≤ q) : cntP st P q = cntP st P p + (((ex st).take q).drop p).countP P := by
  unfold cntP
  have e : (ex st).take p = ((ex st).take q).take p := by rw [List.take_take, Nat.min_eq_left h]
  rw [e, ← List.countP_append, List.take_append_drop]
theorem cntP_imp {st : List Stp} {P L : Nat → Bool} (h : ∀ k, P k = true → L k = true) {p q : Nat} (hpq : p ≤ q) : cntP st P q + cntP st L p ≤ cntP st L q + cntP st P p := by
  rw [cntP_split st P hpq, cntP_split st L hpq]
  have := List.countP_mono_left (l := ((ex st).take q).drop p) (p := P) (q := L) (fun x _ hx => h x hx)
  omega
theorem cntP_top {st : List Stp} {m : Nat} (h : Goes m 0 st) (P : Nat → Bool) (p : Nat) : cntP st P p ≤ cntP st P (sz st) := by
  rcases Nat.le_total p (sz st) with z | z
  · exact cntP_mono st P z
  · rw [cntP_all h P z, cntP_all h P (Nat.le_refl _)]
    exact Nat.le_refl _
theorem occ_first {st : List Stp} {P : Nat → Bool} {p k : Nat} (hp : (ex st)[p]? = some k) (hk : P k = true) : (occ st P)[cntP st P p]? = some p := occ_get.mpr ⟨k, hp, hk, rfl⟩
theorem occ_at {st : List Stp} {m : Nat} (h : Goes m 0 st) {P : Nat → Bool} {n p : Nat} (e : (occ st P)[n]? = some p) : ∃ k, (ex st)[p]? = some k ∧ P k = true ∧ cntP st P p = n ∧ cntP st P (p + 1) = n + 1 ∧ p < sz st := by
  obtain ⟨k, h1, h2, h3⟩ := occ_get.mp e
  have h4 := cntP_succ (P := P) h1
  rw [if_pos h2] at h4
  have h5 := (List.getElem?_eq_some_iff.mp h1).1
  rw [ex_len st h] at h5
  exact ⟨k, h1, h2, h3, by omega, h5⟩
/-- the next place of P from p on -/
theorem next_ge {st : List Stp} {m : Nat} (h : Goes m 0 st) {P : Nat → Bool} {p r : Nat} (e : (occ st P)[cntP st P p]? = some r) : p ≤ r := by
  obtain ⟨k, h1, h2, h3, h4, h5⟩ := occ_at h e
  rcases Nat.lt_or_ge r p with z | z
  · have := cntP_mono st P (show r + 1 ≤ p by omega)
    omega
  · exact z
theorem next_le {st : List Stp} {m : Nat} (h : Goes m 0 st) {P L : Nat → Bool} (hi : ∀ k, P k = true → L k = true) {p r q : Nat} (e : (occ st P)[cntP st P p]? = some r) (e2 : (occ st L)[cntP st L p]? = some q) : q ≤ r := by
  have hr := next_ge h e
  obtain ⟨k, h1, h2, h3, h4, h5⟩ := occ_at h e
  obtain ⟨k2, g1, g2, g3, g4, g5⟩ := occ_at h e2
  rcases Nat.lt_or_ge r q with z | z
  · have a1 := cntP_succ (P := L) h1
    rw [if_pos (hi k h2)] at a1
    have a2 := cntP_mono st L (show r + 1 ≤ q by omega)
    have a3 := cntP_mono st L hr
    omega
  · exact z
theorem next_none {st : List Stp} (h : Goes most 0 st) {P L : Nat → Bool} (hi : ∀ k, P k = true → L k = true) {p : Nat} (e2 : (occ st L)[cntP st L p]? = none) : (occ st P)[cntP st P p]? = none := by
  cases e : (occ st P)[cntP st P p]? with
  | none => rfl
  | some r =>
    exfalso
    have hr := next_ge h e
    obtain ⟨k, h1, h2, h3, h4, h5⟩ := occ_at h e
    have a1 := cntP_succ (P := L) h1
    rw [if_pos (hi k h2)] at a1
    have a3 := cntP_mono st L hr
    have a4 := cntP_top h L (r + 1)
    obtain ⟨q, hq⟩ := occ_some h (P := L) (show cntP st L p < cntP st L (sz st) by omega)
    rw [e2] at hq
    cases hq
/-- the next place of L is that of its key -/
theorem next_key {st : List Stp} {m : Nat} (h : Goes m 0 st) {L : Nat → Bool} {p q : Nat} (e2 : (occ st L)[cntP st L p]? = some q) : ∃ k, (ex st)[q]? = some k ∧ L k = true ∧ (occ st (isIn [k]))[cntP st (isIn [k]) p]? = some q := by
  have hq := next_ge h e2
  obtain ⟨k, g1, g2, g3, g4, g5⟩ := occ_at h e2
  have hk : isIn [k] k = true := by rw [isIn_one]; exact decide_eq_true rfl
  have a1 := cntP_imp (st := st) (P := isIn [k]) (L := L) (fun x hx => by rw [isIn_one, decide_eq_true_eq] at hx; rw [hx]; exact g2) hq
  have a2 := cntP_mono st (isIn [k]) hq
  have a3 : cntP st (isIn [k]) p = cntP st (isIn [k]) q := by omega
  exact ⟨k, g1, g2, by rw [a3]; exact occ_first g1 hk⟩
theorem lks_mem {st : List Stp} {c k : Nat} : k ∈ lks st c ↔ k < nk st ∧ (typed st)[k]? = some c := by
  unfold lks lP
  rw [List.mem_filter, List.mem_range]
  constructor
  · rintro ⟨h1, h2⟩
    refine ⟨h1, ?_⟩
    rw [List.getD_eq_getElem?_getD, List.getElem?_eq_getElem (by rw [typed_len]; exact h1)] at h2
    rw [List.getElem?_eq_getElem (by rw [typed_len]; exact h1)]
    have : (typed st)[k]'(by rw [typed_len]; exact h1) = c := by simpa using h2
    rw [this]
  · rintro ⟨h1, h2⟩
    refine ⟨h1, ?_⟩
    rw [List.getD_eq_getElem?_getD, h2]
    simp
/-- a letter stands in a text where it is counted -/
theorem let_counted {st : List Stp} {m : Nat} (h : Goes m 0 st) {c : Nat} (hc : isLet c = true) : c ∈ typed st ↔ 0 < cntP st (lP st c) (sz st) := by
  constructor
  · intro z
    obtain ⟨k, hk⟩ := List.mem_iff_getElem?.mp z
    have hlt := (List.getElem?_eq_some_iff.mp hk).1
    rw [typed_len] at hlt
    rw [cntP_all h _ (Nat.le_refl _), List.countP_pos_iff]
    refine ⟨k, ex_all hlt, ?_⟩
    unfold lP
    rw [List.getD_eq_getElem?_getD, hk]
    simp
  · intro z
    obtain ⟨k, hk, hp⟩ := cntP_key z
    have hlt := lP_lt hc hp
    exact List.mem_of_getElem? (lks_mem.mp (List.mem_filter.mpr ⟨List.mem_range.mpr hlt, hp⟩)).2
theorem lks_nil {st : List Stp} {m : Nat} (h : Goes m 0 st) {c : Nat} (h0 : cntP st (lP st c) (sz st) = 0) : lks st c = [] := by
  rw [List.eq_nil_iff_forall_not_mem]
  intro k hk
  unfold lks at hk
  rw [List.mem_filter, List.mem_range] at hk
  rw [cntP_all h _ (Nat.le_refl _), List.countP_eq_zero] at h0
  exact h0 k (ex_all hk.1) hk.2
open PySem PySem.Spec PyProof.Rows L2
theorem at_typedI {st : List Stp} {v : Int} (h0 : 0 ≤ v) (h1 : v < (nk st : Nat)) : atI (sL (typed st)).cps.toList v = some (ltr st v.toNat) := by
  rw [show v = ((v.toNat : Nat) : Int) by omega]
  exact atI_nat (key_typed (by omega))
theorem at_cVI {n : Nat} {g : Nat → Int} {v : Int} (h0 : 0 ≤ v) (h1 : v < (n : Nat)) : atI (cV n g) v = some (.int (g v.toNat)) := by
  rw [show v = ((v.toNat : Nat) : Int) by omega]
  exact atI_nat (cV_get _ (by omega))
theorem valV_lcD {st : List Stp} {a e c : Nat} (hc : isLet c = true) (hae : a ≤ e) : (valV (kvL (lcD st a e)) (.inr (sL [c]))).getD (.int 0) = .int ((cntP st (lP st c) e : Int) - (cntP st (lP st c) a : Int)) := by
  have hm := cntP_mono st (lP st c) hae
  rw [valV_L]
  congr 1
  by_cases h : c ∈ lcs st a e
  · have : ∀ l : List Nat, c ∈ l → getW (l.map fun c => (c, (cntP st (lP st c) e : Int) - (cntP st (lP st c) a : Int))) c = (cntP st (lP st c) e : Int) - (cntP st (lP st c) a : Int) := by
      intro l
      induction l with
      | nil => intro z; simp at z
      | cons x r ih =>
        intro z
        show (if x = c then (cntP st (lP st x) e : Int) - (cntP st (lP st x) a : Int) else getW (r.map _) c) = _
        by_cases ex : x = c
        · rw [if_pos ex, ex]
        · rw [if_neg ex]
          exact ih ((List.mem_cons.mp z).resolve_left (Ne.symm ex))
    exact this _ h
  · have h0 : getW (lcD st a e) c = 0 := getW_out (by unfold lcD; rw [List.map_map]; simpa using h)
    rw [h0]
    unfold lcs at h
    rw [List.mem_filter, not_and, decide_eq_true_eq] at h
    have := h (let_iff.mp hc)
    omega
theorem lcD_at {st : List Stp} {a e i : Nat} {k : Key} {v : V} (h : (kvL (lcD st a e))[i]? = some (k, v)) : ∃ c, c ∈ lcs st a e ∧ isLet c = true ∧ k = .inr (sL [c]) ∧ v = .int ((cntP st (lP st c) e : Int) - (cntP st (lP st c) a : Int)) := by
  unfold kvL lcD at h
  rw [List.getElem?_map, List.getElem?_map] at h
  cases hx : (lcs st a e)[i]? with
  | none => rw [hx] at h; cases h
  | some c =>
    rw [hx] at h
    cases h
    have := List.mem_of_getElem? hx
    unfold lcs at this
    rw [List.mem_filter] at this
    exact ⟨c, List.mem_of_getElem? hx, let_iff.mpr this.1, rfl, rfl⟩
theorem lcD_mem {st : List Stp} {a e c : Nat} (hc : c ∈ lcs st a e) : valV (kvL (lcD st a e)) (.inr (sL [c])) = some (.int ((cntP st (lP st c) e : Int) - (cntP st (lP st c) a : Int))) := by
  have hl : isLet c = true := by
    unfold lcs at hc
    rw [List.mem_filter] at hc
    exact let_iff.mpr hc.1
  have hm : c ∈ (lcD st a e).map (·.1) := by
    unfold lcD
    rw [List.map_map]
    simpa using hc
  rw [valV_inL hm]
  congr 2
  have h2 := valV_lcD (st := st) (a := a) (e := e) hl
  rw [valV_inL hm] at h2
  by_cases hae : a ≤ e
  · have := h2 hae
    simpa using this
  · exfalso
    unfold lcs at hc
    rw [List.mem_filter, decide_eq_true_eq] at hc
    have := cntP_mono st (lP st c) (show e ≤ a by omega)
    omega
theorem iL {a c : Nat} {A B : Prop} (h1 : a = c → A) (h2 : ¬ a = c → B) : if decide (V.str ⟨#[a]⟩ = V.str (sL [c])) = true then A else B :=
  iB (fun h => h1 (by injection h with h; exact (List.cons.inj (sL_inj.mp h)).1)) fun h => h2 fun z => h (by rw [z]; rfl)
theorem lP_is {st : List Stp} {c k : Nat} (h : ltr st k = c) : lP st c k = true := beq_iff_eq.mpr h
theorem lP_not {st : List Stp} {c k : Nat} (h : ¬ ltr st k = c) : lP st c k = false := beq_eq_false_iff_ne.mpr h
/-- what is there of some places -/
theorem keeps_opt (L : List (Option Nat)) : keeps L.length (fun i => (L.getD i none).isSome) (fun i => optV (L.getD i none)) = (L.filterMap id).map fun k => V.int (k : Nat) := by
  unfold keeps
  rw [range_filterG none L Option.isSome optV]
  induction L with
  | nil => rfl
  | cons x r ih =>
    cases x with
    | none => rw [List.filter_cons, List.filterMap_cons]; exact ih
    | some k =>
      rw [List.filter_cons, List.filterMap_cons]
      show optV (some k) :: (r.filter Option.isSome).map optV = V.int (k : Nat) :: (r.filterMap id).map _
      rw [ih]
      rfl
theorem map_getDG {α β : Type} (d : α) (l : List α) (g : α → β) : (List.range l.length).map (fun i => g (l.getD i d)) = l.map g := by
  have h := range_filterG d l (fun _ => true) g
  rwa [List.filter_eq_self.mpr (fun _ _ => rfl), List.filter_eq_self.mpr (fun _ _ => rfl)] at h
theorem abc_list : (Str.ofString "abcdefghijklmnopqrstuvwxyz").cps.toList = List.range' 97 26 := by decide +kernel
theorem abc_len : (Str.ofString "abcdefghijklmnopqrstuvwxyz").length ≤ 26 := by decide +kernel
theorem at_abc {v : Int} (h0 : 0 ≤ v) (h1 : v < 26) : atI (Str.ofString "abcdefghijklmnopqrstuvwxyz").cps.toList v = some (97 + v.toNat) := by
  rw [abc_list, show v = ((v.toNat : Nat) : Int) by omega]
  refine atI_nat ?_
  rw [Int.toNat_natCast, List.getElem?_eq_getElem (by rw [List.length_range']; omega), List.getElem_range']
  simp
theorem abc_let {v : Int} (h0 : 0 ≤ v) (h1 : v < 26) : isLet (97 + v.toNat) = true := by
  unfold isLet
  rw [decide_eq_true (by omega), decide_eq_true (by omega)]
  rfl
end Pk
/-! ## d.get(x) of a written dict -/
namespace Pk
open PySem PySem.Spec PyProof.Rows L2
/-- a written dict of numbers at text keys: what its keys are worth -/
structure KInts (K : Fr) (w : World) (d : Addr) (kvs : List (Str × Int)) : Prop where
  at_ : ∃ es n, KDict K w d es n
  vals : ∀ p ∈ kvs, ∃ u, PySem.W.nsIn K d p.1 = some (some u) ∧ RelV (.int p.2) u
def tKGet1 (ty : TE) (kvs : List (Str × Int)) : TE := fun σ H Q => ty σ H fun y H2 => ∃ z i, y = .str z ∧ (z, i) ∈ kvs ∧ Q (.int i) H2
theorem pe_kget1 {X : Cx} {x : Str} {e : Expr} {p apos cpos : Pos} {ty : TE} {d : Addr} {kvs : List (Str × Int)} (D : KInts X.K X.w d kvs) (hg : Gl X x) (hm : X.mg x = some (.ref d)) (he : PE X e ty) (m : M1 X (.Name x p) "get" apos e cpos) (hdb : (x == ("__debug__" : Str)) = false := by decide) :
    PE X (.Call (.Attribute (.Name x p) "get" apos) [e] [] cpos) (tKGet1 ty kvs) := by
  refine ⟨fun pins s σ H Q I h => ?_⟩
  obtain ⟨es, n, kd⟩ := D.at_
  refine wpAny_Call_method m.base m.few m.line PySem.F.plainAttrs_dict PySem.F.slot_dict_get PySem.F.type_dict_get (ld_glob I hg hm ?_ hdb)
  have mo := PySem.W.mapOf_K (prog := X.prog) (w := X.w) I.kIn kd.at_ kd.lit
  refine ⟨kd_type kd I, fun b q => ?_, ?_⟩
  · cases q
    exact ⟨_, I.kIn _ _ kd.at_, rfl⟩
  · rw [m.trees]
    refine Calls.callWith_builtin rfl (Calls.evalArgs_plain (Calls.spliced_cons (thn (he.run pins s σ H _ I h) fun iv s2 ⟨y, H2, I2, ry, z, i, ey, hz, q⟩ => Calls.spliced_nil ?_)))
    subst ey
    obtain ⟨t, rfl⟩ := ry
    obtain ⟨u, hu, ru⟩ := D.vals _ hz
    have mo2 := PySem.W.mapOf_K (prog := X.prog) (w := X.w) I2.kIn kd.at_ kd.lit
    refine call_meetsIn PySem.F.slot_dict_get mo2.typeIs PySem.F.entry_dict_get (PySem.F.args_dict_get_2 _ _) (meets_dict_get (PySem.strKind X.prog X.w) d (PySem.strKind_is X.prog X.w z t) kd.low) ⟨_, mo2, ?_⟩
    rw [PySem.W.find_K kd.at_ hu]
    exact ⟨.int i, H2, I2.tok _, ru, q⟩
end Pk
/-! ## a field as a target; len of an own class -/
namespace Pk
open PySem PySem.Spec PyProof.Rows L2
section
variable {X : Cx}
def gFld (K : Fr) (to : TE) (f : Str) : TG := fun v σ H Q => to σ H fun x H2 => ∃ a C dx fs, x = .ref a ∧ H2 a = some (.ins C dx fs) ∧ Cls K C ∧ NoAttr K C f ∧ fs.length < 1000 ∧ Q σ (upd H2 a (.ins C dx (putF f v fs)))
theorem pg_fld {o : Expr} {to : TE} {f : Str} {pos : Pos} (ho : PE X o to) : PG X (.Attribute o f pos) (gFld X.K to f) := by
  refine ⟨fun pins s σ H y u Q I ry h => ?_⟩
  refine PySem.W.kas_attr (thn (ho.run pins s σ H _ I h) fun ov s2 ⟨x, H2, I2, rx, a, C, dx, fs, ex, ea, c, n, l, q2⟩ => ?_)
  subst ex
  obtain rfl : ov = Value.ref a := rx
  exact setattr_ok I2 ea c n l ry fun s3 I3 => ⟨σ, _, I3, q2⟩
def rLenO (C : Addr) (sp : Sp) (E : XK) : List V → Hp → VK → Prop := fun xs H Q => ∃ a dx fs, xs = [.ref a] ∧ H a = some (.ins C dx fs) ∧ sp [.ref a] H (fun y H2 => ∃ n : Int, y = .int n ∧ 0 ≤ n ∧ n < 9223372036854775808 ∧ Q (.int n) H2) E
theorem call_lenO {CX : CXT} {k : Nat} {C f : Addr} {sp : Sp} {E : XK} (hs : OpF X.K C "__len__" f) (F : FnR X.prog X.w X.K X.mg X.base CX k f sp) (hr : Room (k + 1) X.A) (hx : Passes CX X E) : CallR X (.builtin "len") (rLenO C sp E) := by
  intro pins s σ H xs us Q I r h
  obtain ⟨a, dx, fs, ex, ha, q⟩ := h
  subst ex
  obtain ⟨u, eu, rx⟩ := vals1 r
  subst eu
  cases rx
  obtain ⟨mA, O, _⟩ := ins_get I.hok ha
  obtain ⟨oa, JA, _⟩ := O.look
  obtain ⟨m, hF⟩ := I.fr
  refine PySem.W.len_K hF I.ok.mod.kin JA hs.at_ hs.fn (wpAny_mono (wpAny_call (codeAny_mono (SlX.run_at (us := [.ref a]) (ws := [V.ref a]) F hr.in1 I.env0.in1 hx I (.cons rfl .nil) q) fun r s3 hq => by
    cases r with
    | error e => exact hq
    | ok fl => cases fl with
      | ret w => exact hq
      | _ => exact hq.elim)) (fun v s3 hq => ?_) fun _ _ z => z)
  obtain ⟨y, H3, I3, ry, n, ey, h0, h1, q3⟩ := hq
  subst ey
  obtain ⟨t, rfl⟩ := ry
  exact ⟨⟨h0, by omega⟩, .int n, H3, I3.tok _, ⟨_, rfl⟩, q3⟩
end
end Pk
namespace Pk
open PySem PySem.Spec PyProof.Rows L2
def tMethSA (K : Fr) (C : Addr) (m : Str) (g : Addr) (sp : Sp) (E : XK) (ta te : TE) : TE := fun σ H Q => ta σ H fun x H1 => ∃ a dx fs, x = .ref a ∧ H1 a = some (.ins C dx fs) ∧ fs.lookup m = none ∧
  ∀ q, H1 q = none → te σ (upd H1 q (.met g a)) fun y H2 => ∃ b vs, y = .ref b ∧ (SqT K H2 b vs ∨ SqL K H2 b vs) ∧ H2 q = some (.met g a) ∧ sp (.ref a :: vs) H2 Q E
/-- o.m( *e), e a tuple or a list -/
theorem pe_methSA {X : Cx} {CX : CXT} {k : Nat} {C g : Addr} {m : Str} {sp : Sp} {E : XK} {o e : Expr} {ta te : TE} {p apos pos : Pos} (he : PE X o ta) (c : Cls X.K C) (b : BMeth X.K C m g) (F : FnR X.prog X.w X.K X.mg X.base CX k g sp) (hr : Room k X.A)
    (hx : Passes CX X E) (ha : PE X e te) (hbase : attributeBase o m X.env (eval o X.env) = eval o X.env := by rfl) : PE X (.Call (.Attribute o m apos) [.Starred e p] [] pos) (tMethSA X.K C m g sp E ta te) := by
  refine ⟨fun pins s σ H Q I h => starcall_of hbase (thn (he.run pins s σ H _ I h) fun u s1 ⟨x, H1, I1, rx, a, dx, fs, ex, ea, l, q⟩ => ?_)⟩
  subst ex
  obtain rfl : u = Value.ref a := rx
  refine getbound_ok I1 ea c b l fun q1 s2 hq1 I2 => PySem.W.ks_call (P := PySem.W.MethP X.K q1 g (.ref a)) rfl (PySem.W.keeps_M b.fi) (PySem.W.ks_lone ?_)
  refine thn (ha.run pins s2 σ _ _ I2 (q q1 hq1)) fun v s3 ⟨y, H2, I3, ry, t, vs, ey, ht, hm, hsp⟩ => ?_
  subst ey
  cases ry
  refine StX.star_any I3 ht fun us s4 I4 rv => ⟨met_P I4 hm, wpAny_call (PySem.W.method_call (met_P I4 hm).1 ?_)⟩
  exact run_fnR (us := Value.ref a :: us) (vs := V.ref a :: vs) F hr hx I4 (.cons rfl rv) hsp
end Pk
/-! ## sorted(set(xs)), sum(d.values()) -/
namespace Pk
open PySem PySem.Spec PyProof.Rows L2
/-- a set, just made -/
abbrev emptyS (w : World) : Obj := { cls := .type "set", dict := none, data := .set #[] 0 (.fresh 0 0 (!w.params.followText "set-order")) }
section
variable {P : Program} {w : World} {A : Around} {E : Value → Shared → Prop} {s : Shared}
theorem type_codes {T newId initId : String} {Bi : Builtin} {args : List Value} {Q Q₁ : Value → Shared → Prop} (ft : TypeCalled T newId initId) (hct : checkTypeCall T ⟨args, []⟩ = pure ()) (en : entryFor table initId = some Bi)
    (hnew : codeAny (model P w) A.in1 (.call (.builtin newId) ⟨.type T :: args, []⟩) (wants Q₁ E) s)
    (hty : ∀ obj s₁, Q₁ obj s₁ → s₁.TypeIs obj T) (hchk : ∀ obj s₁, Q₁ obj s₁ → ∀ (M : Model) (B : Around) (E' : Value → Shared → Prop) (Q' : Unit → Shared → Prop), Q' () s₁ → wpAny M B (checkBuiltinCall initId ⟨obj :: args, []⟩) Q' E' s₁)
    (hnext : ∀ obj s₁, Q₁ obj s₁ → wpAny (model P w) A.in1.in1 (Bi ⟨obj :: args, []⟩)
      (fun fin s' => match fin with | .done f => wants (fun r s₂ => r = .none ∧ Q obj s₂) E (.ok f) s' | .again c' => c'.quiet = true ∧ codeAny (model P w) A.in1 c' (wants (fun r s₂ => r = .none ∧ Q obj s₂) E) s')
      (fun e s' => wants (fun r s₂ => r = .none ∧ Q obj s₂) E (.error e) s') s₁) : wpAny (model P w) A (call (.type T) args) Q E s := by
  obtain ⟨c, tl, f1⟩ := ft.mro
  have f2 := ft.made; have f3 := ft.sub; have f4 := ft.notType; have f5 := ft.canCreate
  refine wpAny_call (codeAny_of_tree (show wpAny _ _ (callAny (.type T) _) _ _ _ from wpAny_pure ⟨Code.quiet_builtin _ (by decide +kernel), codeAny_builtin F.entry_type_call ?_⟩))
  rw [Around.under_plain (weight_type_call_type T args []) rfl]
  repeat (any_goals (first | assumption | wp_step))
  refine codeAny_mono hnew fun r s₁ hr => ?_
  match r, hr with
  | .error e, hr => exact hr
  | .ok (.ret obj), hr =>
    have y1 := hnext _ _ hr
    have y2 := hchk _ _ hr
    have y3 := hty _ _ hr
    have f6 := ft.init.lookup; have f7 := ft.init.bind obj
    repeat (any_goals (first | assumption | wp_step))
    refine codeAny_mono (codeAny_call_builtin ft.init.plain en (y2 _ _ _ _ y1)) fun r₂ s₂ z => ?_
    match r₂, z with
    | .error e, z => exact z
    | .ok (.ret r), z =>
      obtain ⟨rfl, z⟩ := z
      repeat (any_goals (first | assumption | wp_step))
theorem set_ofL {l : Addr} {its : List Value} (ns : List Int) {Q : Value → Shared → Prop} (hh : A.handled = none) (hl : s.heap.IsList l its.toArray) (hi : IntsAre its ns) (hb : ns.length + 1 < scanBound)
    (h : ∀ (h' : Heap) (tk c : Nat), SetR w h' s.heap.objs.size (fun j => decide (j ∈ ns)) c → c ≤ ns.length → (∀ b o, s.heap.get? b = some o → h'.get? b = some o) → Q (.ref s.heap.objs.size) { s with heap := h', toks := tk }) :
    wpAny (model P w) A (call (.type "set") [.ref l]) Q E s := by
  have hsz : its.toArray.size = ns.length := by rw [List.size_toArray]; exact IntsAre.length hi
  refine type_codes (Q₁ := fun obj s₁ => obj = .ref s.heap.objs.size ∧ s₁ = { s with heap := s.heap.push (emptyS w) }) F.called_set (F.typeCall_set_1 _) F.entry_set_init (code_set_led1 _ ⟨rfl, rfl⟩) (fun obj s₁ h₁ => by obtain ⟨rfl, rfl⟩ := h₁; exact ⟨_, Heap.get?_push_size _ rfl, rfl⟩) (fun obj s₁ h₁ M B E' Q' q' => ?_) fun obj s₁ h₁ => ?_
  · obtain ⟨rfl, rfl⟩ := h₁
    exact check_set_init_1 ⟨_, Heap.get?_push_size _ rfl, rfl⟩ q'
  obtain ⟨rfl, rfl⟩ := h₁
  have gS : (s.heap.push (emptyS w)).get? s.heap.objs.size = some (emptyS w) := Heap.get?_push_size _ rfl
  have tS : Shared.TypeIs { s with heap := s.heap.push (emptyS w) } (.ref s.heap.objs.size) "set" := ⟨_, gS, rfl⟩
  obtain ⟨⟨cl, dd, dt, sl⟩, hol, hcl, nl, hdl⟩ := hl
  simp only at hcl hdl
  subst hcl hdl
  have hol2 : (s.heap.push (emptyS w)).get? l = some { cls := .type "list", dict := dd, data := .seq its.toArray nl, slots := sl } := Heap.get?_push_of_some _ hol
  have i1 : (s.heap.push (emptyS w)).IsList l its.toArray := ⟨_, hol2, rfl, nl, rfl⟩
  have b1 := F.sub_list_set
  have b2 := F.sub_list_frozenset
  have b3 : (Value.type "list" == Value.type "dict") = false := by decide
  unfold Builtin.«set.__init__» noKeywords Builtin.Frozenset.updateFrom
  generalize hPI : pyIter = PI
  wp_walk
  subst hPI
  refine wpAny_pyIter_list i1 ?_
  refine wpAny_bind (wpAny_runValue ?_)
  have lt : l < s.heap.objs.size := Heap.lt_size hol
  have zz : (s.heap.push (emptyS w)).objs.size = s.heap.objs.size + 1 := Heap.size_push ..
  have n1 : l ≠ (s.heap.push (emptyS w)).objs.size := by rw [zz]; exact Nat.ne_of_lt (Nat.lt_succ_of_lt lt)
  have n2 : s.heap.objs.size ∉ [(s.heap.push (emptyS w)).objs.size, l] := by
    rw [zz, List.mem_cons, List.mem_singleton]
    exact not_or.mpr ⟨Nat.ne_of_lt (Nat.lt_succ_self _), Nat.ne_of_gt lt⟩
  refine set_update_ints ((Walks.list (by simp [hh]) _ l n1 its.toArray).toS) s.heap.objs.size n2 ns hsz hb (fun i v hv => ?_) (its.toArray.size - 0) 0 _ rfl (Nat.zero_le _) ⟨⟨_, Heap.get?_push_size _ rfl, rfl, rfl⟩, i1.push _⟩ ⟨0, Nat.le_refl 0, setR_new_at (Heap.get?_push_of_some _ gS)⟩ fun s' c' hm hc' hS' => ?_
  · have hi2 : i < ns.length := by rw [← hsz]; exact (Array.getElem?_eq_some_iff.mp hv).1
    obtain ⟨t, e⟩ := IntsAre.int_at hi i v (by simpa using hv)
    exact ⟨ns[i], t, List.getElem?_eq_getElem hi2, by rw [e, List.getD_eq_getElem?_getD, List.getElem?_eq_getElem hi2] <;> rfl⟩
  · obtain ⟨h', g2, d2, tk2, o2⟩ := s'
    obtain rfl : g2 = s.gens := hm.gens
    obtain rfl : d2 = s.drawn := hm.drawn
    obtain rfl : o2 = s.os := hm.os
    show wpAny _ _ _ _ _ _
    refine wpAny_pure ?_
    show wpAny _ _ (ret Value.none) _ _ _
    rw [hsz] at hc'
    refine wpAny_pure ⟨rfl, h h' tk2 c' hS' hc' fun b o e => ?_⟩
    have hb0 := Heap.lt_size e
    refine hm.heap b o ?_ (Heap.get?_push_of_some _ (Heap.get?_push_of_some _ e))
    rw [List.mem_cons, List.mem_singleton, zz]
    exact not_or.mpr ⟨Nat.ne_of_lt hb0, Nat.ne_of_lt (Nat.lt_succ_of_lt hb0)⟩
/-- sorted of a set of whole numbers, however many -/
theorem sorted_setN {a : Addr} {S : Int → Bool} {n : Nat} {Q : Value → Shared → Prop} (R : SetR w s.heap a S n) (hh : A.handled = none) (hn0 : n ≤ 4000)
    (hQ : ∀ s' p (out : Array Value) (c : Nat) (ns : List Int), (∀ b o, s.heap.get? b = some o → s'.heap.get? b = some o) → s'.gens = s.gens → s'.os = s.os → s.heap.objs.size ≤ p →
      s'.heap.get? p = some (seqObj "list" out c) → IntsAre out.toList ns → ns.Pairwise (· < ·) → (∀ k, k ∈ ns ↔ S k = true) → ns.length = n → Q (.ref p) s') :
    wpAny (model P w) A (call (.builtin "sorted") [.ref a]) Q E s := by
  obtain ⟨o, es, ep, t, ho, hex, hd, g, nd, hm, hb, hf, hn, hr, hl⟩ := R
  refine Calls.call_function_entry kind_sorted plain_sorted entry_sorted (args_sorted1 _) ?_
  unfold Builtin.«sorted»
  refine wpAny_bind (m := checkCount "sorted" 1 1 _) (wpAny_pure ?_)
  refine wpAny_bind (collect_set (A := A.in1) hh ⟨o, ho, hex.1, hd⟩ hf hb hr hl fun s1 vs k1 hz g1 o1 pm => ?_)
  have hvl : vs.length = n := by rw [pm.length_eq, List.length_map, Array.length_toList]; exact hn
  have hvz : vs.length ≤ sizeLine := by rw [hvl, sizeLine_eq]; omega
  have hI : IntsAre vs (vs.map SrtO.iv) := SrtO.ints_iv fun v hv => by
    obtain ⟨e, he, q⟩ := List.mem_map.mp (pm.mem_iff.mp hv)
    obtain ⟨k, tk, z1, _⟩ := g e he
    exact ⟨k, tk, by rw [← q]; exact z1⟩
  have pk : (vs.map SrtO.iv).Perm (es.toList.map keyOf) := by
    have q := pm.map SrtO.iv
    rw [List.map_map] at q
    exact q
  refine wpAny_bind (wpAny_newList ?_ hvz)
  have oL : (s1.heap.push (seqObj "list" vs.toArray 0)).get? s1.heap.objs.size = some (seqObj "list" vs.toArray 0) := Heap.get?_push_size _ rfl
  refine wpAny_bind (wpAny_holding (wpAny_call_entry slot_list_sort ⟨_, oL, rfl⟩ entry_list_sort (SrtO.list_sort_ord SrtO.swo_int oL hvz (fun h2 => SrtO.ints_sortable hI h2) fun out y1 y2 => ⟨_, rfl, ?_⟩) (args_list_sort _)))
  obtain ⟨x1, x2, x3⟩ := SrtO.ints_out hI y1 y2
  obtain ⟨c, hc⟩ := sortedHeap_at (vs := vs) (out := out.toArray) oL
  have pn := x2.trans pk
  refine wpAny_pure ⟨_, rfl, hQ _ s1.heap.objs.size out.toArray c (out.map SrtO.iv) (fun b u e => ?_) g1 o1 hz hc (by simpa using x1) (lt_of_le_nodup _ x3 (pn.nodup_iff.mpr nd)) (fun k => by rw [pn.mem_iff, ← hm k]) ?_⟩
  · have q := k1 b u e
    have lt := Heap.lt_size q
    show (sortedHeap (s1.heap.push (seqObj "list" vs.toArray 0)) s1.heap.objs.size vs out.toArray).get? b = some u
    rw [sortedHeap_old (Nat.ne_of_lt lt) (by rw [size_push']; exact Nat.lt_succ_of_lt lt)]
    exact Heap.get?_push_of_some _ q
  · rw [pn.length_eq, List.length_map, Array.length_toList]; exact hn
end
theorem sorted_inv {X : Cx} {pins : List (Addr × Obj)} {σ : L2.St} {H1 : Hp} {s2 : Shared} {a : Addr} {S : Int → Bool} {n : Nat} {Q : VK} {A : Around} {E : Value → Shared → Prop} (I2 : Inv X pins σ H1 s2) (R : SetR X.w s2.heap a S n) (hh : A.handled = none) (hn : n ≤ 1000)
    (q1 : ∀ (out : List Int) (q : Addr), out.Pairwise (· < ·) → (∀ k, k ∈ out ↔ S k = true) → H1 q = none → Q (.ref q) (upd H1 q (.lst (out.map V.int)))) :
    wpAny (model X.prog X.w) A (call (.builtin "sorted") [.ref a]) (fun u s' => ∃ x H', Inv X pins σ H' s' ∧ RelV x u ∧ Q x H') E s2 := by
  refine sorted_setN R hh (by omega) fun s' p out c ns2 k g o hp hg hi hs hm hl => ?_
  have hlen : (ns2.map V.int).length ≤ sizeLine := by rw [List.length_map, hl, sizeLine_eq]; omega
  have hn : H1 p = none := I2.hok.fresh hp
  have J : Inv X pins σ (upd H1 p (.lst (ns2.map V.int))) { s2 with heap := s'.heap, gens := s'.gens, drawn := s'.drawn, toks := s'.toks } :=
    I2.call (ch := []) (Un.laid k hp hn) (I2.hok.laid k hp ⟨hlen, out.toList, c, vals_of_ints hi, hg⟩) (by rw [g]; exact I2.bare) (fun _ z => nomatch z)
  have e : s' = { s2 with heap := s'.heap, gens := s'.gens, drawn := s'.drawn, toks := s'.toks } := by
    cases s'
    cases s2
    cases o
    rfl
  rw [e]
  exact ⟨.ref p, _, J, rfl, q1 ns2 p hs hm hn⟩
def tSortSet (K : Fr) (ta : TE) : TE := fun σ H Q => ta σ H fun x H1 => ∃ (l : Addr) (ns : List Int), x = .ref l ∧ SqL K H1 l (ns.map V.int) ∧ ns.length ≤ 1000 ∧
  ∀ (out : List Int) (q : Addr), out.Pairwise (· < ·) → (∀ k, k ∈ out ↔ k ∈ ns) → H1 q = none → Q (.ref q) (upd H1 q (.lst (out.map V.int)))
theorem pe_sortSet {X : Cx} (K : Fr) {a : Expr} {ta : TE} {p p2 q pos : Pos} (hg : Gl X "sorted") (hm : X.mg "sorted" = none) (hg2 : Gl X "set") (hm2 : X.mg "set" = none) (ha : PE X a ta) (hc : X.calm = true := by rfl)
    (na : starEach [a] X.env = (false, eval a X.env) :: starEach [] X.env := by rfl) (hK : X.K = K := by rfl) : PE X (.Call (.Name "sorted" p) [.Call (.Name "set" p2) [a] [] q] [] pos) (tSortSet K ta) := by
  subst hK
  refine ⟨fun pins s σ H Q I h => ?_⟩
  refine Call_ (ld_blt I hg hm b_sorted ?_)
  refine PyProof.Rows.callWith_builtin1 (PyProof.Rows.args_cons ?_ rfl) rfl rfl
  refine Call_ (ld_blt I hg2 hm2 boot_set ?_)
  refine PyProof.Rows.callWith_type1 (PyProof.Rows.args_cons (thn (ha.run pins s σ H _ I h) fun v s1 ⟨x, H1, I1, r1, q1⟩ => PyProof.Rows.args_nil ?_) na) na rfl
  obtain ⟨l, ns, rfl, hq, hl, q1⟩ := q1
  cases r1
  obtain ⟨its, r, pl, hz⟩ := I1.list hq
  refine set_ofL ns (I1.ok.hd hc) pl.isList r.ints (by unfold scanBound; omega) fun h' tk c hS hcl hk => ?_
  refine PyProof.Rows.args_nil ?_
  have I2 : Inv X pins σ H1 { s1 with heap := h', toks := tk } := I1.kept hk
  exact sorted_inv I2 hS (I2.ok.hd hc) (by omega) fun ns2 p hs hm hn => q1 ns2 p hs (fun k => (hm k).trans (by rw [decide_eq_true_eq])) hn
theorem preSum_sum : ∀ (is : List Int), preSum (fun i => is.getD i 0) is.length = is.sum := fun is => by
  have h : ∀ n, n ≤ is.length → preSum (fun i => is.getD i 0) n = (is.take n).sum := fun n => by
    induction n with
    | zero => intro _; rfl
    | succ n ih =>
      intro hn
      have e : is[n]? = some is[n] := List.getElem?_eq_getElem (by omega)
      show preSum (fun i => is.getD i 0) n + is.getD n 0 = _
      rw [ih (by omega), List.take_add_one, e, List.sum_append, List.getD_eq_getElem?_getD, e]
      simp
  rw [h _ (Nat.le_refl _), List.take_length]
/-- sum(d.values()), a dict with int values -/
def tSumVals (td : TE) : TE := fun σ H Q => td σ H fun x H1 => ∃ (a : Addr) (kvs : List (Key × V)) (is : List Int), x = V.ref a ∧ H1 a = some (.dK kvs) ∧ kvs.map (·.2) = is.map V.int ∧ Q (.int is.sum) H1
section
variable {X : Cx} {o : Expr} {p pos apos mpos : Pos} {td : TE}
theorem pe_sumVals (hc : X.calm = true) (hg : Gl X "sum") (hm : X.mg "sum" = none) (hd : PE X o td) (hbase : attributeBase o "values" X.env (eval o X.env) = eval o X.env := by rfl) (hline : (apos.endLine == mpos.line) = true := by rfl)
    (hse : starEach [Expr.Call (.Attribute o "values" apos) [] [] mpos] X.env = [(false, eval (Expr.Call (.Attribute o "values" apos) [] [] mpos) X.env)] := by rfl) :
    PE X (.Call (.Name "sum" p) [.Call (.Attribute o "values" apos) [] [] mpos] [] pos) (tSumVals td) := by
  refine ⟨fun pins s σ H Q I h => ?_⟩
  refine wpAny_Call_Name_kw (ld_blt I hg hm (u := .builtin "sum") (by first | rfl | decide +kernel) ?_ (by first | decide +kernel | decide) (by first | decide +kernel | decide))
  rw [hse]
  refine PySem.callWith_builtin1 (wpAny_Call_method0_late hbase hline (thn (hd.run pins s σ H _ I h) fun v s1 ⟨x, H1, I1, r1, a, kvs, is, ex, ha, hv, q⟩ => ?_))
  subst ex
  obtain rfl : v = Value.ref a := r1
  obtain ⟨_, hsys, vs, rel, dof⟩ := dk_of I1.hok ha
  obtain ⟨ep, dat⟩ := dof.dictAt
  have dat2 := dat
  obtain ⟨ob, es, ho, ex, hdat, hko, hpr, hnd⟩ := dat2
  refine ⟨"dict", "dict.values", F.plainAttrs_dict, F.slot_dict_values, F.type_dict_values, ⟨ob, ho, ex.1⟩, fun b e => ?_, Calls.callWith_builtin rfl (PySem.evalArgs_none ?_)⟩
  · cases e
    exact ⟨ob, ho, ex.2.1⟩
  refine call_meetsIn F.slot_dict_values ⟨ob, ho, ex.1⟩ F.entry_dict_values (F.args_dict_values_1 _) (meets_dict_values (mixKind X.prog X.w) a hsys) ⟨⟨vs, dof⟩, ?_⟩
  have d1 : (s1.heap.push { cls := .type "dict_values", data := .fields #[.ref a] }).DictAt (mixKind X.prog X.w) a vs ep := dat.keep fun b u e => Heap.get?_push_of_some _ e
  have hlv : vs.length = is.length := by
    have e1 := congrArg List.length hv
    rw [List.length_map, List.length_map] at e1
    rw [← e1]
    exact (KV.length rel).symm
  refine PySem.call_sum_walkAnyS (wpAny_pyIter_values (v := s1.heap.objs.size) (d := a) ⟨_, Heap.get?_push_size _ rfl, rfl, rfl⟩ d1 ?_)
  have lt : a < s1.heap.objs.size := Heap.lt_size ho
  have hsz : (s1.heap.push { cls := .type "dict_values", data := .fields #[.ref a] }).objs.size = s1.heap.objs.size + 1 := Heap.size_push _ _
  refine ⟨_, _, _, _, _, _, _, fun i => is.getD i 0, rfl, (Walks.dictValues (knd := mixKind X.prog X.w) (A := X.A.in1) (I.ok.hd hc) (s1.heap.push { cls := .type "dict_values", data := .fields #[.ref a] }).objs.size a (by rw [hsz]; exact Nat.ne_of_lt (Nat.lt_succ_of_lt lt)) vs ep).toS,
    ⟨⟨_, Heap.get?_push_size _ rfl, rfl, rfl⟩, d1.keep fun b u e => Heap.get?_push_of_some _ e⟩, fun b hb => ?_, fun i v hx => ?_, fun s' t' hm => ?_⟩
  · show b < ((s1.heap.push _).push _).objs.size
    rw [Heap.size_push, Heap.size_push]
    rw [hsz, List.mem_cons, List.mem_singleton] at hb
    rcases hb with e | e
    · rw [e]
      exact Nat.lt_succ_self _
    · rw [e]
      exact Nat.lt_succ_of_lt (Nat.lt_succ_of_lt lt)
  · obtain ⟨k, hk⟩ := hx
    obtain ⟨x, z1, z2⟩ := KV.at' rel hk
    have e1 : (kvs.map (·.2))[i]? = some x := by rw [List.getElem?_map, z1] <;> rfl
    rw [hv, List.getElem?_map] at e1
    obtain ⟨j, hj, rfl⟩ := Option.map_eq_some_iff.mp e1
    obtain ⟨t, e3⟩ := z2
    exact ⟨t, by show _ = Value.int (is.getD i 0) t; rw [e3, List.getD_eq_getElem?_getD, hj] <;> rfl⟩
  · rw [PySem.Moved.eq_with hm, hlv, preSum_sum]
    refine ⟨.int is.sum, H1, I1.kept fun b u e => hm.heap b u (fun z => ?_) (Heap.get?_push_of_some _ (Heap.get?_push_of_some _ e)), ⟨t', rfl⟩, q⟩
    have e1 := List.mem_singleton.mp z
    have e2 := Heap.lt_size e
    rw [hsz] at e1
    rw [e1] at e2
    exact absurd e2 (Nat.not_lt.mpr (Nat.le_succ _))
end
end Pk
/-! ## len(set(xs)), sorted(d), dict(d), list(d) -/
namespace Pk
open PySem PySem.Spec PyProof.Rows L2
section
/-- len(set(xs)), xs a list of whole numbers -/
def tLenSetI (K : Fr) (ta : TE) : TE := fun σ H Q => ta σ H fun x H1 => ∃ (l : Addr) (ns : List Int), x = .ref l ∧ SqL K H1 l (ns.map V.int) ∧ ns.length ≤ 1000 ∧
  ∀ out : List Int, out.Nodup → (∀ k, k ∈ out ↔ k ∈ ns) → Q (.int out.length) H1
theorem pe_lenSetI {X : Cx} (K : Fr) {a : Expr} {ta : TE} {p p2 q pos : Pos} (hg : Gl X "len") (hm : X.mg "len" = none) (hg2 : Gl X "set") (hm2 : X.mg "set" = none) (ha : PE X a ta) (hc : X.calm = true := by rfl)
    (na : starEach [a] X.env = (false, eval a X.env) :: starEach [] X.env := by rfl) (hK : X.K = K := by rfl) : PE X (.Call (.Name "len" p) [.Call (.Name "set" p2) [a] [] q] [] pos) (tLenSetI K ta) := by
  subst hK
  refine ⟨fun pins s σ H Q I h => ?_⟩
  refine Call_ (ld_blt I hg hm boot_len ?_)
  refine PyProof.Rows.callWith_builtin1 (PyProof.Rows.args_cons ?_ rfl) rfl rfl
  refine Call_ (ld_blt I hg2 hm2 boot_set ?_)
  refine PyProof.Rows.callWith_type1 (PyProof.Rows.args_cons (thn (ha.run pins s σ H _ I h) fun v s1 ⟨x, H1, I1, r1, q1⟩ => PyProof.Rows.args_nil ?_) na) na rfl
  obtain ⟨l, ns, rfl, hq, hl, q1⟩ := q1
  cases r1
  obtain ⟨its, r, pl, hz⟩ := I1.list hq
  refine set_ofL ns (I1.ok.hd hc) pl.isList r.ints (by unfold scanBound; omega) fun h' tk c hS hcl hk => ?_
  refine PyProof.Rows.args_nil ?_
  have I2 : Inv X pins σ H1 { s1 with heap := h', toks := tk } := I1.kept hk
  obtain ⟨o, es, ep, t, ho, hex, hd, g, nd, hmm, hb, hf, hn, hr, hl2⟩ := hS
  have hlen : (es.toList.map keyOf).length = es.size := by rw [List.length_map, Array.length_toList]
  refine call_len_set ho hex hd hf (by rw [hn] <;> omega) ⟨.int (es.toList.map keyOf).length, H1, I2.tok _, ⟨_, by rw [hlen]⟩, q1 _ nd fun k => ?_⟩
  rw [← hmm k, decide_eq_true_eq]
/-- sorted(d), whole numbers for keys -/
def rSortedDI : List V → Hp → VK → Prop := fun xs H Q => ∃ (a : Addr) (kvs : List (Key × V)) (ks : List Int), xs = [.ref a] ∧ Rd H a (.dK kvs) ∧ kvs.map (·.1) = ks.map Sum.inl ∧ ks.length ≤ 10000 ∧
    ∀ (ys : List Int) (p : Addr), ys.Perm ks → ys.Pairwise (· ≤ ·) → H p = none → Q (.ref p) (upd H p (.lst (ys.map V.int)))
theorem cr_sortedDI {X : Cx} (hcalm : X.calm = true) : CallR X (.builtin "sorted") rSortedDI := by
  intro pins s σ H xs us Q I r q
  obtain ⟨a, kvs, ks, ex, hd, hks, h64, q⟩ := q
  subst ex
  obtain ⟨u, eu, rx⟩ := vals1 r
  subst eu
  cases rx
  obtain ⟨z, lo, vs, rel, dd⟩ := dk_rd I.hok hd
  obtain ⟨ep, hat⟩ := dd.dictAt
  have hkeys : vs.map (·.1) = ks.map Sum.inl := rel.keys.symm.trans hks
  have hl : vs.length = ks.length := by
    have e := congrArg List.length hkeys
    rw [List.length_map, List.length_map] at e
    exact e
  have h16 : vs.length ≤ sizeLine := by rw [hl, sizeLine_eq]; omega
  refine Calls.call_function_entry PyProof.Rows.kind_sorted PyProof.Rows.plain_sorted PyProof.Rows.entry_sorted (PyProof.Rows.args_sorted1 _) ?_
  unfold Builtin.«sorted»
  refine wpAny_bind (m := checkCount "sorted" 1 1 _) (wpAny_pure ?_)
  refine wpAny_bind (PySem.W.kdu_collect (A := X.A.in1) (PySem.W.kdl_dict (knd := mixKind X.prog X.w) (kvs := vs) (ep := ep) lo) (I.ok.hd hcalm) hat h16 fun h' tk acc hk hacc => ?_)
  have hal : acc.toList.length = ks.length := by rw [Array.length_toList, hacc.1, hl]
  have hS : IntsAre acc.toList ks := ints_each hal fun j v e => by
    obtain ⟨k, x, e1, e2⟩ := hacc.2 j v (by rw [← Array.getElem?_toList]; exact e)
    have e3 : (vs.map (·.1))[j]? = some k := by rw [List.getElem?_map, e1]; rfl
    rw [hkeys, List.getElem?_map] at e3
    cases e4 : ks[j]? with
    | none => rw [e4] at e3; cases e3
    | some y =>
      rw [e4] at e3
      have e5 : Sum.inl y = k := Option.some.inj e3
      subst e5
      rcases keyIs_shape (show keyIs (Sum.inl y) v = true from e2) with ⟨i, t, ek, ev⟩ | ⟨z, t, ek, ev⟩
      · cases ek
        exact ⟨y, t, rfl, ev⟩
      · cases ek
  have I1 : Inv X pins σ H { s with heap := h', toks := tk } := I.kept hk
  have hvz : acc.toList.length ≤ sizeLine := by rw [hal, sizeLine_eq]; omega
  refine wpAny_bind (wpAny_newList ?_ hvz)
  have hoL : (h'.push (seqObj "list" acc.toList.toArray 0)).get? h'.objs.size = some (seqObj "list" acc.toList.toArray 0) := Heap.get?_push_size _ rfl
  show wpAny _ _ _ _ _ { s with heap := h'.push (seqObj "list" acc.toList.toArray 0), toks := tk }
  refine wpAny_bind (wpAny_holding (wpAny_call_entry PyProof.Rows.slot_list_sort ⟨_, hoL, rfl⟩ PyProof.Rows.entry_list_sort
    (SrtO.list_sort_ord (s := { s with heap := h'.push (seqObj "list" acc.toList.toArray 0), toks := tk }) SrtO.swo_int hoL hvz (fun h2 => SrtO.ints_sortable hS h2) fun out y1 y2 => ⟨_, rfl, ?_⟩) (PyProof.Rows.args_list_sort _)))
  obtain ⟨g1, g2, g3⟩ := SrtO.ints_out hS y1 y2
  obtain ⟨e', he'⟩ := PyProof.Rows.sortedHeap_at (vs := acc.toList) (out := out.toArray) hoL
  have hlen : ((out.map SrtO.iv).map V.int).length ≤ sizeLine := by
    rw [List.length_map, g2.length_eq]
    exact Nat.le_trans h64 (by decide)
  refine wpAny_pure ⟨_, rfl, .ref h'.objs.size, upd H h'.objs.size (.lst ((out.map SrtO.iv).map V.int)), I1.laid (t' := tk) (fun b u e => ?_) (Nat.le_refl _)
    (show ObjOk X.prog X.w _ _ _ (.lst ((out.map SrtO.iv).map V.int)) from ⟨hlen, out, e', vals_of_ints g1, he'⟩), rfl, q _ _ g2 g3 (I1.hok.fresh (Nat.le_refl _))⟩
  have hb : b < h'.objs.size := Heap.lt_size e
  rw [PyProof.Rows.sortedHeap_old (Nat.ne_of_lt hb) (by rw [size_push']; exact Nat.lt_succ_of_lt hb)]
  exact Heap.get?_push_of_some _ e
def rSortedB (K : Fr) : List V → Hp → VK → Prop := fun xs H Q => (∃ (a : Addr) (ns : List Int), xs = [V.ref a] ∧ SqL K H a (ns.map V.int) ∧
  ∀ (ns' : List Int) (p : Addr), ns'.Perm ns → ns'.Pairwise (· ≤ ·) → H p = none → Q (.ref p) (upd H p (.lst (ns'.map V.int)))) ∨ rSortedDI xs H Q
theorem cr_sortedB {X : Cx} (K : Fr) (hc : X.calm = true := by rfl) (h : X.K = K := by rfl) : CallR X (.builtin "sorted") (rSortedB K) := by
  subst h
  exact cr_sortedI.or (cr_sortedDI hc)
/-- dict(d), list(d) besides -/
def rDictB (K : Fr) : List V → Hp → VK → Prop := fun xs H Q => rDictP K xs H Q ∨ ∃ (a : Addr) (kvs : List (Key × V)), xs = [.ref a] ∧ Rd H a (.dK kvs) ∧ ∀ p, H p = none → Q (.ref p) (upd H p (.dK kvs))
theorem dictB {X : Cx} (K : Fr) (hc : X.calm = true := by rfl) (h : X.K = K := by rfl) : CallR X (.type "dict") (rDictB K) := (dictP K hc h).or call_dictD
def rListB (K : Fr) : List V → Hp → VK → Prop := fun xs H Q => rListK K xs H Q ∨ ∃ (a : Addr) (kvs : List (Key × V)), xs = [.ref a] ∧ Rd H a (.dK kvs) ∧ ∀ p, H p = none → Q (.ref p) (upd H p (.lst (kvs.map fun kv => kV kv.1)))
theorem listB {X : Cx} (K : Fr) (hc : X.calm = true := by rfl) (h : X.K = K := by rfl) : CallR X (.type "list") (rListB K) := (listK K h).or (call_listD hc)
end
end Pk
/-! ## Dicts from whole numbers to letters -/
namespace Pk
open PySem PySem.Spec PyProof.Rows L2
abbrev LR := List (Nat × Nat)
def kvR (lt : LR) : List (Key × V) := lt.map fun p => (.inl (p.1 : Int), .str (sL [p.2]))
/-- the letter at g, or z -/
def getL (o : Option Nat) (z : V) : V := match o with
  | none => z
  | some c => .str (sL [c])
theorem kvR_len (lt : LR) : (kvR lt).length = lt.length := List.length_map ..
theorem kvR_app (a b : LR) : kvR (a ++ b) = kvR a ++ kvR b := List.map_append
theorem valV_R (g : Nat) : ∀ lt : LR, valV (kvR lt) (.inl (g : Int)) = (lt.lookup g).map fun c => V.str (sL [c])
  | [] => rfl
  | (k, c) :: r => by
    have ih := valV_R g r
    unfold valV kvR at ih ⊢
    rw [List.map_cons, List.find?_cons, List.lookup_cons]
    by_cases e : k = g
    · subst e
      simp
    · have e2 : ¬ (g = k) := fun z => e z.symm
      have e3 : ((Sum.inl (k : Int) : Key) = Sum.inl (g : Int)) = False := by
        refine eq_false fun z => e ?_
        injection z with z
        omega
      simp only [e3, decide_false]
      rw [show (g == k) = false from beq_eq_false_iff_ne.mpr e2]
      exact ih
def putR : LR → Nat → Nat → LR
  | [], g, c => [(g, c)]
  | (k, d) :: r, g, c => if k = g then (g, c) :: r else (k, d) :: putR r g c
theorem putR_keys : ∀ (lt : LR) (g c x : Nat), x ∈ (putR lt g c).map (·.1) ↔ x ∈ lt.map (·.1) ∨ x = g
  | [], g, c, x => by simp [putR]
  | (k, d) :: r, g, c, x => by
    unfold putR
    by_cases e : k = g
    · rw [if_pos e]
      subst e
      simp only [List.map_cons, List.mem_cons]
      constructor
      · rintro (h | h)
        · exact .inl (.inl h)
        · exact .inl (.inr h)
      · rintro ((h | h) | h)
        · exact .inl h
        · exact .inr h
        · exact .inl h
    · rw [if_neg e]
      simp only [List.map_cons, List.mem_cons, putR_keys r g c x]
      constructor
      · rintro (h | h | h)
        · exact .inl (.inl h)
        · exact .inl (.inr h)
        · exact .inr h
      · rintro ((h | h) | h)
        · exact .inl h
        · exact .inr (.inl h)
        · exact .inr (.inr h)
theorem putR_nodup : ∀ {lt : LR} (g c : Nat), (lt.map (·.1)).Nodup → ((putR lt g c).map (·.1)).Nodup
  | [], g, c, _ => by simp [putR]
  | (k, d) :: r, g, c, h => by
    rw [List.map_cons, List.nodup_cons] at h
    unfold putR
    by_cases e : k = g
    · rw [if_pos e]
      subst e
      rw [List.map_cons, List.nodup_cons]
      exact h
    · rw [if_neg e, List.map_cons, List.nodup_cons]
      refine ⟨fun z => ?_, putR_nodup g c h.2⟩
      rcases (putR_keys r g c k).mp z with z | z
      · exact h.1 z
      · exact e z
theorem lookup_put : ∀ (lt : LR) (g c x : Nat), (putR lt g c).lookup x = if x = g then some c else lt.lookup x
  | [], g, c, x => by
    unfold putR
    rw [List.lookup_cons]
    by_cases e : x = g
    · subst e
      simp
    · rw [if_neg e, show (x == g) = false from beq_eq_false_iff_ne.mpr e]
  | (k, d) :: r, g, c, x => by
    unfold putR
    by_cases e : k = g
    · rw [if_pos e]
      subst e
      rw [List.lookup_cons, List.lookup_cons]
      by_cases e2 : x = k
      · subst e2
        simp
      · rw [if_neg e2, show (x == k) = false from beq_eq_false_iff_ne.mpr e2]
    · rw [if_neg e, List.lookup_cons, List.lookup_cons, lookup_put r g c x]
      by_cases e2 : x = k
      · subst e2
        rw [if_neg e]
        simp [e]
      · rw [show (x == k) = false from beq_eq_false_iff_ne.mpr e2]
theorem lookup_mem : ∀ {lt : LR} {g c : Nat}, lt.lookup g = some c → (g, c) ∈ lt
  | [], g, c, h => by cases h
  | (k, d) :: r, g, c, h => by
    rw [List.lookup_cons] at h
    by_cases e : g = k
    · subst e
      simp at h
      subst h
      exact List.mem_cons_self
    · rw [show (g == k) = false from beq_eq_false_iff_ne.mpr e] at h
      exact List.mem_cons_of_mem _ (lookup_mem h)
theorem mem_lookupR : ∀ {lt : LR} {g c : Nat}, (lt.map (·.1)).Nodup → (g, c) ∈ lt → lt.lookup g = some c
  | [], g, c, _, h => by cases h
  | (k, d) :: r, g, c, hn, h => by
    rw [List.map_cons, List.nodup_cons] at hn
    rw [List.lookup_cons]
    rcases List.mem_cons.mp h with e | h
    · cases e
      simp
    · have : g ≠ k := fun z => hn.1 (z ▸ List.mem_map.mpr ⟨_, h, rfl⟩)
      rw [show (g == k) = false from beq_eq_false_iff_ne.mpr this]
      exact mem_lookupR hn.2 h
theorem lookup_none {lt : LR} {g : Nat} : lt.lookup g = none ↔ g ∉ lt.map (·.1) := by
  induction lt with
  | nil => simp
  | cons p r ih =>
    obtain ⟨k, d⟩ := p
    rw [List.lookup_cons, List.map_cons, List.mem_cons, not_or]
    by_cases e : g = k
    · subst e
      simp
    · rw [show (g == k) = false from beq_eq_false_iff_ne.mpr e]
      exact ⟨fun h => ⟨e, ih.mp h⟩, fun h => ih.mpr h.2⟩
theorem putR_mem {lt : LR} {g c : Nat} {p : Nat × Nat} (h : p ∈ putR lt g c) : p ∈ lt ∨ p = (g, c) := by
  induction lt with
  | nil =>
    unfold putR at h
    exact .inr (List.mem_singleton.mp h)
  | cons q r ih =>
    obtain ⟨k, d⟩ := q
    unfold putR at h
    by_cases e : k = g
    · rw [if_pos e] at h
      rcases List.mem_cons.mp h with h | h
      · exact .inr h
      · exact .inl (List.mem_cons_of_mem _ h)
    · rw [if_neg e] at h
      rcases List.mem_cons.mp h with h | h
      · exact .inl (h ▸ List.mem_cons_self)
      · rcases ih h with h | h
        · exact .inl (List.mem_cons_of_mem _ h)
        · exact .inr h
theorem putR_out {lt : LR} {g c : Nat} (h : g ∉ lt.map (·.1)) : putR lt g c = lt ++ [(g, c)] := by
  induction lt with
  | nil => rfl
  | cons q r ih =>
    obtain ⟨k, d⟩ := q
    rw [List.map_cons, List.mem_cons, not_or] at h
    unfold putR
    rw [if_neg (fun z => h.1 z.symm), ih h.2]
    rfl
theorem any_R (lt : LR) (g : Nat) : ((kvR lt).any fun kv => decide (kv.1 = .inl (g : Int))) = decide (g ∈ lt.map (·.1)) := by
  induction lt with
  | nil => rfl
  | cons p r ih =>
    unfold kvR at ih ⊢
    rw [List.map_cons, List.any_cons, ih, List.map_cons]
    have e3 : ((Sum.inl (p.1 : Int) : Key) = Sum.inl (g : Int)) = (p.1 = g) := propext ⟨fun z => by injection z with z; omega, fun z => by rw [z]⟩
    simp only [e3, List.mem_cons]
    by_cases e : p.1 = g
    · simp [e]
    · have e2 : ¬ (g = p.1) := fun z => e z.symm
      simp [e, e2]
theorem putK_R {lt : LR} (g c : Nat) (hn : (lt.map (·.1)).Nodup) : putK (kvR lt) (.inl (g : Int)) (.str (sL [c])) = kvR (putR lt g c) := by
  unfold putK
  rw [any_R]
  by_cases h : g ∈ lt.map (·.1)
  · rw [decide_eq_true h, if_pos rfl]
    induction lt with
    | nil => simp at h
    | cons p r ih =>
      obtain ⟨k, d⟩ := p
      rw [List.map_cons, List.nodup_cons] at hn
      unfold putR
      by_cases e : k = g
      · subst e
        rw [if_pos rfl]
        unfold kvR
        rw [List.map_cons, List.map_cons, List.map_cons]
        simp only [if_true]
        refine congrArg _ ?_
        rw [List.map_map]
        refine List.map_congr_left fun q hq => ?_
        have : ¬ (q.1 = k) := fun z => hn.1 (z ▸ List.mem_map.mpr ⟨_, hq, rfl⟩)
        show (if (Sum.inl (q.1 : Int) : Key) = Sum.inl (k : Int) then _ else _) = _
        rw [if_neg (fun z => this (by injection z with z; omega))]
      · rw [if_neg e]
        rw [List.map_cons, List.mem_cons] at h
        have h2 : g ∈ r.map (·.1) := h.resolve_left fun z => e z.symm
        have ih2 := ih hn.2 h2
        unfold kvR at ih2 ⊢
        rw [List.map_cons, List.map_cons, ih2]
        show (if (Sum.inl (k : Int) : Key) = Sum.inl (g : Int) then _ else _) :: _ = _
        rw [if_neg (fun z => e (by injection z with z; omega))]
        rfl
  · rw [decide_eq_false h, if_neg (by decide), putR_out h, kvR_app]
    rfl
/-! ### the rules -/
def RdR (H : Hp) (a : Addr) (lt : LR) : Prop := H a = some (.dK (kvR lt)) ∨ ∃ o, H a = some (.frz o (.dK (kvR lt)))
theorem RdR.rd {H : Hp} {a : Addr} {lt : LR} (h : RdR H a lt) : Rd H a (.dK (kvR lt)) := h
theorem RdR.get {H : Hp} {a : Addr} {lt : LR} (h : RdR H a lt) (g : Nat) : DGet H a (.int (g : Nat)) ((lt.lookup g).map fun c => V.str (sL [c])) := .inl ⟨_, .inl (g : Int), h.rd, rfl, (valV_R g lt).symm⟩
theorem RdR.isD {H : Hp} {a : Addr} {lt : LR} (h : RdR H a lt) : IsD H a := .inl ⟨_, h.rd⟩
theorem getD_R (lt : LR) (g : Nat) (z : V) : ((lt.lookup g).map fun c => V.str (sL [c])).getD z = getL (lt.lookup g) z := by cases lt.lookup g <;> rfl
section
variable {X : Cx} {o i e f : Expr} {td ty tx : TE} {pos apos cpos : Pos}
abbrev DkR (H : Hp) (a : Addr) (lt : LR) : Prop := H a = some (.dK (kvR lt)) ∨ ∃ o, H a = some (.frz o (.dK (kvR lt)))
/-- d[g], there -/
def tRGet (td ty : TE) : TE := fun σ H Q => td σ H fun x H1 => ty σ H1 fun y H2 => ∃ (a : Addr) (lt : LR) (g c : Nat), x = .ref a ∧ y = .int (g : Nat) ∧ DkR H2 a lt ∧ lt.lookup g = some c ∧ Q (.str (sL [c])) H2
/-- g in d, g not in d -/
def tRIn (ty td : TE) : TE := fun σ H Q => ty σ H fun y H1 => td σ H1 fun x H2 => ∃ (a : Addr) (lt : LR) (g : Nat), x = .ref a ∧ y = .int (g : Nat) ∧ DkR H2 a lt ∧ Q (.bl (lt.lookup g).isSome) H2
def tRNotIn (ty td : TE) : TE := fun σ H Q => ty σ H fun y H1 => td σ H1 fun x H2 => ∃ (a : Addr) (lt : LR) (g : Nat), x = .ref a ∧ y = .int (g : Nat) ∧ DkR H2 a lt ∧ Q (.bl (!(lt.lookup g).isSome)) H2
def tRGet1 (td ty : TE) : TE := fun σ H Q => td σ H fun x H1 => ∃ (a : Addr) (l0 : LR), x = .ref a ∧ DkR H1 a l0 ∧ ty σ H1 fun y H2 => ∃ (lt : LR) (g : Nat), y = .int (g : Nat) ∧ DkR H2 a lt ∧ Q (getL (lt.lookup g) .non) H2
def tRGet2 (td ty tx : TE) : TE := fun σ H Q => td σ H fun x H1 => ∃ (a : Addr) (l0 : LR), x = .ref a ∧ DkR H1 a l0 ∧ ty σ H1 fun y H2 => tx σ H2 fun z H3 => ∃ (lt : LR) (g : Nat), y = .int (g : Nat) ∧ DkR H3 a lt ∧ Q (getL (lt.lookup g) z) H3
def tRSetd (td ty tx : TE) : TE := fun σ H Q => td σ H fun x H1 => ∃ (a : Addr) (l0 : LR), x = .ref a ∧ DkR H1 a l0 ∧ ty σ H1 fun y H2 => tx σ H2 fun z H3 => ∃ (lt : LR) (g c : Nat), y = .int (g : Nat) ∧ z = .str (sL [c]) ∧ H3 a = some (.dK (kvR lt)) ∧ (lt.map (·.1)).Nodup ∧ lt.length < 10000 ∧
  (∀ d, lt.lookup g = some d → Q (.str (sL [d])) H3) ∧ (lt.lookup g = none → Q (.str (sL [c])) (upd H3 a (.dK (kvR (putR lt g c)))))
def rSetR : TSet := fun o i v H Q => ∃ (a : Addr) (lt : LR) (g c : Nat), o = .ref a ∧ i = .int (g : Nat) ∧ v = .str (sL [c]) ∧ H a = some (.dK (kvR lt)) ∧ (lt.map (·.1)).Nodup ∧ lt.length < 10000 ∧ Q (upd H a (.dK (kvR (putR lt g c))))
theorem pe_rget (hu : X.A.units + 1 < cLine) (ho : PE X o td) (hi : PE X i ty) (hs : NoSl i) : PE X (.Subscript o i pos) (tRGet td ty) := by
  refine ⟨fun pins s σ H Q I h => ?_⟩
  refine subD_of PySem.F.slot_dict_getitem.lookup hs (thn (ho.run pins s σ H _ I h) fun u s1 ⟨x, H1, I1, rx, q1⟩ => thn (hi.run pins s1 σ H1 _ I1 q1) fun iv s2 ⟨y, H2, I2, ry, a, lt, g, c, ex, ey, hd, hl, q2⟩ => ?_)
  subst ex ey
  obtain rfl : u = Value.ref a := rx
  have g1 := RdR.get hd g
  rw [hl] at g1
  exact ⟨dict_typeIs I2 g1, d_getItem hu I2 g1 ry fun w' s3 I3 rw' => ⟨_, H2, I3, rw', q2⟩⟩
theorem pc_rin (hu : X.A.units + 1 < cLine) (hi : PE X i ty) (ho : PE X o td) : PC X .In i o (tRIn ty td) := by
  refine ⟨fun pins s σ H Q I h => ?_⟩
  refine thn (hi.run pins s σ H _ I h) fun iv s1 ⟨y, H1, I1, ry, q1⟩ => thn (ho.run pins s1 σ H1 _ I1 q1) fun u s2 ⟨x, H2, I2, rx, a, lt, g, ex, ey, hd, q2⟩ => ?_
  subst ex ey
  obtain rfl : u = Value.ref a := rx
  exact d_in hu I2 (RdR.get hd g) ry fun s3 I3 => ⟨.bl _, H2, I3, rfl, by rw [Option.isSome_map]; exact q2⟩
theorem pc_rnotin (hu : X.A.units + 1 < cLine) (hi : PE X i ty) (ho : PE X o td) : PC X .NotIn i o (tRNotIn ty td) := by
  refine ⟨fun pins s σ H Q I h => ?_⟩
  refine thn (hi.run pins s σ H _ I h) fun iv s1 ⟨y, H1, I1, ry, q1⟩ => thn (ho.run pins s1 σ H1 _ I1 q1) fun u s2 ⟨x, H2, I2, rx, a, lt, g, ex, ey, hd, q2⟩ => ?_
  subst ex ey
  obtain rfl : u = Value.ref a := rx
  exact d_notIn hu I2 (RdR.get hd g) ry fun s3 I3 => ⟨.bl _, H2, I3, rfl, by rw [Option.isSome_map]; exact q2⟩
theorem pe_rget1 (hu : X.A.units + 1 < cLine) (ho : PE X o td) (he : PE X e ty) (m : M1 X o "get" apos e cpos) : PE X (.Call (.Attribute o "get" apos) [e] [] cpos) (tRGet1 td ty) := by
  refine ⟨fun pins s σ H Q I h => ?_⟩
  refine wpAny_Call_method m.base m.few m.line PySem.F.plainAttrs_dict PySem.F.slot_dict_get PySem.F.type_dict_get (thn (ho.run pins s σ H _ I h) fun u s1 ⟨x, H1, I1, rx, a, l0, ex, d, q1⟩ => ?_)
  subst ex
  obtain rfl : u = Value.ref a := rx
  obtain ⟨t1, t2, _⟩ := isD_at I1 (RdR.isD d)
  refine ⟨t1, t2, ?_⟩
  rw [m.trees]
  refine Calls.callWith_builtin rfl (Calls.evalArgs_plain (Calls.spliced_cons (thn (he.run pins s1 σ H1 _ I1 q1) fun iv s2 ⟨y, H2, I2, ry, lt, g, ey, hd, q2⟩ => Calls.spliced_nil ?_)))
  subst ey
  exact d_get1 hu I2 (RdR.get hd g) ry fun w' s3 I3 rw' => ⟨_, H2, I3, rw', by rw [getD_R]; exact q2⟩
theorem pe_rget2 (hu : X.A.units + 1 < cLine) (ho : PE X o td) (he : PE X e ty) (hf : PE X f tx) (m : M2 X o "get" apos e f cpos) : PE X (.Call (.Attribute o "get" apos) [e, f] [] cpos) (tRGet2 td ty tx) := by
  refine ⟨fun pins s σ H Q I h => ?_⟩
  refine wpAny_Call_method m.base m.few m.line PySem.F.plainAttrs_dict PySem.F.slot_dict_get PySem.F.type_dict_get (thn (ho.run pins s σ H _ I h) fun u s1 ⟨x, H1, I1, rx, a, l0, ex, d, q1⟩ => ?_)
  subst ex
  obtain rfl : u = Value.ref a := rx
  obtain ⟨t1, t2, _⟩ := isD_at I1 (RdR.isD d)
  refine ⟨t1, t2, ?_⟩
  rw [m.trees]
  refine Calls.callWith_builtin rfl (Calls.evalArgs_plain (Calls.spliced_cons (thn (he.run pins s1 σ H1 _ I1 q1) fun iv s2 ⟨y, H2, I2, ry, q2⟩ =>
    Calls.spliced_cons (thn (hf.run pins s2 σ H2 _ I2 q2) fun fv s3 ⟨z, H3, I3, rz, lt, g, ey, hd, q3⟩ => Calls.spliced_nil ?_))))
  subst ey
  exact d_get2 hu I3 (RdR.get hd g) ry rz fun w' s4 I4 rw' => ⟨_, H3, I4, rw', by rw [getD_R]; exact q3⟩
theorem pe_rsetd (ho : PE X o td) (he : PE X e ty) (hf : PE X f tx) (m : M2 X o "setdefault" apos e f cpos) : PE X (.Call (.Attribute o "setdefault" apos) [e, f] [] cpos) (tRSetd td ty tx) := by
  refine ⟨fun pins s σ H Q I h => ?_⟩
  refine wpAny_Call_method m.base m.few m.line PySem.F.plainAttrs_dict PySem.F.slot_dict_setdefault PySem.F.type_dict_setdefault (thn (ho.run pins s σ H _ I h) fun u s1 ⟨x, H1, I1, rx, a, l0, ex, d, q1⟩ => ?_)
  subst ex
  obtain rfl : u = Value.ref a := rx
  obtain ⟨t1, t2, _⟩ := isD_at I1 (RdR.isD d)
  refine ⟨t1, t2, ?_⟩
  rw [m.trees]
  refine Calls.callWith_builtin rfl (Calls.evalArgs_plain (Calls.spliced_cons (thn (he.run pins s1 σ H1 _ I1 q1) fun iv s2 ⟨y, H2, I2, ry, q2⟩ =>
    Calls.spliced_cons (thn (hf.run pins s2 σ H2 _ I2 q2) fun fv s3 ⟨z, H3, I3, rz, lt, g, c, ey, ez, ea, hn, hl, q3, q4⟩ => Calls.spliced_nil ?_))))
  subst ey ez
  refine d_setd (k := .inl (g : Int)) I3 ea ry rz (by rw [kvR_len]; exact Nat.lt_trans hl (by decide)) (fun v hv w' s4 I4 rw' => ?_) fun hn2 w' s4 I4 rw' => ?_
  · rw [valV_R] at hv
    cases e0 : lt.lookup g with
    | none => rw [e0] at hv; cases hv
    | some d =>
      rw [e0] at hv
      cases hv
      exact ⟨_, _, I4, rw', q3 d e0⟩
  · rw [valV_R] at hn2
    rw [putK_R g c hn] at I4
    refine ⟨_, _, I4, rw', q4 ?_⟩
    cases e0 : lt.lookup g with
    | none => rfl
    | some d => rw [e0] at hn2; cases hn2
theorem set_R (hu : X.A.units + 1 < cLine) : PSet X rSetR := by
  intro pins s σ H o i v ov iv u Q I ro ri rv h
  obtain ⟨a, lt, g, c, rfl, rfl, rfl, hd, hn, hl, q⟩ := h
  refine set_dict hu pins s σ H _ _ _ ov iv u Q I ro ri rv ⟨a, _, rfl, .inl ⟨kvR lt, .inl (g : Int), hd, rfl, by rw [kvR_len]; exact Nat.lt_trans hl (by decide), rfl⟩, ?_⟩
  rw [putK_R g c hn]
  exact q
end
end Pk
/-! ## o.f(e): f a field that holds an object with __call__ -/
namespace Pk
open PySem PySem.Spec PyProof.Rows L2
/-- what follows an if is shown once -/
theorem cut_if {c : Bool} {A : TS} {D : Ends} {σ : L2.St} {H : Hp} (Pn : L2.St → Hp → Prop) (main : ∀ D0 : Ends, (∀ σ2 H2, Pn σ2 H2 → D0.nx σ2 H2) → if c = true then A D0 σ H else tNext D0 σ H) (rest : ∀ σ2 H2, Pn σ2 H2 → D.nx σ2 H2) : if c = true then A D σ H else tNext D σ H := main D rest
theorem lock_same {H H' : Hp} {l : Addr} {od : Obj} {u : HO} (hl : H l = some u) (s : Same (upd H l (.frz od u)) H') : Same H (upd H' l u) := fun b o h => by
  by_cases e : b = l
  · subst e
    rw [upd_same]
    exact hl.symm.trans h
  · rw [upd_ne e]
    exact s _ _ (by rw [upd_ne e]; exact h)
theorem keeps_none {n : Nat} {v : Nat → V} : keeps n (fun _ => false) v = [] := by
  unfold keeps
  simp
theorem iOrS {b : Bool} {H : Hp} {σ : L2.St} {t : TT} {R : Bool → Hp → Prop} (tr : ∀ HC, Same H HC → R true HC) (hA : b = false → (∀ HC, Same H HC → R true HC) → t σ H R) : if b = true then R true H else t σ H R := by
  cases b with
  | true => rw [if_pos rfl]; exact tr H (Same.refl H)
  | false => rw [if_neg (by decide)]; exact hA rfl tr
theorem iTailS {b : Bool} {H : Hp} {σ : L2.St} {t : TT} {R : Bool → Hp → Prop} (tail : ∀ HC, Same H HC → R false HC) (hA : b = true → (∀ HC, Same H HC → R false HC) → t σ H R) : if b = true then t σ H R else R false H := by
  cases b with
  | true => rw [if_pos rfl]; exact hA rfl tail
  | false => rw [if_neg (by decide)]; exact tail H (Same.refl H)
theorem hu9 {A : Around} (h : A.units + 64 < cLine) : A.units + 1 < cLine := by omega
section
open PySem.W
theorem method_fld {prog : Program} {w : World} {A : Around} {E : Value → Shared → Prop} {s : Shared} {K : Fr} {x C : Addr} {ox : Obj} {od : Option Obj} {name : Str} {pl : Sem Bool} {Q : Value × List Value → Shared → Prop} (X : K.In s.heap) (I : InstAt s.heap x ox C od) (hga : findIn K (.ref C) "__getattribute__" = some (some (.builtin "object.__getattribute__"))) (hk : findIn K (.ref C) "__getattr__" = some none)
    (hf : findIn K (.ref C) name = some none) (h : wpAny (model prog w) A (getAttr (.ref x) name) (fun v s' => Q (v, []) s') E s) :
    wpAny (model prog w) A (getMethod (.ref x) name pl) Q E s := by
  have hcan := PySem.F.canon_object_ga
  unfold getMethod specialOf
  refine wpAny_bind (wpAny_bind (I.type.here ((looks_findIn X hga).here ?_)))
  dsimp only
  rw [hcan, if_neg (by decide)]
  refine wpAny_bind (wpAny_bind (I.type.here ((looks_findIn X hk).here ?_)))
  refine wpAny_bind (wpAny_bind (I.type.here ((looks_findIn X hf).here ?_)))
  exact wpAny_bind (wpAny_mono h (fun v s' q => wpAny_pure q) fun _ _ z => z)
end
section
variable {X : Cx} {pins : List (Addr × Obj)} {σ : L2.St} {H : Hp} {s : Shared} {a C dx : Addr} {fs : List (Str × V)} {f : Str} {v : V} {A : Around} {E : Value → Shared → Prop}
theorem getmeth_fld {m : Str} {pl : Sem Bool} {Q : Value × List Value → Shared → Prop} (I : Inv X pins σ H s) (e : H a = some (.ins C dx fs)) (c : Cls X.K C) (n : NoAttr X.K C m) (l : fs.lookup m = some v)
    (h : ∀ u s', Inv X pins σ H s' → RelV v u → Q (u, []) s') : wpAny (model X.prog X.w) A (getMethod (.ref a) m pl) Q E s := by
  obtain ⟨mA, O, r, _, _, _⟩ := ins_get I.hok e
  obtain ⟨od, J, hl⟩ := O.look
  exact method_fld I.kIn J (PySem.W.plainGet_of (c.get m)).1 (PySem.W.plainGet_of (c.get m)).2 n (getattr_ok I e c n l h)
end
def tCF (K : Fr) (D : Addr) (m : Str) (sp : Sp) (ta : TE) (t : TA) : TE := fun σ H Q => ta σ H fun x H1 => ∃ a C dx fs y, x = V.ref a ∧ H1 a = some (.ins C dx fs) ∧ Cls K C ∧ NoAttr K C m ∧ fs.lookup m = some (V.ref y) ∧ t σ H1 fun vs H2 => (∃ dx fs, H2 y = some (.ins D dx fs)) ∧ sp (V.ref y :: vs) H2 Q E0
theorem pe_callF {X : Cx} {k : Nat} {D g : Addr} {sp : Sp} {m : Str} {o e : Expr} {es : List Expr} {ta : TE} {t : TA} {apos pos : Pos} {pl : Sem Bool} (ho : PE X o ta) (c : StX.CallO X.K D g) (G : Kp X.prog X.w X.K X.mg X.base k g sp) (hr : Room k X.A) (ha : PA X (e :: es) t)
    (ht : eval (.Call (.Attribute o m apos) (e :: es) [] pos) X.env = (do
      let ov ← eval o X.env
      standAt apos.atName
      let (f, first) ← holding [ov] (getMethod ov m pl)
      callWith pos f first (backTo pos (starEach (e :: es) X.env)) (backToKw pos (keywordEach [] X.env))) := by rfl)
    (he : starEach (e :: es) X.env = (false, eval e X.env) :: starEach es X.env := by rfl) (hpl : (backTo pos (starEach es X.env)).any (·.1) = false := by rfl) : PE X (.Call (.Attribute o m apos) (e :: es) [] pos) (tCF X.K D m sp ta t) := ⟨fun pins s σ H Q I h => by
  refine PySem.W.methodCall_KW (pl := pl) (thn (ho.run pins s σ H _ I h) fun u s1 ⟨x, H1, I1, rx, a, C, dx, fs, y, ex, ea, cl, na, l, q⟩ => ?_) ht
  subst ex
  obtain rfl : u = Value.ref a := rx
  refine getmeth_fld I1 ea cl na l fun v s1 I1 rv => ?_
  obtain rfl : v = Value.ref y := rv
  refine StX.callO_with (thn (ha.run pos pins s1 σ H1 _ I1 q) fun us s2 k2 => ?_) he hpl
  obtain ⟨vs, H2, I2, r, hi, q2⟩ := k2
  obtain ⟨ox, od, J, hd⟩ := StX.insC_at I2 (.inr hi)
  exact ⟨⟨D, ox, od, J, hd⟩, StX.run_callO c G.fnR hr pass0 I2 (.inr hi) r q2⟩⟩
end Pk
/-! ## text.find of one letter -/
namespace Pk
open PySem PySem.Spec PyProof.Rows L2 PySem.StrLaws Builtin Builtin.Str
theorem occ_full (s sub : Str) (hi : Nat) (z : Array Nat) (hz : 1 ≤ z.size) : ∀ (l : List Nat) (f : Nat), (forIn l (z, f) (occBody s sub hi 1)).run.fst = z
  | [], f => rfl
  | a :: l, f => by
    rw [List.forIn_cons]
    unfold occBody
    rw [if_neg (by intro h; have := h.1.1.1; simp only at this; omega)]
    exact occ_full s sub hi z hz l f
theorem occ_one (s sub : Str) (hi i : Nat) (hc : i + sub.length ≤ hi ∧ subAt s sub i = true) : ∀ (n a f : Nat), f ≤ a → a ≤ i → i < a + n → (∀ j, a ≤ j → j < i → ¬ (j + sub.length ≤ hi ∧ subAt s sub j = true)) →
    (forIn (List.range' a n) ((#[] : Array Nat), f) (occBody s sub hi 1)).run.fst = #[i]
  | 0, a, f, h1, h2, h3, h4 => by omega
  | n + 1, a, f, h1, h2, h3, h4 => by
    rw [List.range'_succ, List.forIn_cons]
    unfold occBody
    by_cases e : a = i
    · subst e
      rw [if_pos ⟨⟨⟨by simp, h1⟩, hc.1⟩, hc.2⟩]
      exact occ_full s sub hi #[a] (by simp) _ _
    · have h5 := h4 a (Nat.le_refl _) (by omega)
      rw [if_neg (fun z => h5 ⟨z.1.2, z.2⟩)]
      exact occ_one s sub hi i hc n (a + 1) f (by omega) (by omega) (by omega) fun j z1 z2 => h4 j (by omega) z2
theorem find_sL {l : List Nat} {c i : Nat} (h : l[i]? = some c) (hn : ∀ j, j < i → l[j]? ≠ some c) : Txt.find (sL l) (sL [c]) = (i : Int) := by
  have e : occurrences (sL l) (sL [c]) 0 (sL l).length 1 = [i] := by
    rw [occ_eq]
    have hl := (List.getElem?_eq_some_iff.mp h).1
    rw [occ_one (sL l) (sL [c]) (sL l).length i ((subAt_one (sL l) c i).mpr (by simpa [sL] using h)) _ 0 0 (Nat.le_refl _) (Nat.zero_le _) (by rw [sL_len]; omega) fun j _ z hh => hn j z (by simpa [sL] using (subAt_one (sL l) c j).mp hh)]
  unfold Txt.find
  rw [e]
end Pk
/-! ## Bytes as lists of numbers -/
namespace Pk
open PySem PySem.Spec PyProof.Rows L2
def bA (l : List Nat) : Array UInt8 := (l.map fun n : Nat => n.toUInt8).toArray
/-- all are bytes -/
def isB (l : List Nat) : Bool := l.all fun n => decide (n < 256)
theorem isB_app {a b : List Nat} (h1 : isB a = true) (h2 : isB b = true) : isB (a ++ b) = true := by
  unfold isB at *
  rw [List.all_append, h1, h2]
  rfl
theorem isB_at {l : List Nat} {i n : Nat} (h : isB l = true) (e : l[i]? = some n) : n < 256 := of_decide_eq_true (List.all_eq_true.mp h _ (List.mem_of_getElem? e))
theorem isB_take {l : List Nat} (h : isB l = true) (k : Nat) : isB (l.take k) = true := List.all_eq_true.mpr fun n hn => List.all_eq_true.mp h n (List.mem_of_mem_take hn)
theorem isB_drop {l : List Nat} (h : isB l = true) (k : Nat) : isB (l.drop k) = true := List.all_eq_true.mpr fun n hn => List.all_eq_true.mp h n (List.mem_of_mem_drop hn)
theorem bA_len (l : List Nat) : (bA l).size = l.length := by unfold bA; simp
theorem bA_byte (l : List Nat) : byteArr (l.map fun n => ((n : Nat) : Int)) = bA l := by
  unfold byteArr bA
  rw [List.map_map]
  rfl
theorem b_back {n : Nat} (h : n < 256) : (n.toUInt8).toNat = n := by
  show n % 256 = n
  exact Nat.mod_eq_of_lt h
theorem bA_get {l : List Nat} {i n : Nat} (hb : isB l = true) (h : l[i]? = some n) : ((l.map fun n : Nat => n.toUInt8).getD i 0).toNat = n := by
  rw [List.getD_eq_getElem?_getD, List.getElem?_map, h]
  exact b_back (isB_at hb h)
theorem bA_inj {a b : List Nat} (h1 : isB a = true) (h2 : isB b = true) (h : bA a = bA b) : a = b := by
  unfold bA at h
  have h3 := congrArg Array.toList h
  simp only [] at h3
  refine List.ext_getElem? fun i => ?_
  have h4 := congrArg (fun l => l[i]?) h3
  simp only [List.getElem?_map] at h4
  cases ea : a[i]? with
  | none =>
    rw [ea] at h4
    cases eb : b[i]? with
    | none => rfl
    | some y => rw [eb] at h4; cases h4
  | some x =>
    rw [ea] at h4
    cases eb : b[i]? with
    | none => rw [eb] at h4; cases h4
    | some y =>
      rw [eb] at h4
      have h5 : x.toUInt8 = y.toUInt8 := Option.some.inj h4
      have h6 := congrArg UInt8.toNat h5
      rw [b_back (isB_at h1 ea), b_back (isB_at h2 eb)] at h6
      rw [h6]
theorem isB_b8 {l : List Nat} (h : isB l = true) : B8 (l.map fun n => ((n : Nat) : Int)) := fun n hn => by
  obtain ⟨m, hm, rfl⟩ := List.mem_map.mp hn
  have := of_decide_eq_true (List.all_eq_true.mp h m hm)
  omega
theorem bi_bA {l : List Nat} (h : isB l = true) : bi (bA l) = l.map fun n => ((n : Nat) : Int) := by
  rw [← bA_byte]
  exact bi_make fun n hn => by
    have := isB_b8 h n hn
    omega
theorem b_bytes : bootBuiltins "bytes" = some (.type "bytes") := by decide +kernel
/-- what is gone through is of one kind or of another -/
theorem pi_or {X : Cx} {tg e : Expr} {w w' : TI} (h : PI X tg e w) (h' : PI X tg e w') : PI X tg e (fun σ H R => w σ H R ∨ w' σ H R) := ⟨fun pins s σ H R I q => q.elim (h.run pins s σ H R I) (h'.run pins s σ H R I)⟩
section
variable {X : Cx}
/-- b[i] -/
def rIxB : V → V → Hp → VK → Prop := fun x y H Q => ∃ (l : List Nat) (i n : Nat), x = .byt (bA l) ∧ y = .int (i : Nat) ∧ l.length ≤ 1000000 ∧ isB l = true ∧ l[i]? = some n ∧ Q (.int (n : Nat)) H
theorem pe_ixB {a b : Expr} {ta tb : TE} {pos : Pos} (ha : PE X a ta) (hb : PE X b tb) (hs : PlainIxT b) : PE X (.Subscript a b pos) (tOp rIxB ta tb) := by
  refine ⟨fun pins s σ H Q I h => ?_⟩
  refine Subscript_ (binT ha hb I h fun v u s2 x y H2 I2 rx ry q => ?_)
  obtain ⟨l, i, n, rfl, rfl, hl, hB, hi, q⟩ := q
  unfold bA at rx
  obtain ⟨t, rfl⟩ := rx
  obtain ⟨t', rfl⟩ := ry
  have hz : sizeLine = 16777216 := sizeLine_eq
  have hil := (List.getElem?_eq_some_iff.mp hi).1
  have e := bA_get hB hi
  have h1 : (l.map fun n : Nat => n.toUInt8).length = l.length := List.length_map ..
  refine tail_any (PySem.W.typeIs_bytes s2 _ t) PySem.W.FB.slot_bytes_getitem.lookup (PySem.W.getItem_bytes (l := l.map fun n : Nat => n.toUInt8) (by omega) (by omega) (by omega) ⟨.int (n : Nat), H2, I2.tok _, ⟨s2.toks, by rw [Int.toNat_natCast, e]⟩, q⟩) (hs _ _)
/-- b[i:j] -/
def rSlBy : V → Option Int → Option Int → Hp → VK → Prop := fun x lo hi H Q => ∃ (l : List Nat) (i j : Nat), x = .byt (bA l) ∧ l.length ≤ 1000000 ∧ (lo = some (i : Int) ∨ (lo = none ∧ i = 0)) ∧ hi = some (j : Int) ∧ i ≤ j ∧ j ≤ l.length ∧ Q (.byt (bA ((l.drop i).take (j - i)))) H
theorem sl_by : SlR X rSlBy := by
  intro pins s σ H x v vl vu lo hi sl Q I rx hs pl pu q
  obtain ⟨l, i, j, rfl, hl, hlo, rfl, hij, hj, q⟩ := q
  refine sl_byt pins s σ H _ v vl vu lo _ sl Q I rx hs pl pu ⟨_, rfl, by rw [bA_len]; omega, ?_⟩
  have e : PySem.W.KBy.picked (bA l) lo (some (j : Int)) = bA ((l.drop i).take (j - i)) := by
    unfold bA
    rcases hlo with rfl | ⟨rfl, rfl⟩
    · rw [pk_mid (by rw [List.length_map]; omega) (by rw [List.length_map]; omega), ← List.map_drop, ← List.map_take]
    · rw [pk_to (by rw [List.length_map]; omega), ← List.map_take]
      rfl
  rw [e]
  exact q
/-- len(b) -/
def rLenBy : List V → Hp → VK → Prop := fun xs H Q => ∃ l : List Nat, xs = [.byt (bA l)] ∧ l.length ≤ 1000000 ∧ Q (.int (l.length : Nat)) H
theorem call_lenBy : CallR X (.builtin "len") rLenBy := by
  intro pins s σ H xs us Q I r h
  obtain ⟨l, rfl, hl, q⟩ := h
  have hz : sizeLine = 16777216 := sizeLine_eq
  exact call_len pins s σ H _ us Q I r ⟨.byt (bA l), l.length, rfl, ⟨by rw [bA_len]; omega, (bA_len l).symm⟩, q⟩
/-- bytes(xs) -/
def rByOf (K : Fr) : List V → Hp → VK → Prop := fun xs H Q => ∃ (p : Addr) (l : List Nat), xs = [.ref p] ∧ SqL K H p (l.map fun k => V.int (k : Nat)) ∧ isB l = true ∧ Q (.byt (bA l)) H
theorem call_byOf (K : Fr) (hc : X.calm = true := by rfl) (h : X.K = K := by rfl) : CallR X (.type "bytes") (rByOf K) := by
  subst h
  intro pins s σ H xs us Q I r h
  obtain ⟨p, l, rfl, hp, hB, q⟩ := h
  refine call_bytes_list hc pins s σ H _ us Q I r ⟨p, l.map fun n => ((n : Nat) : Int), rfl, by rw [List.map_map]; exact hp, isB_b8 hB, ?_⟩
  rw [bA_byte]
  exact q
/-- list(b) -/
def tLstBy (te : TE) : TE := fun σ H Q => te σ H fun x H1 => ∃ l : List Nat, x = .byt (bA l) ∧ l.length ≤ 1000000 ∧ isB l = true ∧ ∀ q, H1 q = none → Q (.ref q) (upd H1 q (.lst (l.map fun k => V.int (k : Nat))))
theorem rl_lstBy (hc : X.calm = true) (pins : List (Addr × Obj)) (s : Shared) (σ : L2.St) (H : Hp) (x : V) (v : Value) (Q : VK) (I : Inv X pins σ H s) (r : RelV x v) (h : ∃ l : List Nat, x = .byt (bA l) ∧ l.length ≤ 1000000 ∧ isB l = true ∧ ∀ q, H q = none → Q (.ref q) (upd H q (.lst (l.map fun k => V.int (k : Nat))))) :
    wpAny (model X.prog X.w) X.A (call (.type "list") [v]) (EP X pins σ Q) X.xe s := by
  obtain ⟨l, rfl, hl, hB, q⟩ := h
  have hz : sizeLine = 16777216 := sizeLine_eq
  refine rl_listB hc pins s σ H _ v Q I r ⟨_, rfl, by rw [bA_len]; omega, fun q9 hq => ?_⟩
  rw [bi_bA hB, List.map_map]
  exact q q9 hq
def rLstBy : List V → Hp → VK → Prop := fun xs H Q => ∃ l : List Nat, xs = [.byt (bA l)] ∧ l.length ≤ 1000000 ∧ isB l = true ∧ ∀ q, H q = none → Q (.ref q) (upd H q (.lst (l.map fun k => V.int (k : Nat))))
theorem call_lstBy (hc : X.calm = true) : CallR X (.type "list") rLstBy := by
  intro pins s σ H xs us Q I r h
  obtain ⟨l, rfl, h⟩ := h
  obtain ⟨u, rfl, ru⟩ := vals1 r
  exact rl_lstBy hc pins s σ H _ u Q I ru ⟨l, rfl, h⟩
/-- s.index(c), c there -/
def rIdxS : V → List V → Hp → VK → Prop := fun x xs H Q => ∃ (l : List Nat) (c i : Nat), x = .str (sL l) ∧ xs = [.str (sL [c])] ∧ l[i]? = some c ∧ (∀ j, j < i → l[j]? ≠ some c) ∧ Q (.int (i : Nat)) H
theorem mt_idxS : MtR X "str.index" rIdxS := by
  intro pins s σ H x xs v us Q I rx rs h
  obtain ⟨l, c, i, rfl, rfl, hi, hn, q⟩ := h
  obtain ⟨t, rfl⟩ := rx
  cases rs with
  | cons r1 rs =>
    cases rs
    obtain ⟨u, rfl⟩ := r1
    have hf := find_sL hi hn
    unfold Txt.find at hf
    cases q9 : Builtin.Str.occurrences (sL l) (sL [c]) 0 (sL l).length 1 with
    | nil =>
      rw [q9] at hf
      exact absurd hf (by show (-1 : Int) ≠ (i : Int); omega)
    | cons k rest =>
      rw [q9] at hf
      have hk : (k : Int) = (i : Int) := hf
      have hk2 : k = i := by omega
      subst hk2
      exact PySem.SC.index q9 ⟨.int (k : Nat), H, I.tok _, ⟨_, rfl⟩, q⟩
/-- str(x), x a text or a number -/
def rStrB : List V → Hp → VK → Prop := fun xs H Q => (∃ i, xs = [.int i] ∧ i.natAbs.log2 < 1920 ∧ Q (.str (toString i)) H) ∨ ∃ a, xs = [.str a] ∧ Q (.str a) H
theorem call_strB : CallR X (.type "str") rStrB := call_str_int.or SkE.call_str_str
/-- x in D, D[x]: D a written dict, x there -/
def rKIn (d : Addr) (kvs : List (Str × Int)) (b : Bool) : R2 := fun x y H Q => ∃ (z : Str) (i : Int), x = .str z ∧ y = .ref d ∧ (z, i) ∈ kvs ∧ Q (.bl b) H
theorem op_kNotIn {d : Addr} {kvs : List (Str × Int)} (D : KInts X.K X.w d kvs) : OpR X (compareOp .NotIn) (rKIn d kvs false) := by
  obtain ⟨es, n, kd⟩ := D.at_
  intro pins s σ H x y v u Q I rx ry h
  obtain ⟨z, i, rfl, rfl, hz, q⟩ := h
  obtain ⟨u0, hu, ru⟩ := D.vals _ hz
  exact op_notIn_kd kd pins s σ H _ _ v u Q I rx ry ⟨z, some u0, rfl, rfl, hu, q⟩
def rKIx (d : Addr) (kvs : List (Str × Int)) : R2 := fun x y H Q => ∃ (z : Str) (i : Int), x = .ref d ∧ y = .str z ∧ (z, i) ∈ kvs ∧ Q (.int i) H
theorem ix_kI {d : Addr} {kvs : List (Str × Int)} (D : KInts X.K X.w d kvs) : IxR X (rKIx d kvs) := by
  intro value slice pins s σ H x y v u Q I rx ry h hs
  obtain ⟨z, i, rfl, rfl, hz, q⟩ := h
  obtain ⟨es, n, kd⟩ := D.at_
  obtain ⟨u0, hu, ru⟩ := D.vals _ hz
  exact ix_kdict value slice pins s σ H _ _ v u Q I rx ry ⟨d, z, .int i, rfl, rfl, ⟨es, n, u0, kd.at_, kd.lit, hu, ru⟩, q⟩ hs
theorem pi_lb {tg e : Expr} {te : TE} (h : PE X e te) : PI X tg e (fun σ H R => iList X.K te σ H R ∨ iByt te σ H R) := pi_or (pi_list h) (pi_byt h)
theorem pe_idxSK (K : Fr) {o e : Expr} {es : List Expr} {to : TE} {t : TA} {apos cpos : Pos} (ho : PE X o to) (ha : PA X (e :: es) t)
    (hbase : attributeBase o "index" X.env (eval o X.env) = eval o X.env := by rfl)
    (hfew : ((backTo cpos (starEach (e :: es) X.env)).all (fun x => !x.1) && (backToKw cpos (keywordEach [] X.env)).all (fun x => x.1.isSome)
      && decide ((e :: es).length + ([] : List Keyword).length + (if ([] : List Keyword).isEmpty then 0 else 1) < 30)) = true := by rfl)
    (hline : (apos.endLine == cpos.line) = true := by rfl) (hs : starEach (e :: es) X.env = (false, eval e X.env) :: starEach es X.env := by rfl) (hplain : (backTo cpos (starEach es X.env)).any (·.1) = false := by rfl) (h : X.K = K := by rfl) :
    PE X (.Call (.Attribute o "index" apos) (e :: es) [] cpos) (tBM K "str" rIdxS to t) := by
  subst h
  exact pe_bm PySem.F.plainAttrs_str PySem.F.slot_str_index PySem.F.type_str_index mt_idxS ho ha hbase hfew hline hs hplain
end
end Pk
/-! ## A text as bytes -/
namespace Pk
open PySem PySem.Spec PyProof.Rows L2
def numB (n : Nat) : List Nat := if h : n < 128 then [n] else (n % 128 + 128) :: numB (n / 128)
termination_by n
decreasing_by omega
theorem numB_lt {n : Nat} (h : n < 128) : numB n = [n] := by rw [numB, dif_pos h]
theorem numB_ge {n : Nat} (h : 128 ≤ n) : numB n = (n % 128 + 128) :: numB (n / 128) := by rw [numB, dif_neg (by omega)]
theorem isB_cons {a : Nat} {l : List Nat} (h1 : a < 256) (h2 : isB l = true) : isB (a :: l) = true := by
  unfold isB at *
  rw [List.all_cons, h2, decide_eq_true h1]
  rfl
theorem numB_isB (n : Nat) : isB (numB n) = true := by
  induction n using Nat.strongRecOn with
  | _ n ih =>
    by_cases h : n < 128
    · rw [numB_lt h]
      exact List.all_eq_true.mpr fun m hm => decide_eq_true (by rw [List.mem_singleton.mp hm]; omega)
    · rw [numB_ge (by omega)]
      exact isB_cons (by omega) (ih _ (by omega))
theorem numB_ne (n : Nat) : 1 ≤ (numB n).length := by
  by_cases h : n < 128
  · rw [numB_lt h]; exact Nat.le_refl _
  · rw [numB_ge (by omega)]; exact Nat.succ_pos _
theorem numB_len : ∀ (k : Nat) {n : Nat}, n < 128 ^ (k + 1) → (numB n).length ≤ k + 1
  | 0, n, h => by
    rw [numB_lt (by omega)]
    exact Nat.le_refl _
  | k + 1, n, h => by
    by_cases h2 : n < 128
    · rw [numB_lt h2]
      exact Nat.succ_le_succ (Nat.zero_le _)
    · rw [numB_ge (by omega)]
      have e : 128 ^ (k + 1 + 1) = 128 ^ (k + 1) * 128 := Nat.pow_succ _ _
      have := numB_len k (n := n / 128) (by omega)
      show (numB (n / 128)).length + 1 ≤ _
      omega
/-- all groups but the last are higher -/
theorem numB_at : ∀ {n i g : Nat}, (numB n)[i]? = some g → (128 ≤ g ↔ i + 1 < (numB n).length)
  | n, i, g, h => by
    by_cases h2 : n < 128
    · rw [numB_lt h2] at h ⊢
      cases i with
      | zero =>
        have : n = g := by simpa using h
        subst this
        simp
        omega
      | succ i => simp at h
    · rw [numB_ge (by omega)] at h ⊢
      have hl := numB_ne (n / 128)
      cases i with
      | zero =>
        have : n % 128 + 128 = g := by simpa using h
        subst this
        simp
        omega
      | succ i =>
        have h3 : (numB (n / 128))[i]? = some g := by simpa using h
        have := numB_at h3
        rw [this]
        simp
termination_by n => n
decreasing_by omega
theorem numB_last {n g : Nat} (h : (numB n)[(numB n).length - 1]? = some g) (hl : 1 < (numB n).length) : g ≠ 0 := by
  induction n using Nat.strongRecOn with
  | _ n ih =>
    by_cases h2 : n < 128
    · rw [numB_lt h2] at hl
      exact absurd hl (by simp)
    · rw [numB_ge (by omega)] at h
      have hne := numB_ne (n / 128)
      have h3 : (numB (n / 128))[(numB (n / 128)).length - 1]? = some g := by
        rw [List.length_cons, show (numB (n / 128)).length + 1 - 1 = ((numB (n / 128)).length - 1) + 1 by omega, List.getElem?_cons_succ] at h
        exact h
      by_cases h4 : n / 128 < 128
      · rw [numB_lt h4] at h3
        have : n / 128 = g := by simpa using h3
        omega
      · exact ih (n / 128) (by omega) h3 (by rw [numB_ge (by omega)]; have := numB_ne (n / 128 / 128); show 1 < _ + 1; omega)
/-- what groups are worth, the highest last -/
def valB (l : List Nat) : Nat := l.foldr (fun g v => v * 128 + g % 128) 0
theorem valB_num (n : Nat) : valB (numB n) = n := by
  induction n using Nat.strongRecOn with
  | _ n ih =>
    by_cases h : n < 128
    · rw [numB_lt h]
      show 0 * 128 + n % 128 = n
      omega
    · rw [numB_ge (by omega)]
      show valB (numB (n / 128)) * 128 + (n % 128 + 128) % 128 = n
      rw [ih _ (by omega)]
      omega
theorem valB_drop_le (l : List Nat) (i : Nat) : valB (l.drop i) ≤ valB l := by
  induction l generalizing i with
  | nil => simp
  | cons a l ih =>
    cases i with
    | zero => exact Nat.le_refl _
    | succ i =>
      have := ih i
      show valB (l.drop i) ≤ valB l * 128 + a % 128
      omega
/-! ### steps, texts -/
def encS : Stp → List Nat
  | .wr w => 0 :: w.length :: w.map (· - 97)
  | .pa f l t => 1 :: (numB f ++ (numB l ++ numB t))
def chk (l : List Nat) : Nat := l.foldl (fun c v => (7 * c + v) % 227) 3
theorem chk_lt (l : List Nat) : chk l < 227 := by
  unfold chk
  rcases List.eq_nil_or_concat l with e | ⟨r, x, e⟩
  · subst e; decide
  · subst e
    rw [List.concat_eq_append, List.foldl_append]
    exact Nat.mod_lt _ (by decide)
theorem chk_snoc (l : List Nat) (v : Nat) : chk (l ++ [v]) = (7 * chk l + v) % 227 := by
  unfold chk
  rw [List.foldl_append]
  rfl
def encH (st : List Stp) : List Nat := 80 :: st.length :: st.flatMap encS
def encB (st : List Stp) : List Nat := encH st ++ [chk (encH st)]
theorem encS_isB {s : Nat} {y : Stp} (h : y.ok s = true) : isB (encS y) = true := by
  cases y with
  | wr w =>
    simp only [Stp.ok, Bool.and_eq_true, decide_eq_true_eq] at h
    obtain ⟨⟨h1, h2⟩, h3⟩ := h
    refine isB_cons (by omega) (isB_cons (by omega) ?_)
    refine List.all_eq_true.mpr fun n hn => decide_eq_true ?_
    obtain ⟨c, hc, rfl⟩ := List.mem_map.mp hn
    have := List.all_eq_true.mp h3 c hc
    unfold isLet at this
    simp at this
    omega
  | pa f l t =>
    exact isB_cons (by omega) (isB_app (numB_isB f) (isB_app (numB_isB l) (numB_isB t)))
theorem encH_isB {st : List Stp} (hg : Goes most 0 st) (hl : st.length ≤ 30) : isB (encH st) = true := by
  refine isB_cons (by omega) (isB_cons (by omega) ?_)
  refine List.all_eq_true.mpr fun n hn => ?_
  obtain ⟨y, hy, hny⟩ := List.mem_flatMap.mp hn
  obtain ⟨i, hi⟩ := List.mem_iff_getElem?.mp hy
  exact List.all_eq_true.mp (encS_isB (goes_at hg hi).1) n hny
theorem encB_isB {st : List Stp} (hg : Goes most 0 st) (hl : st.length ≤ 30) : isB (encB st) = true := by
  refine isB_app (encH_isB hg hl) ?_
  have := chk_lt (encH st)
  exact isB_cons (by omega) rfl
theorem encS_len {s : Nat} {y : Stp} (h : y.ok s = true) (hs : s ≤ most) : 1 ≤ (encS y).length ∧ (encS y).length ≤ 30 := by
  have hmost : most = 1000000000000000000 := rfl
  cases y with
  | wr w =>
    simp only [Stp.ok, Bool.and_eq_true, decide_eq_true_eq] at h
    show 1 ≤ (w.map _).length + 1 + 1 ∧ (w.map _).length + 1 + 1 ≤ 30
    rw [List.length_map]
    omega
  | pa f l t =>
    simp only [Stp.ok, Bool.and_eq_true, decide_eq_true_eq] at h
    have h1 := numB_len 8 (n := f) (by omega)
    have h2 := numB_len 8 (n := l) (by omega)
    have h3 := numB_len 8 (n := t) (by omega)
    show 1 ≤ (numB f ++ (numB l ++ numB t)).length + 1 ∧ (numB f ++ (numB l ++ numB t)).length + 1 ≤ 30
    rw [List.length_append, List.length_append]
    omega
end Pk
/-! ## A text as rows of words -/
namespace Pk
open PySem PySem.Spec PyProof.Rows L2 TL
theorem tl_sL (l : List Nat) : tl (sL l) = l := rfl
theorem num_sL (n : Nat) : Str.ofString (toString ((n : Nat) : Int)) = sL (numL n) := by
  rw [sL_of (Str.ofString (toString ((n : Nat) : Int)))]
  exact congrArg sL (tl_num n)
def rowW : Stp → List (List Nat)
  | .wr w => [[119, 114, 105, 116, 101], w]
  | .pa f l t => [[112, 97, 115, 116, 101], numL f, numL l, numL t]
def rowL2 (y : Stp) : List Nat := joinL [32] (rowW y)
def rowT (y : Stp) : Str := sL (rowL2 y)
def rowsL (st : List Stp) : List Nat := joinL [10] (st.map rowL2)
def rowsT (st : List Stp) : Str := sL (rowsL st)
theorem join_sL (c : Nat) (y : Str) (hy : y = sL [c]) (ps : List (List Nat)) : Txt.join y (ps.map sL) = sL (joinL [c] ps) := by
  subst hy
  rw [sL_of (Txt.join (sL [c]) (ps.map sL))]
  refine congrArg sL ?_
  rw [join_eq]
  refine (tl_join _ _).trans ?_
  rw [tl_sL, List.map_map]
  congr 1
  exact List.map_id _
theorem sp_sL : Str.ofString " " = sL [32] := by decide +kernel
theorem nl_sL : Str.ofString "\n" = sL [10] := by decide +kernel
theorem wr_sL : Str.ofString "write" = sL [119, 114, 105, 116, 101] := by decide +kernel
theorem pa_sL : Str.ofString "paste" = sL [112, 97, 115, 116, 101] := by decide +kernel
theorem word_free {y : Stp} {s : Nat} (h : y.ok s = true) {c : Nat} (hc : c < 48) : ∀ p ∈ rowW y, c ∉ p := by
  cases y with
  | wr w =>
    simp only [Stp.ok, Bool.and_eq_true, decide_eq_true_eq] at h
    intro p hp
    simp only [rowW, List.mem_cons, List.not_mem_nil, or_false] at hp
    rcases hp with rfl | rfl
    · simp
      omega
    · intro hm
      have := List.all_eq_true.mp h.2 c hm
      unfold isLet at this
      simp at this
      omega
  | pa f l t =>
    intro p hp
    simp only [rowW, List.mem_cons, List.not_mem_nil, or_false] at hp
    rcases hp with rfl | rfl | rfl | rfl
    · simp
      omega
    all_goals exact numL_free (Or.inl hc)
theorem rowW_ne (y : Stp) : rowW y ≠ [] := by cases y <;> simp [rowW]
theorem mem_joinL {S : List Nat} {c : Nat} : ∀ {ps : List (List Nat)}, c ∈ joinL S ps → c ∈ S ∨ ∃ p ∈ ps, c ∈ p
  | [], h => by cases h
  | [p], h => .inr ⟨p, List.mem_singleton.mpr rfl, h⟩
  | p :: q :: r, h => by
    rcases List.mem_append.mp (show c ∈ p ++ (S ++ joinL S (q :: r)) from h) with h | h
    · exact .inr ⟨p, List.mem_cons_self .., h⟩
    · rcases List.mem_append.mp h with h | h
      · exact .inl h
      · rcases mem_joinL (ps := q :: r) h with h | ⟨p2, h2, h3⟩
        · exact .inl h
        · exact .inr ⟨p2, List.mem_cons_of_mem _ h2, h3⟩
theorem row_free {y : Stp} {s : Nat} (h : y.ok s = true) : 10 ∉ rowL2 y := fun hm => by
  rcases mem_joinL hm with h1 | ⟨p, hp, hc⟩
  · simp at h1
  · exact word_free h (c := 10) (by omega) p hp hc
theorem split_row {y : Stp} {s : Nat} (h : y.ok s = true) : Txt.split (rowT y) (sL [32]) = (rowW y).map sL := by
  have e : rowT y = Txt.join (sL [32]) ((rowW y).map sL) := (join_sL 32 _ rfl _).symm
  rw [e]
  refine split_join (s := 32) (S := []) rfl (by decide +kernel) (by cases y <;> simp [rowW]) fun p hp => ?_
  obtain ⟨q, hq, rfl⟩ := List.mem_map.mp hp
  exact word_free h (by omega) q hq
theorem split_rows {st : List Stp} (hg : Goes most 0 st) (hne : st ≠ []) : Txt.split (rowsT st) (sL [10]) = st.map rowT := by
  have e : rowsT st = Txt.join (sL [10]) ((st.map rowL2).map sL) := (join_sL 10 _ rfl _).symm
  rw [e]
  have e2 : (st.map rowL2).map sL = st.map rowT := by rw [List.map_map]; rfl
  rw [e2]
  refine split_join (s := 10) (S := []) rfl (by decide +kernel) (by simpa using hne) fun p hp => ?_
  obtain ⟨y, hy, rfl⟩ := List.mem_map.mp hp
  obtain ⟨i, hi⟩ := List.mem_iff_getElem?.mp hy
  exact row_free (goes_at hg hi).1
theorem joinL_len {S : List Nat} : ∀ {ps : List (List Nat)} {k : Nat}, (∀ p ∈ ps, p.length ≤ k) → (joinL S ps).length ≤ ps.length * (k + S.length)
  | [], k, _ => Nat.zero_le _
  | [p], k, h => by
    have := h p (List.mem_singleton.mpr rfl)
    show p.length ≤ _
    rw [List.length_singleton, Nat.one_mul]
    omega
  | p :: q :: r, k, h => by
    have h1 := h p (List.mem_cons_self ..)
    have h2 := joinL_len (ps := q :: r) (S := S) fun p2 hp2 => h p2 (List.mem_cons_of_mem _ hp2)
    show (p ++ (S ++ joinL S (q :: r))).length ≤ _
    rw [List.length_append, List.length_append, List.length_cons, Nat.add_mul]
    omega
theorem word_len {y : Stp} {s : Nat} (h : y.ok s = true) (hs : s ≤ most) : ∀ p ∈ rowW y, p.length ≤ 20 := by
  have hmost : most = 1000000000000000000 := rfl
  cases y with
  | wr w =>
    simp only [Stp.ok, Bool.and_eq_true, decide_eq_true_eq] at h
    intro p hp
    simp only [rowW, List.mem_cons, List.not_mem_nil, or_false] at hp
    rcases hp with rfl | rfl
    · exact Nat.le_of_ble_eq_true rfl
    · exact h.1.2
  | pa f l t =>
    simp only [Stp.ok, Bool.and_eq_true, decide_eq_true_eq] at h
    intro p hp
    simp only [rowW, List.mem_cons, List.not_mem_nil, or_false] at hp
    rcases hp with rfl | rfl | rfl | rfl
    · exact Nat.le_of_ble_eq_true rfl
    all_goals exact numL_len (by omega) (by omega)
theorem rowW_len (y : Stp) : (rowW y).length ≤ 4 := by cases y <;> simp [rowW]
theorem row_len {y : Stp} {s : Nat} (h : y.ok s = true) (hs : s ≤ most) : (rowL2 y).length ≤ 84 := by
  have h1 := joinL_len (S := [32]) (word_len h hs)
  have h2 := rowW_len y
  have h3 : (rowW y).length * (20 + [32].length) ≤ 4 * 21 := Nat.mul_le_mul_right 21 h2
  unfold rowL2
  omega
theorem rows_len {st : List Stp} (hg : Goes most 0 st) (hl : st.length ≤ 30) : (rowsL st).length ≤ 2550 := by
  have h1 := joinL_len (S := [10]) (ps := st.map rowL2) (k := 84) fun p hp => by
    obtain ⟨y, hy, rfl⟩ := List.mem_map.mp hp
    obtain ⟨i, hi⟩ := List.mem_iff_getElem?.mp hy
    have hok := goes_at hg hi
    exact row_len hok.1 (by omega)
  rw [List.length_map] at h1
  have h3 : st.length * (84 + [10].length) ≤ 30 * 85 := Nat.mul_le_mul_right 85 hl
  unfold rowsL
  omega
theorem rows_ne {st : List Stp} (hne : st ≠ []) : rowsL st ≠ [] := by
  match st, hne with
  | y :: r, _ =>
    have h1 : rowL2 y ≠ [] := by
      cases y with
      | wr w => simp [rowL2, rowW, joinL]
      | pa f l t => simp [rowL2, rowW, joinL]
    cases r with
    | nil => exact h1
    | cons z r =>
      intro e
      have := (List.append_eq_nil_iff.mp (show rowL2 y ++ ([10] ++ joinL [10] ((z :: r).map rowL2)) = [] from e)).1
      exact h1 this
/-- figures: no leading zero, all of ten signs -/
theorem figs_ok {n : Nat} (h : n < 1000000000000000000) : 1 ≤ (numL n).length ∧ (numL n).length ≤ 18 ∧ ((numL n)[0]? = some 48 → numL n = [48]) ∧ (∀ c ∈ numL n, 48 ≤ c ∧ c ≤ 57) := by
  refine ⟨?_, numL_len (by omega) (by omega), ?_, fun c hc => ?_⟩
  · have := numL_ne n
    cases e : numL n with
    | nil => exact absurd e this
    | cons a r => simp
  · clear h
    induction n using Nat.strongRecOn with
    | _ n ih =>
      by_cases h9 : n < 10
      · rw [numL_lt h9]
        intro z
        have : 48 + n = 48 := by simpa using z
        rw [this]
      · rw [numL_step (by omega)]
        intro z
        have hne := numL_ne (n / 10)
        have h8 : (numL (n / 10))[0]? = some 48 := by
          cases e : numL (n / 10) with
          | nil => exact absurd e hne
          | cons a r =>
            rw [e] at z
            simpa using z
        have h7 := ih (n / 10) (by omega) h8
        have h6 : n / 10 = 0 := by
          have h5 : numL 0 = [48] := numL_lt (by omega)
          exact numL_inj (h7.trans h5.symm)
        omega
  · have := numL_digits n c hc
    omega
theorem log_big {n : Nat} (h : n < 18446744073709551616) : ((n : Nat) : Int).natAbs.log2 < 1920 :=
  Nat.lt_of_lt_of_le (PySem.Flt.log2_lt_of (k := 64) (by decide) (by rw [Int.natAbs_natCast]; exact Nat.lt_of_lt_of_le h (by decide))) (by decide)
/-- the words of a step are its parts, told -/
def wordsV : Stp → List V
  | .wr w => [.str "write", .str (sL w)]
  | .pa f l t => [.str "paste", .int (f : Nat), .int (l : Nat), .int (t : Nat)]
theorem int_sL {n : Nat} (h : n < 1000000000000000000) : intText? (sL (numL n)) = some (n : Int) := by
  rw [← num_sL]
  exact int_num (by have := (figs_ok h).2.1; omega)
end Pk
/-! ## text[::k], ranges with a step -/
namespace Pk
open PySem PySem.Spec PyProof.Rows L2
theorem rgC_up {n c : Nat} (hc : 1 ≤ c) (hc2 : c < 1000) (hn : n ≤ 100000) : RgC 0 (n : Nat) (c : Nat) ((n + c - 1) / c) := by
  have e : Builtin.Range.rangeSize 0 (n : Nat) (c : Nat) = (((n + c - 1) / c : Nat) : Int) := by
    unfold Builtin.Range.rangeSize
    rw [if_pos (by omega)]
    by_cases h : n = 0
    · subst h
      rw [if_neg (by omega), Nat.div_eq_of_lt (by omega)]
      rfl
    · rw [if_pos (by omega), show (n : Int) - 0 - 1 = ((n - 1 : Nat) : Int) by omega, ← Int.natCast_ediv]
      have h2 : (n + c - 1) / c = (n - 1) / c + 1 := by
        rw [show n + c - 1 = n - 1 + c by omega, Nat.add_div_right _ (by omega)]
      omega
  refine ⟨by omega, by omega, ?_, e⟩
  have h3 : (n + c - 1) / c ≤ n + c - 1 := Nat.div_le_self _ _
  have h4 : (n + c - 1) / c * c ≤ n + c - 1 := Nat.div_mul_le_self _ _
  have h5 : (((n + c - 1) / c : Nat) : Int) * (c : Int) ≤ 110000 := by
    rw [← Int.natCast_mul]
    omega
  unfold Builtin.Range.small
  rw [e]
  simp only [Builtin.Range.rangeFitsLong, Bool.and_eq_true, Bool.or_eq_true, decide_eq_true_eq, beq_iff_eq]
  generalize (n + c - 1) / c = m at *
  refine ⟨⟨⟨⟨by decide, by omega⟩, by omega⟩, by omega⟩, .inr ?_⟩
  rw [if_pos (by omega), Bool.and_eq_true, decide_eq_true_eq, decide_eq_true_eq]
  omega
theorem pe_cntK {X : Cx} (K : Fr) {o e : Expr} {es : List Expr} {to : TE} {t : TA} {apos cpos : Pos} (ho : PE X o to) (ha : PA X (e :: es) t)
    (hbase : attributeBase o "count" X.env (eval o X.env) = eval o X.env := by rfl)
    (hfew : ((backTo cpos (starEach (e :: es) X.env)).all (fun x => !x.1) && (backToKw cpos (keywordEach [] X.env)).all (fun x => x.1.isSome)
      && decide ((e :: es).length + ([] : List Keyword).length + (if ([] : List Keyword).isEmpty then 0 else 1) < 30)) = true := by rfl)
    (hline : (apos.endLine == cpos.line) = true := by rfl) (hs : starEach (e :: es) X.env = (false, eval e X.env) :: starEach es X.env := by rfl) (hplain : (backTo cpos (starEach es X.env)).any (·.1) = false := by rfl) (h : X.K = K := by rfl) :
    PE X (.Call (.Attribute o "count" apos) (e :: es) [] cpos) (tBM K "list" (rCntI K) to t) := by
  subst h
  exact pe_bm PySem.F.plainAttrs_list PySem.F.slot_list_count PySem.F.type_list_count mt_lcount ho ha hbase hfew hline hs hplain
/-- each k-th sign of a text -/
def stepL (z : List Nat) (k : Nat) : List Nat := (List.range ((z.length + k - 1) / k)).filterMap fun i => z[k * i]?
theorem step_range (n k : Nat) (hk : 1 ≤ k) : Builtin.Str.strSliceIndices none none (k : Nat) n = (List.range ((n + k - 1) / k)).map fun i => k * i := by
  unfold Builtin.Str.strSliceIndices sliceRange
  dsimp only
  rw [if_pos (show ((k : Nat) : Int) > 0 by omega), if_pos (show ((k : Nat) : Int) > 0 by omega), if_pos (show ((k : Nat) : Int) > 0 by omega)]
  have e : ((if (0 : Int) < (n : Nat) then ((n : Nat) - 0 + (k : Nat) - 1 : Int) / (k : Nat) else 0)).toNat = (n + k - 1) / k := by
    by_cases h : n = 0
    · subst h
      rw [if_neg (by omega), Nat.div_eq_of_lt (by omega)]
      rfl
    · rw [if_pos (by omega), show ((n : Nat) - 0 + (k : Nat) - 1 : Int) = ((n + k - 1 : Nat) : Int) by omega, ← Int.natCast_ediv, Int.toNat_natCast]
  rw [e]
  refine List.map_congr_left fun i _ => ?_
  rw [Int.zero_add, ← Int.natCast_mul, Int.toNat_natCast]
def tStepS (k : Nat) (te : TE) : TE := fun σ H Q => te σ H fun x H1 => ∃ z : List Nat, x = .str (sL z) ∧ z.length ≤ sizeLine ∧ Q (.str (sL (stepL z k))) H1
theorem pe_stepS {X : Cx} {e : Expr} {te : TE} {k : Nat} {kk : Nat} {p1 p3 pos : Pos} (hk : 2 ≤ k) (he : PE X e te) : PE X (.Subscript e (.Slice none none (some (.Constant (.int k) kk p1)) p3) pos) (tStepS k te) := ⟨fun pins s σ H Q I h => by
  refine Subscript_ (thn (he.run pins s σ H _ I h) fun v s1 k1 => ?_)
  obtain ⟨x, H1, I1, r1, z, ex, hz, q⟩ := k1
  subst ex
  obtain ⟨tz, rfl⟩ := r1
  have hst : PO X (some (.Constant (.int k) kk p1)) (tPart (tC (.int k))) := po_some pe_int
  refine wpAny_Slice (thn (po_none.run pins s1 σ H1 (fun o H2 => o = none ∧ H2 = H1) I1 ⟨rfl, rfl⟩) fun vl s2 k2 => ?_)
  obtain ⟨l, H2, I2, pl, el, e2⟩ := k2
  subst el e2
  refine thn (po_none.run pins s2 σ H2 (fun o H3 => o = none ∧ H3 = H2) I2 ⟨rfl, rfl⟩) fun vu s3 k3 => ?_
  obtain ⟨u, H3, I3, pu, eu, e3⟩ := k3
  subst eu e3
  refine thn (hst.run pins s3 σ H3 (fun o H4 => o = some (k : Int) ∧ H4 = H3) I3 ⟨(k : Int), rfl, rfl, rfl⟩) fun vs s4 k4 => ?_
  obtain ⟨o, H4, I4, ps, eo, e4⟩ := k4
  subst eo e4
  have I5 : Inv X pins σ H4 { s4 with heap := s4.heap.push { cls := .type "slice", data := .fields #[vl, vu, vs] } } := I4.kept (t' := s4.toks) fun b ob q => Heap.get?_push_of_some _ q
  obtain ⟨a1, rfl, b1⟩ := IsPart.raw pl
  obtain ⟨a2, rfl, b2⟩ := IsPart.raw pu
  obtain ⟨a3, rfl, b3⟩ := IsPart.raw ps
  change wpAny (model X.prog X.w) X.A (subscriptTail e (.Slice none none (some (.Constant (.int k) kk p1)) p3) (.str (sL z) tz) (.ref s4.heap.objs.size)) (EP X pins σ Q) X.xe { s4 with heap := s4.heap.push { cls := .type "slice", data := .fields #[partValue a1, partValue a2, partValue a3] } }
  refine tail_any (ops := [.str (sL z) tz, .ref s4.heap.objs.size]) (typeIs_str _ _ _) (F.slot_str_getitem.lookup) ?_ (by with_unfolding_all rfl)
  refine wpAny_getItem_str_slice (l := a1) (u := a2) (st := a3) ⟨_, Heap.get?_push_size _ rfl, rfl, rfl⟩ (by rw [b3]; show (((k : Nat) : Int) == 0) = false; exact beq_eq_false_iff_ne.mpr (by omega)) ?_
  have el : (sL z).length = z.length := sL_len z
  show Made.post (if ((a3.map (·.1)).getD 1 == 1 && (Builtin.Str.strSliceIndices (a1.map (·.1)) (a2.map (·.1)) ((a3.map (·.1)).getD 1) (sL z).length).length == (sL z).length) = true then Made.val (.str (sL z) tz)
    else Made.str ⟨((Builtin.Str.strSliceIndices (a1.map (·.1)) (a2.map (·.1)) ((a3.map (·.1)).getD 1) (sL z).length).filterMap ((sL z).cps[·]?)).toArray⟩) (EP X pins σ Q) _
  rw [b1, b2, b3, show (some (k : Int)).getD 1 = (k : Int) from rfl, if_neg (by
    rw [Bool.and_eq_true]
    rintro ⟨h1, _⟩
    have := beq_iff_eq.mp h1
    omega), el, step_range z.length k (by omega)]
  have ez : (((List.range ((z.length + k - 1) / k)).map fun i => k * i).filterMap ((sL z).cps[·]?)) = stepL z k := by
    unfold stepL
    rw [List.filterMap_map]
    refine fm_congr fun i _ => ?_
    show (sL z).cps[k * i]? = z[k * i]?
    unfold sL
    simp
  rw [ez]
  have hl : (stepL z k).length ≤ sizeLine := by
    unfold stepL
    refine Nat.le_trans (List.length_filterMap_le _ _) ?_
    rw [List.length_range]
    have h4 : (z.length + k - 1) / k * k ≤ z.length + k - 1 := Nat.div_mul_le_self _ _
    have h5 : (z.length + k - 1) / k * 2 ≤ (z.length + k - 1) / k * k := Nat.mul_le_mul_left _ hk
    rcases Nat.lt_or_ge z.length k with y | y
    · rcases Nat.eq_zero_or_pos z.length with y2 | y2
      · rw [y2, Nat.div_eq_of_lt (by omega)]
        exact Nat.zero_le _
      · rw [show z.length + k - 1 = z.length - 1 + k by omega, Nat.add_div_right _ (by omega), Nat.div_eq_of_lt (by omega)]
        omega
    · omega
  refine ⟨?_, .str (sL (stepL z k)), H4, I5.tok _, ⟨_, rfl⟩, q⟩
  show (sL (stepL z k)).length ≤ sizeLine
  rw [sL_len]
  exact hl⟩
end Pk
/-! ## a generator method with *v -/
namespace Pk
open PySem PySem.Spec PyProof.Rows L2 GenW
section
variable {P : Program} {w : World} {K : PySem.W.Frag} {mg : Str → Option Value} {base : Heap} {k : Nat} {f : Addr} {name qual : Str} {params : Arguments} {body : List Stmt} {scope : Scope} {dV kV doc pm cdv ct oc : Value} {an od : Option Addr}
  {osl : Array (Option Value)} {N ps : List Str} {A : Around} {outer : List Env} {s s1 : Shared} {H : Hp} {us : List Value} {vs : List V} {Q : List V → Hp → Prop} {E : XK}
/-- behind the frame: the object that the call gives -/
theorem gen_made (S : GScope N ps scope) (hd : A.handled = none) (e0 : Env0 P w K mg base A outer s H) (hl : vs.length = ps.length) (r : Vals vs us)
    (hbody : ∀ (B : Around) (pn : List (Addr × Obj)), Room k (B.deeper (envOfC qual scope s.heap.objs.size f cdv)) → ∃ t, GSs (gcxOf P w K mg base N qual scope f cdv B outer s H E pn) body t ∧ t { nx := fun ys _ H' => Q ys H', rt := fun ys v H' => v = .non ∧ Q ys H' } [] (start N vs) H)
    (x : InCallC s s.heap.objs.size (bindL (envOfC qual scope s.heap.objs.size f cdv).kindOf (ps.zip us) fun _ => none) (cellsFrom (s.heap.objs.size + 1) scope.names []) (bindC (envOfC qual scope s.heap.objs.size f cdv).kindOf (ps.zip us) fun _ => none) s1)
    (go : Obj) (nm qn : Value) (tk2 : Nat) (g1 : go.cls = .type "generator") (g2 : go.data = .fields #[.int s1.gens.size 0, nm, qn]) (g3 : go.slots = #[]) (g4 : go.isFreed = false) :
    s1.heap.NoLimit ∧ GMade P w (k + 1) outer H s [] Q E (.ref s1.heap.objs.size) { s1 with gens := s1.gens.push (.fresh (.func body (envOfC qual scope s.heap.objs.size f cdv))), toks := tk2, heap := s1.heap.push go } := by
  have lim : s.heap.NoLimit := e0.mod.nolimit.keeps fun b o e => (e0.bs b o e).1
  obtain ⟨hx, tk, es, hk⟩ := x.done
  have kp : ∀ b o, s.heap.get? b = some o → s1.heap.get? b = some o := x.toInCall.keep
  have lim1 : s1.heap.NoLimit := lim.keeps kp
  have os1 : s1.os = s.os := by rw [es]
  have gn1 : s1.gens = s.gens := by rw [es]
  have lt : s.heap.objs.size < s1.heap.objs.size := x.toInCall.ns.lt
  have isG : ∀ h : Heap, h.get? s1.heap.objs.size = some go → h.IsGen s1.heap.objs.size s1.gens.size := fun h e => ⟨go, nm, qn, e, g1, g2, g3⟩
  have at1 : (s1.heap.push go).get? s1.heap.objs.size = some go := Heap.get?_push_size _ g4
  have noC : ∀ v, go.data ≠ .cell v := fun v q => by rw [g2] at q; cases q
  refine ⟨lim1, s1.heap.objs.size, s1.gens.size, _, rfl, Nat.le_of_lt lt, by show _ < (s1.heap.push go).objs.size; rw [Heap.size_push]; exact Nat.lt_succ_self _, isG _ at1, Array.getElem?_push_size .., os1, AllBare.push (by rw [gn1]; exact e0.bare) rfl,
    lim1.keeps fun b o e => Heap.get?_push_of_some _ e, fun b o e => Heap.get?_push_of_some _ (kp b o e), fun B T s2 hrB frB hT keep hTl hos hba => ?_⟩
  obtain ⟨t, gt, tq⟩ := hbody B [(s1.heap.objs.size, go)] (hrB.deeper _)
  have J1 : Inv (gcxOf P w K mg base N qual scope f cdv B outer s H E []) [] (start N vs) H s1 := inv_startG S hrB.hd ⟨frB, e0.mod, e0.bs, e0.bsz, e0.funs, e0.frf, e0.hok, e0.bare⟩ hl r x
  have kp2 : ∀ b o, s1.heap.get? b = some o → s2.heap.get? b = some o := fun b o e => keep b o (Heap.get?_push_of_some _ e)
  have J2 := J1.call' (ch := []) (hos.trans os1.symm) (Un.kept kp2) (J1.hok.kept kp2) hba fun b z => by simp at z
  have hT2 : s1.heap.objs.size < T := by
    have z : (s1.heap.push go).objs.size ≤ T := hT
    rw [Heap.size_push] at z
    exact z
  obtain ⟨cT, eT⟩ := hTl
  have at2 : s2.heap.get? s1.heap.objs.size = some go := keep _ go at1
  have late : ∀ b, s1.heap.objs.size ≤ b → H b = none ∧ b ≠ s.heap.objs.size ∧ b ∉ frs outer ∧ s.heap.objs.size ≤ b ∧ ∀ y c, (cellsFrom (s.heap.objs.size + 1) scope.names []).lookup y = some c → c ≠ b := fun b hb => by
    refine ⟨J1.hok.fresh hb, Nat.ne_of_gt (Nat.lt_of_lt_of_le lt hb), J1.nofs hb, Nat.le_trans (Nat.le_of_lt lt) hb, fun y c e z => ?_⟩
    obtain ⟨_, _, ho, _⟩ := J1.cell y c e
    exact absurd (Nat.lt_of_lt_of_le (z ▸ Heap.lt_size ho) hb) (Nat.lt_irrefl _)
  obtain ⟨a1, a2, a3, _, _⟩ := late s1.heap.objs.size (Nat.le_refl _)
  obtain ⟨b1, b2, b3, b4, b5⟩ := late T (Nat.le_of_lt hT2)
  have start0 : GI (gcxOf P w K mg base N qual scope f cdv B outer s H E [(s1.heap.objs.size, go)]) T [] [] (start N vs) H s2 := ⟨#[], cT, .nil, Inv.pinnedG J2 fun p hp => by
    have hp2 : p = (s1.heap.objs.size, go) ∨ p = (T, lstObj #[] cT) := by simpa using hp
    rcases hp2 with rfl | rfl
    · exact ⟨at2, a1, a2, a3, noC⟩
    · exact ⟨eT, b1, b2, b3, fun v q => by cases q⟩⟩
  have isG2 : ∀ {ip : List (Addr × Obj)} {ys : List V} {s' : Shared} {σ' : L2.St} {H' : Hp}, GI (gcxOf P w K mg base N qual scope f cdv B outer s H E [(s1.heap.objs.size, go)]) T ip ys σ' H' s' → s'.heap.IsGen s1.heap.objs.size s1.gens.size := fun ⟨_, _, _, J⟩ => isG _ (J.pin (s1.heap.objs.size, go) (List.mem_append_left _ (List.mem_singleton.mpr rfl))).1
  refine seg_func (seg_imp (R := GR (gcxOf P w K mg base N qual scope f cdv B outer s H E [(s1.heap.objs.size, go)]) T (fun ys v H' => v = .non ∧ Q ys H') fun e s' => CX P w outer H s E e s' ∧ ∀ p ∈ [(s1.heap.objs.size, go)], s'.heap.get? p.1 = some p.2)
    (Y := GY (gcxOf P w K mg base N qual scope f cdv B outer s H E [(s1.heap.objs.size, go)]) T) (fun n z1 r z2 hR => ?_) (fun n z1 v z2 kap kap' hkk hY => ?_) sizeLine ?_)
  · match r, hR with
    | .error e, hR => exact .inr ⟨e, rfl, hR.1, isG _ (hR.2 _ (List.mem_singleton.mpr rfl))⟩
    | .ok (.ret u), ⟨ys, v, ip, σ', H', hn, hI, rv, ev, hQ⟩ =>
      subst ev
      obtain rfl : u = Value.none := rv
      obtain ⟨y1, _, _, acc, cc, ra, ea⟩ := hI.at
      obtain ⟨_, _, _, J⟩ := hI
      exact .inl ⟨.inl rfl, H', ys, acc, cc, J.os, J.bare, J.base, J.hok, y1, ea, ra, by omega, hQ⟩
  · obtain ⟨ys, xx, ip, σ', H', hn, y2, hI, y3⟩ := hY
    obtain ⟨_, _, _, acc, cc, ra, ea⟩ := hI.at
    have hg := isG2 hI
    obtain ⟨_, _, _, J⟩ := hI
    have hsz : acc.size = ys.length := by
      have e1 := ra.length
      rw [Array.length_toList] at e1
      exact e1.symm
    exact ⟨J.os, J.bare, J.nolimit, hg, ⟨acc, cc, ea, by rw [hsz]; exact hn⟩, fun s' z => hkk _ _ (y3 s' z)⟩
  · refine gt.run B T [] _ sizeLine [] s2 _ [] _ _ id id s2 (start N vs) H _ ⟨fun p hp => by rw [List.mem_singleton.mp hp]; exact Nat.ne_of_lt hT2, fun p hp => by simp at hp, ⟨b4, b2, b5⟩, over_func, rfl, rfl, rfl⟩ (Nat.add_zero _) ⟨fun n ys z1 s' fl hn hs => ?_, fun n z1 e s' hx => ?_⟩ start0 tq
    · match fl, hs with
      | .next, ⟨σ', H', hI, hQ⟩ => exact seg_end (.ok (.ret .none)) ⟨ys, .non, [], σ', H', hn, hI, rfl, rfl, hQ⟩
      | .brk, ⟨_, _, _, q⟩ => exact False.elim q
      | .cont, ⟨_, _, _, q⟩ => exact False.elim q
      | .ret u, ⟨v, σ', H', hI, rv, ev, hQ⟩ => exact seg_end (.ok (.ret u)) ⟨ys, v, [], σ', H', hn, hI, rv, ev, hQ⟩
    · refine seg_wrap ?_
      rw [over_func]
      refine wpAny_mono (show wpAny (model P w) (B.deeper (envOfC qual scope s.heap.objs.size f cdv)) (leaving (envOfC qual scope s.heap.objs.size f cdv) e) (fun _ s'' => CX P w outer H s E e s'' ∧ ∀ p ∈ [(s1.heap.objs.size, go)], s''.heap.get? p.1 = some p.2) (fun _ _ => False) s' from hx) (fun _ s'' q => seg_end (.error e) q) fun _ s'' q => q.elim
end
/-- a generator def f(self, *v) keeps sp (of self and the tuple) -/
def GpS (P : Program) (w : World) (K : PySem.W.Frag) (mg : Str → Option Value) (base : Heap) (k : Nat) (f : Addr) (sp : SpG) : Prop :=
  ∀ (A : Around) (outer : List Env) (s : Shared) (H : Hp) (u : Value) (us : List Value) (v : V) (vs : List V) (Q : List V → Hp → Prop) (E : XK), Room k A → Env0 P w K mg base A outer s H → RelV v u → Vals vs us → vs.length ≤ sizeLine →
    sp [v, .ref s.heap.objs.size] (upd H s.heap.objs.size (.tup vs)) Q E →
    codeAny (model P w) A (.call (.ref f) ⟨u :: us, []⟩) (fun r s' => match r with | .ok (.ret x) => GMade P w k outer (upd H s.heap.objs.size (.tup vs)) { s with heap := s.heap.push { cls := .type "tuple", data := .seq us.toArray } } [] Q E x s' | _ => False) s
section
variable {P : Program} {w : World} {K : PySem.W.Frag} {mg : Str → Option Value} {base : Heap} {k : Nat} {f : Addr} {name qual : Str} {params : Arguments} {body : List Stmt} {scope : Scope} {dV kV doc pm cdv ct oc : Value} {an od : Option Addr}
  {osl : Array (Option Value)} {N : List Str} {sp : SpG}
theorem gpS_of {p1 pv : Str} (lk : K.lookup f = some ⟨oc, od, .func (PySem.W.fnOf name qual params body scope dV kV doc pm an cdv ct), osl⟩) (hcd : PySem.W.codeIn K cdv qual = true) (S : GScope N [p1, pv] scope)
    (hb : ∀ us rest : List Value, us.length = [p1].length → bindArgs (PySem.W.fnOf name qual params body scope dV kV doc pm an cdv ct) ⟨us ++ rest, []⟩ = (newTuple rest >>= fun t => pure ([p1].zip us ++ [(pv, t)])))
    (hbody : ∀ (A : Around) (outer : List Env) (s : Shared) (H : Hp) (vs : List V) (Q : List V → Hp → Prop) (E : XK) (pn : List (Addr × Obj)), Room k (A.deeper (envOfC qual scope s.heap.objs.size f cdv)) → sp vs H Q E →
      ∃ t, GSs (gcxOf P w K mg base N qual scope f cdv A outer s H E pn) body t ∧ t { nx := fun ys _ H' => Q ys H', rt := fun ys v H' => v = .non ∧ Q ys H' } [] (start N vs) H) : GpS P w K mg base (k + 1) f sp := by
  intro A outer s H u us v vs Q E hr e0 rv r hz hsp
  have KX : K.In s.heap := e0.mod.kin.keeps fun b o e => (e0.bs b o e).1
  have hz2 : us.length ≤ sizeLine := by rw [← r.length]; exact hz
  refine codeAny_call_generator hr.depth (KX _ _ lk) rfl S.co S.gen rfl (PySem.W.codeRec_of KX hcd) ?_
  rw [show (⟨u :: us, []⟩ : Args) = ⟨[u] ++ us, []⟩ from rfl, hb [u] us rfl]
  refine wpAny_bind (wpAny_newTuple (wpAny_pure ?_) hz2)
  have hn : H s.heap.objs.size = none := e0.hok.fresh (Nat.le_refl _)
  have new : ObjOk P w (upd H s.heap.objs.size (.tup vs)) (s.heap.push ({ cls := .type "tuple", data := .seq us.toArray } : Obj)) s.heap.objs.size (.tup vs) := ⟨hz, us, r, ⟨_, Heap.get?_push_size _ rfl, rfl, _, rfl⟩⟩
  have e2 := StX.env0_laid e0 new
  have hkind : ∀ y ∈ [(p1, u), (pv, Value.ref s.heap.objs.size)], scope.names.lookup y.1 = some .local ∨ (scope.names.lookup y.1 = some .cell ∧ ((cellsFrom ((s.heap.push ({ cls := .type "tuple", data := .seq us.toArray } : Obj)).objs.size + 1) scope.names []).lookup y.1).isSome = true) := fun y hy => by
    have hy2 : y.1 ∈ [p1, pv] := by
      rcases List.mem_cons.mp hy with rfl | h
      · exact List.mem_cons_self
      · rw [List.mem_singleton.mp h]
        exact List.mem_cons_of_mem _ List.mem_cons_self
    rcases S.par y.1 hy2 with q | q
    · exact .inl q
    · exact .inr ⟨q, PySem.W.cellsFrom_some _ _ _ (.inl q)⟩
  refine wpAny_newFunctionEnv_cells S.kind hkind fun env he s1 x => ?_
  subst he
  exact gen_made (ps := [p1, pv]) (us := [u, .ref s.heap.objs.size]) (vs := [v, .ref s.heap.objs.size]) S hr.hd e2 rfl (.cons rv (.cons rfl .nil)) (fun B pn hB => hbody B outer _ _ _ Q E pn hB hsp) x _ _ _ _ rfl rfl rfl rfl
end
section
variable {X : Cx} {k : Nat} {f C : Addr} {sp : SpG} {m : Str} {pos' apos : Pos} {o : Expr} {ta : TE}
def tMethGS (C : Addr) (m : Str) (sp : SpG) (E : XK) (ta : TE) (t : TA) : TGen := fun σ H cont => ta σ H fun x H1 => ∃ a dx fs, x = .ref a ∧ H1 a = some (.ins C dx fs) ∧ fs.lookup m = none ∧
  t σ H1 fun vs H2 => vs.length ≤ sizeLine ∧ ∀ p, H2 p = none → sp [x, .ref p] (upd H2 p (.tup vs)) cont E
/-- o.m(e, ..), m(self, *v) a generator method -/
theorem pgen_methS {E : XK} {pl : Sem Bool} {e : Expr} {es : List Expr} {t : TA} (he : PE X o ta) (c : Cls X.K C) (hm : Meth X.K C m f) (F : GpS X.prog X.w X.K X.mg X.base k f sp) (hr : Room k X.A) (ha : PA X (e :: es) t)
    (hst : starEach (e :: es) X.env = (false, eval e X.env) :: starEach es X.env := by rfl) (hpl : (backTo pos' (starEach es X.env)).any (·.1) = false := by rfl)
    (ht : eval (.Call (.Attribute o m apos) (e :: es) [] pos') X.env = (do
      let ov ← eval o X.env
      standAt apos.atName
      let (f, first) ← holding [ov] (getMethod ov m pl)
      callWith pos' f first (backTo pos' (starEach (e :: es) X.env)) (backToKw pos' (keywordEach [] X.env))) := by rfl) :
    PGen X k (.Call (.Attribute o m apos) (e :: es) [] pos') (tMethGS C m sp E ta t) E := by
  refine ⟨fun pins s σ H cont I h => ?_⟩
  refine PySem.W.methodCall_KW (pl := pl) (thn (he.run pins s σ H _ I h) fun u s1 ⟨x, H1, I1, rx, a, dx, fs, ex, ea, l, q⟩ => ?_) ht
  subst ex
  obtain rfl : u = Value.ref a := rx
  refine getmeth_ok I1 ea c hm l ?_
  refine PySem.W.callWith_K (first := [.ref a]) (h₀ := X.base) I.ok.mod.kin hm.kp (thn (ha.run pos' pins s1 σ H1 _ I1 q) fun us s2 ⟨vs, H2, I2, r, hz, q2⟩ => ⟨I2.kIn, ?_⟩) hst hpl
  have hn : H2 s2.heap.objs.size = none := I2.hok.fresh (Nat.le_refl _)
  have new : ObjOk X.prog X.w (upd H2 s2.heap.objs.size (.tup vs)) (s2.heap.push ({ cls := .type "tuple", data := .seq us.toArray } : Obj)) s2.heap.objs.size (.tup vs) := ⟨hz, us, r, ⟨_, Heap.get?_push_size _ rfl, rfl, _, rfl⟩⟩
  refine wpAny_call (codeAny_mono (F X.A X.stack s2 H2 (.ref a) us (.ref a) vs cont E hr I2.env0 rfl r hz (q2 _ hn)) fun r s' hq => ?_)
  match r, hq with
  | .ok (.ret u), hq => exact ⟨_, _, [], I2.laid (t' := s2.toks) (fun b ob z => Heap.get?_push_of_some _ z) (Nat.le_refl _) new, .nil, hq⟩
/-- list(o.m(e)), m(self, *v) a generator method -/
theorem pe_listGS {pl : Sem Bool} {e : Expr} {es : List Expr} {t : TA} {p pos : Pos} (he : PE X o ta) (c : Cls X.K C) (hm : Meth X.K C m f) (F : GpS X.prog X.w X.K X.mg X.base k f sp) (hr : Room (k + 3) X.A) (ha : PA X (e :: es) t) (hl : X.mg ("list" : Str) = none)
    (hgl : Gl X "list" := by rfl) (hst : starEach (e :: es) X.env = (false, eval e X.env) :: starEach es X.env := by rfl) (hpl : (backTo pos' (starEach es X.env)).any (·.1) = false := by rfl)
    (ht : eval (.Call (.Attribute o m apos) (e :: es) [] pos') X.env = (do
      let ov ← eval o X.env
      standAt apos.atName
      let (f, first) ← holding [ov] (getMethod ov m pl)
      callWith pos' f first (backTo pos' (starEach (e :: es) X.env)) (backToKw pos' (keywordEach [] X.env))) := by rfl)
    (he2 : starEach [.Call (.Attribute o m apos) (e :: es) [] pos'] X.env = (false, eval (.Call (.Attribute o m apos) (e :: es) [] pos') X.env) :: starEach [] X.env := by rfl) :
    PE X (.Call (.Name "list" p) [.Call (.Attribute o m apos) (e :: es) [] pos'] [] pos) (tListG (tMethGS C m sp E0 ta t)) :=
  pe_listG (pgen_methS he c hm F (hr.mono (by omega)) ha hst hpl ht) passL (fun _ _ _ h => h.elim) hr hgl hl b_list (by decide) (by decide) he2
end
end Pk
/-! ## One more paste -/
namespace Pk
def pas (st : List Stp) (f l t : Nat) : List Stp := st ++ [.pa f l t]
variable {st : List Stp} {f l t : Nat}
theorem pas_goes (h : Goes most 0 st) (h1 : f ≤ l) (h2 : l < sz st) (h3 : 1 ≤ t) (h4 : t ≤ 1000000000) (h5 : sz st + (l + 1 - f) * t ≤ most) : Goes most 0 (pas st f l t) := by
  refine goes_app.mpr ⟨h, ?_, ?_, trivial⟩
  · simp [Stp.ok]
    omega
  · rw [Nat.zero_add]
    exact h5
theorem pas_sz : sz (pas st f l t) = sz st + (l + 1 - f) * t := by
  unfold pas
  rw [sz_app, sz_cons]
  rfl
theorem pas_nk : nk (pas st f l t) = nk st := by
  unfold pas
  rw [nk_app]
  rfl
theorem pas_typed : typed (pas st f l t) = typed st := by
  unfold pas
  rw [typed_app]
  show typed st ++ [] = _
  rw [List.append_nil]
theorem pas_len : (pas st f l t).length = st.length + 1 := by
  unfold pas
  rw [List.length_append]
  rfl
theorem pas_at : (pas st f l t)[st.length]? = some (.pa f l t) := by
  unfold pas
  rw [List.getElem?_append_right (Nat.le_refl _), Nat.sub_self]
  rfl
theorem pas_take : (pas st f l t).take st.length = st := by
  unfold pas
  rw [List.take_left]
theorem pas_take1 : (pas st f l t).take (st.length + 1) = pas st f l t := List.take_of_length_le (by rw [pas_len]; exact Nat.le_refl _)
theorem pas_pre (hg : Goes most 0 (pas st f l t)) : ∃ F, ex (pas st f l t) = ex st ++ F ∧ (ex st).length = sz st := by
  obtain ⟨A, F, h1, _, _, h4⟩ := ex_split hg pas_at
  rw [pas_take] at h1 h4
  exact ⟨A ++ F, h1, h4⟩
theorem pas_low (hg : Goes most 0 (pas st f l t)) (P : Nat → Bool) {p : Nat} (hp : p ≤ sz st) : cntP (pas st f l t) P p = cntP st P p := by
  obtain ⟨F, h1, h2⟩ := pas_pre hg
  unfold cntP
  rw [h1, List.take_append_of_le_length (by omega)]
theorem pas_ex (hg : Goes most 0 (pas st f l t)) {p : Nat} (hp : p < sz st) : (ex (pas st f l t))[p]? = (ex st)[p]? := by
  obtain ⟨F, h1, h2⟩ := pas_pre hg
  rw [h1, List.getElem?_append_left (by omega)]
theorem pas_ok (hg : Goes most 0 (pas st f l t)) : f ≤ l ∧ l < sz st ∧ 1 ≤ t ∧ t ≤ 1000000000 := by
  have h := (goes_at hg pas_at).1
  rw [pas_take] at h
  simp only [Stp.ok, Bool.and_eq_true, decide_eq_true_eq] at h
  exact ⟨h.1.1.1, h.1.1.2, h.1.2, h.2⟩
theorem pas_exU (hg : Goes most 0 (pas st f l t)) {u : Nat} (hu : u < (l + 1 - f) * t) : (ex (pas st f l t))[sz st + u]? = (ex st)[f + u % (l + 1 - f)]? := by
  obtain ⟨o1, o2, o3, o4⟩ := pas_ok hg
  have h := (ex_pa hg pas_at (p := sz st + u) (by rw [pas_take]; omega) (by rw [pas_take1, pas_sz]; omega)).1
  rw [pas_take, Nat.add_sub_cancel_left] at h
  have hm := Nat.mod_lt u (show 0 < l + 1 - f by omega)
  rw [h, pas_ex hg (by omega)]
theorem pas_cnt (hg : Goes most 0 (pas st f l t)) (P : Nat → Bool) {u : Nat} (hu : u ≤ (l + 1 - f) * t) :
    (cntP (pas st f l t) P (sz st + u) : Int) = (cntP st P (sz st) : Int) + ((u / (l + 1 - f) : Nat) : Int) * ((cntP st P (l + 1) : Int) - (cntP st P f : Int)) + ((cntP st P (f + u % (l + 1 - f)) : Int) - (cntP st P f : Int)) := by
  obtain ⟨o1, o2, o3, o4⟩ := pas_ok hg
  have h := cntP_paI hg pas_at P u hu
  have hm := Nat.mod_lt u (show 0 < l + 1 - f by omega)
  rw [pas_take, pas_low hg P (Nat.le_refl _), pas_low hg P (show l + 1 ≤ sz st by omega), pas_low hg P (show f ≤ sz st by omega), pas_low hg P (show f + u % (l + 1 - f) ≤ sz st by omega)] at h
  rw [h]
  omega
theorem pas_all (hg : Goes most 0 (pas st f l t)) (P : Nat → Bool) :
    (cntP (pas st f l t) P (sz (pas st f l t)) : Int) = (cntP st P (sz st) : Int) + (t : Int) * ((cntP st P (l + 1) : Int) - (cntP st P f : Int)) := by
  obtain ⟨o1, o2, o3, o4⟩ := pas_ok hg
  have h := pas_cnt hg P (Nat.le_refl ((l + 1 - f) * t))
  rw [Nat.mul_div_cancel_left t (by omega), Nat.mul_mod_right, show f + 0 = f from rfl] at h
  rw [pas_sz, h]
  omega
theorem pas_occ (hg : Goes most 0 (pas st f l t)) {P : Nat → Bool} {u : Nat} (hu : u < t * (cntP st P (l + 1) - cntP st P f)) :
    ∃ q, (occ st P)[cntP st P f + u % (cntP st P (l + 1) - cntP st P f)]? = some q ∧ f ≤ q ∧ q ≤ l ∧ (occ (pas st f l t) P)[cntP st P (sz st) + u]? = some (sz st + (u / (cntP st P (l + 1) - cntP st P f)) * (l + 1 - f) + (q - f)) := by
  obtain ⟨o1, o2, o3, o4⟩ := pas_ok hg
  have hm := cntP_mono st P (show f ≤ l + 1 by omega)
  have ha := pas_all hg P
  have e1 := pas_low hg P (Nat.le_refl (sz st))
  have e2 := pas_low hg P (show l + 1 ≤ sz st by omega)
  have e3 := pas_low hg P (show f ≤ sz st by omega)
  have hz : cntP (pas st f l t) P (sz (pas st f l t)) = cntP st P (sz st) + t * (cntP st P (l + 1) - cntP st P f) := by
    have e : ((t * (cntP st P (l + 1) - cntP st P f) : Nat) : Int) = (t : Int) * ((cntP st P (l + 1) : Int) - (cntP st P f : Int)) := by rw [Int.natCast_mul, Int.ofNat_sub hm]
    omega
  obtain ⟨_, _, q, h1, h2, h3, h4⟩ := occ_pa hg pas_at (P := P) (n := cntP st P (sz st) + u) (u := u) (by rw [pas_take, e1]) (by rw [pas_take1, hz]; omega)
  rw [e2, e3] at h1 h4
  rw [pas_take] at h4
  refine ⟨q, ?_, h2, h3, h4⟩
  obtain ⟨k, g1, g2, g3⟩ := occ_get.mp h1
  rw [pas_ex hg (by omega)] at g1
  rw [pas_low hg P (by omega)] at g3
  exact occ_get.mpr ⟨k, g1, g2, g3⟩
theorem pasK_low (hg : Goes most 0 (pas st f l t)) (k : Nat) {p : Nat} (hp : p ≤ sz st) : cnt (pas st f l t) k p = cnt st k p := by
  rw [← cnt_in, ← cnt_in]
  exact pas_low hg _ hp
theorem pasK_cnt (hg : Goes most 0 (pas st f l t)) (k : Nat) {u : Nat} (hu : u ≤ (l + 1 - f) * t) :
    (cnt (pas st f l t) k (sz st + u) : Int) - (cnt (pas st f l t) k (sz st) : Int) = ((u / (l + 1 - f) : Nat) : Int) * ((cnt st k (l + 1) : Int) - (cnt st k f : Int)) + ((cnt st k (f + u % (l + 1 - f)) : Int) - (cnt st k f : Int)) := by
  have h := pas_cnt hg (isIn [k]) hu
  rw [cnt_in, cnt_in, cnt_in, cnt_in, cnt_in] at h
  have e := pasK_low hg k (Nat.le_refl (sz st))
  rw [h, e]
  omega
theorem pasK_all (hg : Goes most 0 (pas st f l t)) (k : Nat) :
    (cnt (pas st f l t) k (sz (pas st f l t)) : Int) - (cnt (pas st f l t) k (sz st) : Int) = (t : Int) * ((cnt st k (l + 1) : Int) - (cnt st k f : Int)) := by
  have h := pas_all hg (isIn [k])
  rw [cnt_in, cnt_in, cnt_in, cnt_in] at h
  have e := pasK_low hg k (Nat.le_refl (sz st))
  rw [h, e]
  omega
/-- ascending lists of the same numbers are one -/
theorem asc_one : ∀ {xs ys : List Int}, xs.Pairwise (· < ·) → ys.Pairwise (· < ·) → (∀ k, k ∈ xs ↔ k ∈ ys) → xs = ys
  | [], [], _, _, _ => rfl
  | [], y :: r, _, _, h => absurd ((h y).mpr List.mem_cons_self) (by simp)
  | x :: r, [], _, _, h => absurd ((h x).mp List.mem_cons_self) (by simp)
  | x :: r, y :: s, hx, hy, h => by
    rw [List.pairwise_cons] at hx hy
    have e : x = y := by
      rcases List.mem_cons.mp ((h x).mp List.mem_cons_self) with e | e
      · exact e
      · rcases List.mem_cons.mp ((h y).mpr List.mem_cons_self) with e2 | e2
        · exact e2.symm
        · have a1 := hx.1 y e2
          have a2 := hy.1 x e
          omega
    subst e
    congr 1
    refine asc_one hx.2 hy.2 fun k => ⟨fun z => ?_, fun z => ?_⟩
    · rcases List.mem_cons.mp ((h k).mp (List.mem_cons_of_mem _ z)) with e | e
      · have := hx.1 k z
        omega
      · exact e
    · rcases List.mem_cons.mp ((h k).mpr (List.mem_cons_of_mem _ z)) with e | e
      · have := hy.1 k z
        omega
      · exact e
theorem occ_asc (st : List Stp) (P : Nat → Bool) : (occ st P).Pairwise (· < ·) := List.Pairwise.filter _ List.pairwise_lt_range
theorem ints_asc {l : List Nat} (h : l.Pairwise (· < ·)) : (l.map fun i : Nat => (i : Int)).Pairwise (· < ·) := List.pairwise_map.mpr (h.imp fun {a b} z => by omega)
theorem cntP_gap (st : List Stp) (P : Nat → Bool) {p q : Nat} (h : p ≤ q) : cntP st P q ≤ cntP st P p + (q - p) := by
  rw [cntP_split st P h]
  have h1 := List.countP_le_length (l := ((ex st).take q).drop p) (p := P)
  rw [List.length_drop, List.length_take] at h1
  omega
/-- a key that stands in a range -/
theorem key_in {st : List Stp} {a b j k : Nat} (h : (ex st)[a + j]? = some k) (hj : a + j ≤ b) : cnt st k a < cnt st k (b + 1) ∧ cnt st k (b + 1) ≤ cnt st k a + (b + 1 - a) ∧ cnt st k (b + 1) ≤ b + 1 := by
  have hkk : isIn [k] k = true := by rw [isIn_one]; exact decide_eq_true rfl
  have f1 := cntP_succ (P := isIn [k]) h
  have f2 := cntP_mono st (isIn [k]) (show a ≤ a + j by omega)
  have f3 := cntP_mono st (isIn [k]) (show a + j + 1 ≤ b + 1 by omega)
  have f4 := cntP_gap st (isIn [k]) (show a ≤ b + 1 by omega)
  have f5 := cntP_le st (isIn [k]) (b + 1)
  rw [if_pos hkk] at f1
  rw [cnt_in, cnt_in] at f1 f2 f3 f4
  rw [cnt_in] at f5
  omega
/-! ### the letters of a range are its places -/
theorem sum_filter (p : Nat → Bool) (g : Nat → Int) (hz : ∀ c, p c = false → g c = 0) : ∀ l : List Nat, ((l.filter p).map g).sum = (l.map g).sum
  | [] => rfl
  | c :: r => by
    have ih := sum_filter p g hz r
    by_cases h : p c = true
    · rw [List.filter_cons, if_pos h, List.map_cons, List.map_cons, List.sum_cons, List.sum_cons, ih]
    · rw [List.filter_cons, if_neg h, List.map_cons, List.sum_cons, ih, hz c (by simpa using h), Int.zero_add]
theorem sum_let1 (st : List Stp) (k : Nat) (h : isLet (ltr st k) = true) : ((List.range' 97 26).map fun c => if lP st c k = true then (1 : Int) else 0).sum = 1 := by
  have e : (fun c => if lP st c k = true then (1 : Int) else 0) = fun c => if ltr st k = c then (1 : Int) else 0 := by
    funext c
    by_cases h : ltr st k = c
    · rw [if_pos h, if_pos (lP_is h)]
    · rw [if_neg h, if_neg (by rw [lP_not h]; exact Bool.false_ne_true)]
  have hc : (List.range' 97 26).count (ltr st k) = 1 := nd_count List.nodup_range' (let_iff.mp h)
  rw [e, sum_ones, hc]
  rfl
theorem sum_lets (st : List Stp) : ∀ E : List Nat, (∀ k ∈ E, isLet (ltr st k) = true) → ((List.range' 97 26).map fun c => (E.countP (lP st c) : Int)).sum = (E.length : Nat)
  | [], _ => by
    have : (fun c => (([] : List Nat).countP (lP st c) : Int)) = fun _ => 0 := by funext c; simp
    rw [this, sum_zero]
    rfl
  | k :: r, h => by
    have e : (fun c => ((k :: r).countP (lP st c) : Int)) = fun c => (r.countP (lP st c) : Int) + if lP st c k = true then 1 else 0 := by
      funext c
      rw [List.countP_cons]
      split <;> simp
    rw [e, sum_add, sum_lets st r (fun x hx => h x (List.mem_cons_of_mem _ hx)), sum_let1 st k (h k List.mem_cons_self), List.length_cons]
    omega
theorem sum_lcD {st : List Stp} {m : Nat} (h : Goes m 0 st) (hlet : (typed st).all isLet = true) {a e : Nat} (hae : a ≤ e) (he : e ≤ sz st) : ((lcD st a e).map (·.2)).sum = (e : Int) - (a : Int) := by
  have h1 : ((lcD st a e).map (·.2)).sum = ((List.range' 97 26).map fun c => (cntP st (lP st c) e : Int) - (cntP st (lP st c) a : Int)).sum := by
    unfold lcD lcs
    rw [List.map_map]
    refine sum_filter _ _ (fun c hc => ?_) _
    have h2 := cntP_mono st (lP st c) hae
    have h3 := of_decide_eq_false hc
    show (cntP st (lP st c) e : Int) - (cntP st (lP st c) a : Int) = 0
    omega
  have hs : ∀ p, p ≤ sz st → ((List.range' 97 26).map fun c => (cntP st (lP st c) p : Int)).sum = (p : Nat) := fun p hp => by
    have h4 := sum_lets st ((ex st).take p) fun k hk => ltr_let hlet (ex_lt st k (List.mem_of_mem_take hk))
    rw [List.length_take, ex_len st h, Nat.min_eq_left hp] at h4
    exact h4
  rw [h1, sum_sub, hs e he, hs a (by omega)]
end Pk
/-! ## Texts written out -/
namespace Pk
def chunk (ls : List Nat) (m : Nat) : List Stp := (List.range m).map fun i => .wr ((ls.drop (20 * i)).take 20)
/-- the same letters without pasting -/
def plainT (ls : List Nat) : List Stp := chunk ls ((ls.length + 19) / 20)
theorem chunk_succ (ls : List Nat) (m : Nat) : chunk ls (m + 1) = chunk ls m ++ [.wr ((ls.drop (20 * m)).take 20)] := by
  unfold chunk
  rw [List.range_succ, List.map_append]
  rfl
theorem chunk_len (ls : List Nat) (m : Nat) : (chunk ls m).length = m := by
  unfold chunk
  rw [List.length_map, List.length_range]
theorem chunk_typed (ls : List Nat) : ∀ m, typed (chunk ls m) = ls.take (20 * m)
  | 0 => by simp [chunk, typed]
  | m + 1 => by
    rw [chunk_succ, typed_app, chunk_typed ls m, Nat.mul_add, Nat.mul_one, List.take_add]
    congr 1
    unfold typed
    rw [List.flatMap_cons, List.flatMap_nil, List.append_nil]
    rfl
theorem chunk_sz (ls : List Nat) : ∀ m, sz (chunk ls m) = (ls.take (20 * m)).length
  | 0 => by simp [chunk, sz]
  | m + 1 => by
    rw [chunk_succ, sz_app, chunk_sz ls m, Nat.mul_add, Nat.mul_one, List.take_add, List.length_append]
    rfl
theorem chunk_goes {ls : List Nat} (hal : ls.all isLet = true) (hm : ls.length ≤ most) : ∀ m, m ≤ (ls.length + 19) / 20 → Goes most 0 (chunk ls m)
  | 0, _ => trivial
  | m + 1, h => by
    rw [chunk_succ]
    have h20 : 20 * m < ls.length := by omega
    have hz := chunk_sz ls m
    rw [List.length_take] at hz
    refine goes_app.mpr ⟨chunk_goes hal hm m (by omega), ?_, ?_, trivial⟩
    · show (decide (1 ≤ ((ls.drop (20 * m)).take 20).length) && decide (((ls.drop (20 * m)).take 20).length ≤ 20) && ((ls.drop (20 * m)).take 20).all isLet) = true
      have hd : 1 ≤ ((ls.drop (20 * m)).take 20).length := by rw [List.length_take, List.length_drop]; omega
      have hd2 : ((ls.drop (20 * m)).take 20).length ≤ 20 := by rw [List.length_take]; omega
      have hd3 : ((ls.drop (20 * m)).take 20).all isLet = true := by
        rw [List.all_eq_true] at hal ⊢
        exact fun x hx => hal x (List.mem_of_mem_drop (List.mem_of_mem_take hx))
      rw [decide_eq_true hd, decide_eq_true hd2, hd3]
      rfl
    · show 0 + sz (chunk ls m) + ((ls.drop (20 * m)).take 20).length ≤ most
      rw [List.length_take, List.length_drop]
      omega
theorem exF_wr (ls : List Nat) : ∀ m (E : List Nat) (n : Nat), True → exF E n (chunk ls m) = E ++ List.range' n (nk (chunk ls m)) := by
  have h : ∀ (st : List Stp) (E : List Nat) (n : Nat), (∀ x ∈ st, ∃ w, x = .wr w) → exF E n st = E ++ List.range' n (nk st) := by
    intro st
    induction st with
    | nil => intro E n _; simp [exF, nk]
    | cons x r ih =>
      intro E n hx
      obtain ⟨w, rfl⟩ := hx x List.mem_cons_self
      show exF (E ++ List.range' n w.length) (n + w.length) r = _
      rw [ih _ _ fun y hy => hx y (List.mem_cons_of_mem _ hy), List.append_assoc]
      congr 1
      have e : nk (.wr w :: r) = w.length + nk r := by simp [nk, Stp.ks]
      rw [e, ← List.range'_append_1]
  intro m E n _
  refine h _ E n fun x hx => ?_
  obtain ⟨i, _, rfl⟩ := List.mem_map.mp hx
  exact ⟨_, rfl⟩
theorem plain_typed (ls : List Nat) : typed (plainT ls) = ls := by
  unfold plainT
  rw [chunk_typed, List.take_of_length_le (by omega)]
theorem plain_nk (ls : List Nat) : nk (plainT ls) = ls.length := by rw [← typed_len, plain_typed]
theorem plain_sz (ls : List Nat) : sz (plainT ls) = ls.length := by
  unfold plainT
  rw [chunk_sz, List.take_of_length_le (by omega)]
theorem plain_goes {ls : List Nat} (hal : ls.all isLet = true) (hm : ls.length ≤ most) : Goes most 0 (plainT ls) := chunk_goes hal hm _ (Nat.le_refl _)
theorem plain_len {ls : List Nat} (h : ls.length ≤ 600) : (plainT ls).length ≤ 30 := by
  unfold plainT
  rw [chunk_len]
  omega
theorem plain_ex (ls : List Nat) : ex (plainT ls) = List.range ls.length := by
  unfold ex
  have h := exF_wr ls ((ls.length + 19) / 20) [] 0 trivial
  have e := plain_nk ls
  unfold plainT at e ⊢
  rw [h, e, List.nil_append, List.range_eq_range']
theorem plain_lts (ls : List Nat) : lts (plainT ls) = ls := by
  unfold lts
  rw [plain_ex]
  refine List.ext_getElem (by simp) fun i h1 h2 => ?_
  simp only [List.getElem_map, List.getElem_range]
  unfold ltr
  rw [plain_typed, List.getD_eq_getElem?_getD, List.getElem?_eq_getElem h2]
  rfl
/-! ### what letters alone tell -/
theorem cntP_lts (st : List Stp) (c p : Nat) : cntP st (lP st c) p = ((lts st).take p).countP (· == c) := by
  unfold cntP lts
  rw [← List.map_take, List.countP_map]
  rfl
theorem cntP_alike {a b : List Stp} (h : lts a = lts b) (c p : Nat) : cntP a (lP a c) p = cntP b (lP b c) p := by rw [cntP_lts, cntP_lts, h]
theorem lcD_alike {a b : List Stp} (h : lts a = lts b) (x y : Nat) : lcD a x y = lcD b x y := by
  unfold lcD lcs
  simp only [cntP_alike h]
theorem occ_alike {a b : List Stp} (h : lts a = lts b) (c : Nat) : occ a (lP a c) = occ b (lP b c) := by
  have hl : (ex a).length = (ex b).length := by rw [← lts_len, ← lts_len, h]
  unfold occ occL
  rw [hl]
  refine List.filter_congr fun p hp => ?_
  rw [List.mem_range] at hp
  have g : ∀ st : List Stp, p < (ex st).length → lP st c ((ex st).getD p 0) = ((lts st)[p]? == some c) := fun st hs => by
    rw [lts_at (List.getElem?_eq_getElem hs), List.getD_eq_getElem?_getD, List.getElem?_eq_getElem hs]
    unfold lP ltr
    simp
  rw [g a (by omega), g b hp, h]
theorem has_alike {a b : List Stp} {m n : Nat} (ha : Goes m 0 a) (hb : Goes n 0 b) (h : lts a = lts b) {c : Nat} (hc : isLet c = true) : c ∈ typed a ↔ c ∈ typed b := by
  have hl : sz a = sz b := by rw [← ex_len a ha, ← ex_len b hb, ← lts_len, ← lts_len, h]
  rw [let_counted ha hc, let_counted hb hc, hl, cntP_alike h]
/-! ### the first place that isn't new -/
theorem ord_fst : ∀ {l : List Nat} {p k : Nat}, InOrd 0 l → l.take p = List.range p → l[p]? = some k → k ≤ p := by
  intro l p k h ht hk
  have h1 := (ord_at h hk).1
  rw [ht, List.range_eq_range', (ord_range p 0).2] at h1
  omega
theorem pre_range {l : List Nat} {p : Nat} (hp : p ≤ l.length) (hq : ∀ q, q < p → l.getD q 0 = q) : l.take p = List.range p := by
  refine List.ext_getElem (by simp; omega) fun i h1 h2 => ?_
  simp only [List.length_range] at h2
  have := hq i h2
  rw [List.getD_eq_getElem?_getD, List.getElem?_eq_getElem (by omega)] at this
  simpa using this
/-- places whose number isn't theirs; the first of them is the first key that stood before -/
theorem fst_due {l : List Nat} (h : InOrd 0 l) : ((List.range l.length).filter fun p => decide (l.getD p 0 ∈ l.take p)).head? = ((List.range l.length).filter fun p => decide (l.getD p 0 ≠ p)).head? ∧
    ((List.range l.length).filter fun p => decide (l.getD p 0 ≠ p)).head? = ((List.range l.length).find? fun p => decide (l.getD p 0 ≠ p)) := by
  have hf : ∀ (P : Nat → Bool), ((List.range l.length).filter P).head? = (List.range l.length).find? P := fun P => List.head?_filter
  rw [hf, hf]
  refine ⟨?_, rfl⟩
  have pre : ∀ p, p ≤ l.length → (∀ q, q < p → l.getD q 0 = q) → l.take p = List.range p := fun p hp hq => by
    refine List.ext_getElem (by simp; omega) fun i h1 h2 => ?_
    simp only [List.length_range] at h2
    have := hq i h2
    rw [List.getD_eq_getElem?_getD, List.getElem?_eq_getElem (by omega)] at this
    simpa using this
  cases hd : (List.range l.length).find? fun p => decide (l.getD p 0 ≠ p) with
  | none =>
    rw [List.find?_eq_none] at hd ⊢
    intro p hp
    rw [List.mem_range] at hp
    have hall : ∀ q, q < l.length → l.getD q 0 = q := fun q hq => by
      have := hd q (List.mem_range.mpr hq)
      simpa using this
    rw [pre p (by omega) fun q hq => hall q (by omega), hall p hp, decide_eq_true_eq, List.mem_range]
    omega
  | some p =>
    obtain ⟨h1, h2, h3⟩ := List.find?_range_eq_some.mp hd
    rw [List.mem_range] at h2
    have hq : ∀ q, q < p → l.getD q 0 = q := fun q hq => by
      have := h3 q hq
      simpa using this
    have ht := pre p (by omega) hq
    have hk : l[p]? = some (l.getD p 0) := by
      rw [List.getD_eq_getElem?_getD, List.getElem?_eq_getElem h2]
      rfl
    have hle := ord_fst h ht hk
    have hne := of_decide_eq_true h1
    rw [List.find?_range_eq_some]
    refine ⟨?_, List.mem_range.mpr h2, fun j hj => ?_⟩
    · rw [ht, decide_eq_true_eq, List.mem_range]
      omega
    · rw [pre j (by omega) fun q hq2 => hq q (by omega), hq j hj]
      simp
end Pk
namespace Pk
open PySem PySem.W PySem.Calls PyProof.Rows He He5
/-! ### a hook that tells of written dicts besides -/
abbrev TabQ : Type := (Frag → Addr) × List PySem.Str
abbrev AlQ : Type := AlM × List (Option (List (Option (PySem.Str × Int))))
def obsQ (fa : List Fa) (fn : List DefA) (ex : Frag → Bool) (ts : List TabQ) (K : Frag) : AlQ := (obsM fa fn ex K, ts.map fun t => dicW K (t.1 K))
def valQ (fn : List DefA) (ts : List TabQ) (w : World) : AlQ := (valM fn, ts.map fun t => some (keysIn w.params t.2))
structure SaysQ (fa : List Fa) (fn : List DefA) (ex : Frag → Bool) (ts : List TabQ) (w : World) (K : Frag) : Prop where
  m : SaysM fa fn ex K
  tab : ∀ (i : Nat) (t : TabQ), ts[i]? = some t → ∃ es n, L2.KDict K w (t.1 K) es n
theorem saysQ_of {fa : List Fa} {fn : List DefA} {ex : Frag → Bool} {ts : List TabQ} {w : World} {K : Frag} (h : obsQ fa fn ex ts K = valQ fn ts w) : SaysQ fa fn ex ts w K := by
  refine ⟨saysM_of (congrArg Prod.fst h), fun i t ht => ?_⟩
  have e1 : (ts.map fun t => dicW K (t.1 K)) = ts.map fun t => some (keysIn w.params t.2) := congrArg Prod.snd h
  have e2 := congrArg (fun l => l[i]?) e1
  simp only [List.getElem?_map, ht, Option.map_some, Option.some.injEq] at e2
  exact dicW_ok e2
def obsQG (n : Nat) (fa : List Fa) (fn : List DefA) (ex : Frag → Bool) (ts : List TabQ) (g : Addr → Option Obj) : AlQ := obsQ fa fn ex ts (frG g (asA g n))
def hookQ (n : Nat) (fa : List Fa) (fn : List DefA) (ex : Frag → Bool) (ts : List TabQ) : PySem.W.Hook where
  α := AlQ
  obs := fun s => obsQG n fa fn ex ts s.heap.get?
  val := fun w => valQ fn ts w
  says := fun w h => ∃ K : Frag, K.In h ∧ SaysQ fa fn ex ts w K
  of := fun _ _ e => ⟨_, frG_in, saysQ_of e⟩
  keeps := fun _ _ _ ⟨K, hK, c⟩ k => ⟨K, Frag.In.keeps hK k, c⟩
theorem obsQG_eq {n : Nat} {fa : List Fa} {fn : List DefA} {ex : Frag → Bool} {ts : List TabQ} {g : Addr → Option Obj} {s : Shared} (h : ∀ a, g a = s.heap.get? a) : obsQG n fa fn ex ts g = (hookQ n fa fn ex ts).obs s := by
  have e : g = s.heap.get? := funext h
  rw [e] <;> rfl
/-- the number at a key of a written dict -/
def nsIntB (K : Frag) (a : Addr) (x : PySem.Str) (i : Int) : Bool := match nsIn K a x with
  | some (some (.int j _)) => decide (j = i)
  | _ => false
theorem nsInt_ok {K : Frag} {a : Addr} {x : PySem.Str} {i : Int} (h : nsIntB K a x i = true) : ∃ u, nsIn K a x = some (some u) ∧ L2.RelV (.int i) u := by
  unfold nsIntB at h
  cases e : nsIn K a x with
  | none => rw [e] at h; cases h
  | some r =>
    rw [e] at h
    cases r with
    | none => cases h
    | some u =>
      cases u with
      | int j t =>
        have ej : j = i := of_decide_eq_true h
        subst ej
        exact ⟨_, rfl, t, rfl⟩
      | _ => cases h
/-- a method that can be taken as a value -/
def bmB (K : Frag) (C : Addr) (m : PySem.Str) : Bool := eqO (specialIn K (.ref (ma K C m)) "__get__") (some (some (.builtin "function.__get__"))) && (decide (takesIn K (.ref (ma K C m)) = some false) && (decide (copiedNames.contains m = false) && fnIn K (ma K C m)))
theorem bm_ok {K : Frag} {C : Addr} {m : PySem.Str} (h0 : L2.Meth K C m (ma K C m)) (h : bmB K C m = true) : L2.BMeth K C m (ma K C m) := by
  obtain ⟨h1, h⟩ := ba h
  obtain ⟨h2, h⟩ := ba h
  obtain ⟨h3, h4⟩ := ba h
  exact ⟨h0, eqO_ok h1, of_decide_eq_true h2, of_decide_eq_true h3, h4⟩
end Pk
namespace KL
open PySem PySem.Spec PyProof.Rows L2 Pk He
def top (i : Nat) : Stmt := PySem.Challenge.pw_pastekeys_k17_whole_rows_and_bytes.main.body.getD i (.Pass ⟨0, 0, 0, 0⟩)
abbrev Df (K : Fr) (x q : Str) (st : Stmt) (f : Addr) : Prop := ∃ fd, FunD K x q (defArgs st) (defBody st) (defScope st) [] [] f fd
abbrev CS (K : Fr) : Addr := ga K "Span"
abbrev CT (K : Fr) : Addr := ga K "Text"
structure Tc (w : World) (K : Fr) (mg : Str → Option Value) : Prop where
  isi : mg "isinstance" = none
  int : mg "int" = none
  bool : mg "bool" = none
  str : mg "str" = none
  tup : mg "tuple" = none
  lst : mg "list" = none
  len : mg "len" = none
  all : mg "all" = none
  rng : mg "range" = none
  enu : mg "enumerate" = none
  zip : mg "zip" = none
  min : mg "min" = none
  max : mg "max" = none
  dm : mg "divmod" = none
  byt : mg "bytes" = none
  ValueError : mg "ValueError" = none
  TypeError : mg "TypeError" = none
  super : mg "super" = none
  NotImplemented : mg "NotImplemented" = none
  letters : ∃ t, mg "LETTERS" = some (.str "abcdefghijklmnopqrstuvwxyz" t)
  longest : ∃ t, mg "LONGEST_WORD" = some (.int 20 t)
  mostSteps : ∃ t, mg "MOST_STEPS" = some (.int 30 t)
  mostTimes : ∃ t, mg "MOST_TIMES" = some (.int 1000000000 t)
  c_FIGURES : ∃ t, mg "FIGURES" = some (.str "0123456789" t)
  c_MOST_FIGURES : ∃ t, mg "MOST_FIGURES" = some (.int 18 t)
  c_MARK : ∃ t, mg "MARK" = some (.int 80 t)
  c_WRITES : ∃ t, mg "WRITES" = some (.int 0 t)
  c_PASTES : ∃ t, mg "PASTES" = some (.int 1 t)
  c_GROUP : ∃ t, mg "GROUP" = some (.int 128 t)
  g_ROW_LENGTHS : mg "ROW_LENGTHS" = some (.ref (ga K "ROW_LENGTHS"))
  k_ROW_LENGTHS : KInts K w (ga K "ROW_LENGTHS") [("write", 2), ("paste", 4)]
  gIsNumber : mg "is_number" = some (.ref (ga K "is_number"))
  gIsLetter : mg "is_letter" = some (.ref (ga K "is_letter"))
  gIsWord : mg "is_word" = some (.ref (ga K "is_word"))
  gCounts : mg "key_counts" = some (.ref (ga K "key_counts"))
  gAddW : mg "_add_weight" = some (.ref (ga K "_add_weight"))
  gLeave : mg "_leave_pasted" = some (.ref (ga K "_leave_pasted"))
  gCheckRange : mg "_check_range" = some (.ref (ga K "_check_range"))
  gIsStep : mg "is_step" = some (.ref (ga K "is_step"))
  gSpanOf : mg "span_of" = some (.ref (ga K "span_of"))
  gSpansOf : mg "spans_of" = some (.ref (ga K "spans_of"))
  gKeyAt : mg "key_at" = some (.ref (ga K "key_at"))
  gMoved : mg "moved_step" = some (.ref (ga K "moved_step"))
  g_format_text : mg "format_text" = some (.ref (ga K "format_text"))
  g_parse_text : mg "parse_text" = some (.ref (ga K "parse_text"))
  g_parsed_row : mg "_parsed_row" = some (.ref (ga K "_parsed_row"))
  g_is_right : mg "_is_right" = some (.ref (ga K "_is_right"))
  g_is_figures : mg "_is_figures" = some (.ref (ga K "_is_figures"))
  g_key_table : mg "key_table" = some (.ref (ga K "key_table"))
  g_pack_bytes : mg "pack_bytes" = some (.ref (ga K "pack_bytes"))
  g_unpack_bytes : mg "unpack_bytes" = some (.ref (ga K "unpack_bytes"))
  g_encode_text : mg "encode_text" = some (.ref (ga K "encode_text"))
  g_step_values : mg "_step_values" = some (.ref (ga K "_step_values"))
  g_number_values : mg "_number_values" = some (.ref (ga K "_number_values"))
  g_checksum_of : mg "checksum_of" = some (.ref (ga K "checksum_of"))
  g_decode_text : mg "decode_text" = some (.ref (ga K "decode_text"))
  g_next_step : mg "_next_step" = some (.ref (ga K "_next_step"))
  gTaken : mg "_law_taken" = some (.ref (ga K "_law_taken"))
  gWord : mg "_law_word" = some (.ref (ga K "_law_word"))
  gSteps : mg "_law_steps" = some (.ref (ga K "_law_steps"))
  g_law_long : mg "_law_long" = some (.ref (ga K "_law_long"))
  g_law_number : mg "_law_number" = some (.ref (ga K "_law_number"))
  g_law_is_table : mg "_law_is_table" = some (.ref (ga K "_law_is_table"))
  g_law_is_written : mg "_law_is_written" = some (.ref (ga K "_law_is_written"))
  g_law : mg "law" = some (.ref (ga K "law"))
  g_TextError : mg "TextError" = some (.ref (ga K "TextError"))
  g_InvalidStep : mg "InvalidStep" = some (.ref (ga K "InvalidStep"))
  g_TooLong : mg "TooLong" = some (.ref (ga K "TooLong"))
  g_InvalidPlace : mg "InvalidPlace" = some (.ref (ga K "InvalidPlace"))
  g_InvalidNumber : mg "InvalidNumber" = some (.ref (ga K "InvalidNumber"))
  g_NotationError : mg "NotationError" = some (.ref (ga K "NotationError"))
  g_InvalidCount : mg "InvalidCount" = some (.ref (ga K "InvalidCount"))
  g_DecodeError : mg "DecodeError" = some (.ref (ga K "DecodeError"))
  gSpan : mg "Span" = some (.ref (ga K "Span"))
  clS : Cls K (ga K "Span")
  mkS : Mk K (ga K "Span") (ma K (ga K "Span") "__init__")
  nS1 : NoAttr K (ga K "Span") "begin"
  nS2 : NoAttr K (ga K "Span") "end"
  nS3 : NoAttr K (ga K "Span") "key"
  nS4 : NoAttr K (ga K "Span") "source"
  nS5 : NoAttr K (ga K "Span") "width"
  gText : mg "Text" = some (.ref (ga K "Text"))
  clT : Cls K (ga K "Text")
  mkT : Mk K (ga K "Text") (ma K (ga K "Text") "__init__")
  nT1 : NoAttr K (ga K "Text") "_steps"
  nT2 : NoAttr K (ga K "Text") "spans"
  nT3 : NoAttr K (ga K "Text") "_size"
  nT4 : NoAttr K (ga K "Text") "_typed"
  cmOf : ClX.CMet K (ga K "Text") (.type "type") "of_steps" (ma K (ga K "Text") "of_steps") (He5.wf K (ga K "Text") "classmethod" "of_steps")
  pSteps : PropOf K (ga K "Text") "steps" (ma K (ga K "Text") "steps") (pgA K (ga K "Text") "steps")
  pTyped : PropOf K (ga K "Text") "typed_keys" (ma K (ga K "Text") "typed_keys") (pgA K (ga K "Text") "typed_keys")
  pSize : PropOf K (ga K "Text") "size" (ma K (ga K "Text") "size") (pgA K (ga K "Text") "size")
  callO : StX.CallO K (ga K "Text") (ma K (ga K "Text") "__call__")
  oGet : OpF K (ga K "Text") "__getitem__" (ma K (ga K "Text") "__getitem__")
  mCheck : Meth K (ga K "Text") "_check_place" (ma K (ga K "Text") "_check_place")
  o_Text_iter : OpF K (ga K "Text") "__iter__" (ma K (ga K "Text") "__iter__")
  oHas : OpF K (ga K "Text") "__contains__" (ma K (ga K "Text") "__contains__")
  oEq : OpF K (ga K "Text") "__eq__" (ma K (ga K "Text") "__eq__")
  oAdd : OpF K (ga K "Text") "__add__" (ma K (ga K "Text") "__add__")
  oMul : OpF K (ga K "Text") "__mul__" (ma K (ga K "Text") "__mul__")
  maxSize : ∃ t, ClX.CVal K (ga K "Text") (.type "type") "MAX_SIZE" (.int 1000000000000000000) (.int 1000000000000000000 t)
  rd : ClX.CRead K (ga K "Text") (.type "type")
  g_ByteSource : mg "ByteSource" = some (.ref (ga K "ByteSource"))
  clByteSource : Cls K (ga K "ByteSource")
  mkByteSource : Mk K (ga K "ByteSource") (ma K (ga K "ByteSource") "__init__")
  n_ByteSource_data : NoAttr K (ga K "ByteSource") "_data"
  n_ByteSource_offset : NoAttr K (ga K "ByteSource") "offset"
  m_ByteSource_next_byte : Meth K (ga K "ByteSource") "next_byte" (ma K (ga K "ByteSource") "next_byte")
  m_ByteSource_next_number : Meth K (ga K "ByteSource") "next_number" (ma K (ga K "ByteSource") "next_number")
  m_ByteSource_checksum : Meth K (ga K "ByteSource") "checksum" (ma K (ga K "ByteSource") "checksum")
  ne_Span_Text : ga K "Span" ≠ ga K "Text"
  ne_Span_ByteSource : ga K "Span" ≠ ga K "ByteSource"
  ne_Text_ByteSource : ga K "Text" ≠ ga K "ByteSource"
  tMul : OpT K (ga K "Text") "mul" "int"
  first : PySem.W.selfFirst K (ga K "Text") = true
  insT : C8.InsC K (ga K "Text")
  csct : ga K "Span" ≠ ga K "Text"
  subT : PySem.W.subIn K (.type "tuple") (.ref (ga K "Text")) = some false
  neT : PySem.W.findIn K (.ref (ga K "Text")) "__ne__" = some (some (.builtin "object.__ne__"))
  tupT : PySem.W.kitOne K (.type "tuple") (.ref (ga K "Text")) = some false
abbrev sIsNumber : Stmt := top 4
abbrev sIsLetter : Stmt := top 5
abbrev sIsWord : Stmt := top 6
abbrev sCounts : Stmt := top 17
abbrev sAddW : Stmt := top 18
abbrev sLeave : Stmt := top 19
abbrev sCheckRange : Stmt := top 20
abbrev sIsStep : Stmt := top 25
abbrev sSpanOf : Stmt := top 26
abbrev sSpansOf : Stmt := top 27
abbrev sKeyAt : Stmt := top 28
abbrev sMoved : Stmt := top 29
abbrev s_format_text : Stmt := top 36
abbrev s_parse_text : Stmt := top 37
abbrev s_parsed_row : Stmt := top 38
abbrev s_is_right : Stmt := top 39
abbrev s_is_figures : Stmt := top 40
abbrev s_key_table : Stmt := top 41
abbrev s_pack_bytes : Stmt := top 48
abbrev s_unpack_bytes : Stmt := top 49
abbrev s_encode_text : Stmt := top 50
abbrev s_step_values : Stmt := top 51
abbrev s_number_values : Stmt := top 52
abbrev s_checksum_of : Stmt := top 53
abbrev s_decode_text : Stmt := top 54
abbrev s_next_step : Stmt := top 55
abbrev sTaken : Stmt := top 57
abbrev sWord : Stmt := top 58
abbrev sSteps : Stmt := top 59
abbrev s_law_long : Stmt := top 60
abbrev s_law_number : Stmt := top 61
abbrev s_law_is_table : Stmt := top 62
abbrev s_law_is_written : Stmt := top 63
abbrev sLaw : Stmt := top 64
abbrev s_InvalidStep_init : Stmt := inClass (top 9) 0
abbrev s_NotationError_init : Stmt := inClass (top 13) 0
abbrev s_DecodeError_init : Stmt := inClass (top 15) 0
abbrev sSpanInit : Stmt := inClass (top 24) 0
abbrev sInit : Stmt := inClass (top 31) 1
abbrev sOf : Stmt := inClass (top 31) 3
abbrev sStepsP : Stmt := inClass (top 31) 4
abbrev sTyped : Stmt := inClass (top 31) 5
abbrev sSize : Stmt := inClass (top 31) 6
abbrev sCall : Stmt := inClass (top 31) 7
abbrev sGet : Stmt := inClass (top 31) 8
abbrev sCheck : Stmt := inClass (top 31) 9
abbrev s_Text_iter : Stmt := inClass (top 31) 10
abbrev sHas : Stmt := inClass (top 31) 11
abbrev sEq : Stmt := inClass (top 31) 12
abbrev sAdd : Stmt := inClass (top 31) 13
abbrev sMul : Stmt := inClass (top 31) 14
abbrev s_ByteSource_init : Stmt := inClass (top 47) 0
abbrev s_ByteSource_next_byte : Stmt := inClass (top 47) 1
abbrev s_ByteSource_next_number : Stmt := inClass (top 47) 2
abbrev s_ByteSource_checksum : Stmt := inClass (top 47) 3
theorem sc_is_number : FnScope ["value", "low", "high"] ["value", "low", "high"] (defScope sIsNumber) := ⟨rfl, rfl, rfl, by decide +kernel, rfl, by decide +kernel, by decide +kernel⟩
theorem sc_is_letter : FnScope ["value"] ["value"] (defScope sIsLetter) := ⟨rfl, rfl, rfl, by decide +kernel, rfl, by decide +kernel, by decide +kernel⟩
theorem sc_is_word : FnScope ["value", "sign"] ["value"] (defScope sIsWord) := ⟨rfl, rfl, rfl, by decide +kernel, rfl, by decide +kernel, by decide +kernel⟩
theorem sc_key_counts : FnScope ["text", "first", "last", "counts", "weights", "span", "within", "place", "weight", "key", "bound"] ["text", "first", "last"] (defScope sCounts) := ⟨rfl, rfl, rfl, by decide +kernel, rfl, by decide +kernel, by decide +kernel⟩
theorem sc_add_weight : FnScope ["weights", "place", "weight"] ["weights", "place", "weight"] (defScope sAddW) := ⟨rfl, rfl, rfl, by decide +kernel, rfl, by decide +kernel, by decide +kernel⟩
theorem sc_leave_pasted : FnScope ["weights", "span", "place", "weight", "copies", "rest"] ["weights", "span", "place", "weight"] (defScope sLeave) := ⟨rfl, rfl, rfl, by decide +kernel, rfl, by decide +kernel, by decide +kernel⟩
theorem sc_check_range : FnScope ["text", "first", "last"] ["text", "first", "last"] (defScope sCheckRange) := ⟨rfl, rfl, rfl, by decide +kernel, rfl, by decide +kernel, by decide +kernel⟩
theorem sc_is_step : FnScope ["value", "size", "first", "last", "times"] ["value", "size"] (defScope sIsStep) := ⟨rfl, rfl, rfl, by decide +kernel, rfl, by decide +kernel, by decide +kernel⟩
theorem sc_span_of : FnScope ["step", "begin", "key", "width"] ["step", "begin", "key"] (defScope sSpanOf) := ⟨rfl, rfl, rfl, by decide +kernel, rfl, by decide +kernel, by decide +kernel⟩
theorem sc_spans_of : FnScope ["steps", "max_size", "spans", "size", "key", "index", "step", "span"] ["steps", "max_size"] (defScope sSpansOf) := ⟨rfl, rfl, rfl, by decide +kernel, rfl, by decide +kernel, by decide +kernel⟩
theorem sc_key_at : FnScope ["spans", "place", "at", "_", "rest"] ["spans", "place"] (defScope sKeyAt) := ⟨rfl, rfl, rfl, by decide +kernel, rfl, by decide +kernel, by decide +kernel⟩
theorem sc_moved_step : FnScope ["step", "shift"] ["step", "shift"] (defScope sMoved) := ⟨rfl, rfl, rfl, by decide +kernel, rfl, by decide +kernel, by decide +kernel⟩
theorem sc_format_text : FnScope ["text", "step", "part"] ["text"] (defScope s_format_text) := ⟨rfl, rfl, rfl, by decide +kernel, rfl, by decide +kernel, by decide +kernel⟩
theorem sc_parse_text : FnScope ["rows", "steps", "at", "row"] ["rows"] (defScope s_parse_text) := ⟨rfl, rfl, rfl, by decide +kernel, rfl, by decide +kernel, by decide +kernel⟩
theorem sc_parsed_row : FnScope ["at", "words", "kind", "length", "number"] ["at", "words"] (defScope s_parsed_row) := ⟨rfl, rfl, rfl, by decide +kernel, rfl, by decide +kernel, by decide +kernel⟩
theorem sc_is_right : FnScope ["kind", "word"] ["kind", "word"] (defScope s_is_right) := ⟨rfl, rfl, rfl, by decide +kernel, rfl, by decide +kernel, by decide +kernel⟩
theorem sc_is_figures : FnScope ["word", "sign"] ["word"] (defScope s_is_figures) := ⟨rfl, rfl, rfl, by decide +kernel, rfl, by decide +kernel, by decide +kernel⟩
theorem sc_key_table : FnScope ["text", "counts", "rows", "key", "many", "letter"] ["text"] (defScope s_key_table) := ⟨rfl, rfl, rfl, by decide +kernel, rfl, by decide +kernel, by decide +kernel⟩
theorem sc_pack_bytes : FnScope ["values", "value"] ["values"] (defScope s_pack_bytes) := ⟨rfl, rfl, rfl, by decide +kernel, rfl, by decide +kernel, by decide +kernel⟩
theorem sc_unpack_bytes : FnScope ["data"] ["data"] (defScope s_unpack_bytes) := ⟨rfl, rfl, rfl, by decide +kernel, rfl, by decide +kernel, by decide +kernel⟩
theorem sc_encode_text : FnScope ["text", "values", "step"] ["text"] (defScope s_encode_text) := ⟨rfl, rfl, rfl, by decide +kernel, rfl, by decide +kernel, by decide +kernel⟩
theorem sc_step_values : FnScope ["step", "values", "number", "letter"] ["step"] (defScope s_step_values) := ⟨rfl, rfl, rfl, by decide +kernel, rfl, by decide +kernel, by decide +kernel⟩
theorem sc_number_values : FnScope ["number", "values", "group"] ["number"] (defScope s_number_values) := ⟨rfl, rfl, rfl, by decide +kernel, rfl, by decide +kernel, by decide +kernel⟩
theorem sc_checksum_of : FnScope ["values", "checksum", "value", "_"] ["values"] (defScope s_checksum_of) := ⟨rfl, rfl, rfl, by decide +kernel, rfl, by decide +kernel, by decide +kernel⟩
theorem sc_decode_text : FnScope ["data", "source", "steps", "size", "_", "begin", "step", "checksum"] ["data"] (defScope s_decode_text) := ⟨rfl, rfl, rfl, by decide +kernel, rfl, by decide +kernel, by decide +kernel⟩
theorem sc_next_step : FnScope ["source", "size", "letters", "_", "first", "last"] ["source", "size"] (defScope s_next_step) := ⟨rfl, rfl, rfl, by decide +kernel, rfl, by decide +kernel, by decide +kernel⟩
theorem sc_law_taken : FnScope ["_law_row", "_law_many", "_law_found", "_law_cell"] ["_law_row", "_law_many"] (defScope sTaken) := ⟨rfl, rfl, rfl, by decide +kernel, rfl, by decide +kernel, by decide +kernel⟩
theorem sc_law_word : FnScope ["_law_row", "_law_most", "_law_word_here", "_law_k"] ["_law_row", "_law_most"] (defScope sWord) := ⟨rfl, rfl, rfl, by decide +kernel, rfl, by decide +kernel, by decide +kernel⟩
theorem sc_law_steps : FnScope ["_law_row", "_law_count", "_law_most", "_law_steps_here", "_law_size", "_law_k", "_law_word_here", "_law_first", "_law_last", "_law_times"] ["_law_row", "_law_count", "_law_most"] (defScope sSteps) := ⟨rfl, rfl, rfl, by decide +kernel, rfl, by decide +kernel, by decide +kernel⟩
theorem sc_law_long : FnScope ["_law_row", "_law_text", "_law_turn", "_law_times"] ["_law_row"] (defScope s_law_long) := ⟨rfl, rfl, rfl, by decide +kernel, rfl, by decide +kernel, by decide +kernel⟩
theorem sc_law_number : FnScope ["_law_text", "_law_sign"] ["_law_text"] (defScope s_law_number) := ⟨rfl, rfl, rfl, by decide +kernel, rfl, by decide +kernel, by decide +kernel⟩
theorem sc_law_is_table : FnScope ["_law_text", "_law_rows", "_law_counts", "_law_key", "_law_line"] ["_law_text"] (defScope s_law_is_table) := ⟨rfl, rfl, rfl, by decide +kernel, rfl, by decide +kernel, by decide +kernel⟩
theorem sc_law_is_written : FnScope ["_law_text", "_law_rows", "_law_values", "_law_k", "_law_part"] ["_law_text"] (defScope s_law_is_written) := ⟨rfl, rfl, rfl, by decide +kernel, rfl, by decide +kernel, by decide +kernel⟩
theorem sc_law : FnScope ["_law_script", "_law_row", "_law_turn", "_law_one", "_law_two", "_law_words", "_law_text", "_law_sizes", "_law_values", "_law_k"] ["_law_script"] (defScope sLaw) := ⟨rfl, rfl, rfl, by decide +kernel, rfl, by decide +kernel, by decide +kernel⟩
theorem sc_Span_init : FnScope ["self", "begin", "end", "key", "source", "width"] ["self", "begin", "end", "key", "source", "width"] (defScope sSpanInit) := ⟨rfl, rfl, rfl, by decide +kernel, rfl, by decide +kernel, by decide +kernel⟩
theorem sc_Text_init : FnScope ["self", "steps", "step"] ["self", "steps"] (defScope sInit) := ⟨rfl, rfl, rfl, by decide +kernel, rfl, by decide +kernel, by decide +kernel⟩
theorem sc_Text_of_steps : FnScope ["cls", "steps"] ["cls", "steps"] (defScope sOf) := ⟨rfl, rfl, rfl, by decide +kernel, rfl, by decide +kernel, by decide +kernel⟩
theorem sc_Text_steps : FnScope ["self"] ["self"] (defScope sStepsP) := ⟨rfl, rfl, rfl, by decide +kernel, rfl, by decide +kernel, by decide +kernel⟩
theorem sc_Text_typed_keys : FnScope ["self"] ["self"] (defScope sTyped) := ⟨rfl, rfl, rfl, by decide +kernel, rfl, by decide +kernel, by decide +kernel⟩
theorem sc_Text_size : FnScope ["self"] ["self"] (defScope sSize) := ⟨rfl, rfl, rfl, by decide +kernel, rfl, by decide +kernel, by decide +kernel⟩
theorem sc_Text_call : FnScope ["self", "place"] ["self", "place"] (defScope sCall) := ⟨rfl, rfl, rfl, by decide +kernel, rfl, by decide +kernel, by decide +kernel⟩
theorem sc_Text_getitem : FnScope ["self", "at"] ["self", "at"] (defScope sGet) := ⟨rfl, rfl, rfl, by decide +kernel, rfl, by decide +kernel, by decide +kernel⟩
theorem sc_Text_check_place : FnScope ["self", "place"] ["self", "place"] (defScope sCheck) := ⟨rfl, rfl, rfl, by decide +kernel, rfl, by decide +kernel, by decide +kernel⟩
theorem sc_Text_iter : FnScope ["self"] ["self"] (defScope s_Text_iter) := ⟨rfl, rfl, rfl, by decide +kernel, rfl, by decide +kernel, by decide +kernel⟩
theorem sc_Text_contains : FnScope ["self", "x"] ["self", "x"] (defScope sHas) := ⟨rfl, rfl, rfl, by decide +kernel, rfl, by decide +kernel, by decide +kernel⟩
theorem sc_Text_eq : FnScope ["self", "other"] ["self", "other"] (defScope sEq) := ⟨rfl, rfl, rfl, by decide +kernel, rfl, by decide +kernel, by decide +kernel⟩
theorem sc_Text_add : FnScope ["self", "other", "moved", "steps", "step"] ["self", "other"] (defScope sAdd) := ⟨rfl, rfl, rfl, by decide +kernel, rfl, by decide +kernel, by decide +kernel⟩
theorem sc_Text_mul : FnScope ["self", "other", "steps"] ["self", "other"] (defScope sMul) := ⟨rfl, rfl, rfl, by decide +kernel, rfl, by decide +kernel, by decide +kernel⟩
theorem sc_ByteSource_init : FnScope ["self", "data"] ["self", "data"] (defScope s_ByteSource_init) := ⟨rfl, rfl, rfl, by decide +kernel, rfl, by decide +kernel, by decide +kernel⟩
theorem sc_ByteSource_next_byte : FnScope ["self", "low", "high"] ["self", "low", "high"] (defScope s_ByteSource_next_byte) := ⟨rfl, rfl, rfl, by decide +kernel, rfl, by decide +kernel, by decide +kernel⟩
theorem sc_ByteSource_next_number : FnScope ["self", "low", "high", "begin", "groups", "value", "group"] ["self", "low", "high"] (defScope s_ByteSource_next_number) := ⟨rfl, rfl, rfl, by decide +kernel, rfl, by decide +kernel, by decide +kernel⟩
theorem sc_ByteSource_checksum : FnScope ["self"] ["self"] (defScope s_ByteSource_checksum) := ⟨rfl, rfl, rfl, by decide +kernel, rfl, by decide +kernel, by decide +kernel⟩
end KL
namespace KL
open PySem PySem.Spec PyProof.Rows L2 Pk He
/-! ### what the top has written, as far as the core of the program asks -/
/-! ### checks -/
/-- flat values, their types -/
def tyF : V → String
  | .non => "NoneType"
  | .bl _ => "bool"
  | .int _ => "int"
  | .str _ => "str"
  | _ => ""
theorem tyF_ok {K : Fr} {H : Hp} {v : V} (h : flatV v = true) : TyX K H v (.type (tyF v)) := by
  cases v with
  | non => exact .base .non
  | bl b => exact .base (.bl b)
  | int i => exact .base (.int i)
  | str x => exact .base (.str x)
  | _ => cases h
def isNum : V → Int → Int → Bool
  | .int i, lo, hi => decide (lo ≤ i) && decide (i ≤ hi)
  | _, _, _ => false
def isLetV : V → Bool
  | .str z => (match z.cps.toList with
    | [c] => isLet c
    | _ => false)
  | _ => false
def isWordV : V → Bool
  | .str z => decide (1 ≤ z.length) && decide (z.length ≤ 20) && z.cps.toList.all isLet
  | _ => false
theorem letters_are : (PySem.Str.ofString "abcdefghijklmnopqrstuvwxyz").cps.toList = List.range' 97 26 := by decide +kernel
theorem mem_letters (c : Nat) : decide (c ∈ (PySem.Str.ofString "abcdefghijklmnopqrstuvwxyz").cps.toList) = isLet c := by
  rw [letters_are]
  unfold isLet
  rw [Bool.eq_iff_iff]
  simp only [decide_eq_true_eq, List.mem_range'_1, Bool.and_eq_true]
  omega
def spIsNumber : Sp := fun vs H Q _ => ∃ v lo hi, vs = [v, .int lo, .int hi] ∧ flatV v = true ∧ Q (.bl (isNum v lo hi)) H
/-- texts are not too long -/
def fitV : V → Prop
  | .str z => z.length ≤ sizeLine
  | _ => True
def spIsLetter : Sp := fun vs H Q _ => ∃ v, vs = [v] ∧ flatV v = true ∧ fitV v ∧ Q (.bl (isLetV v)) H
def spIsWord : Sp := fun vs H Q _ => ∃ v, vs = [v] ∧ flatV v = true ∧ fitV v ∧ ∀ H2, Same H H2 → Q (.bl (isWordV v)) H2
section
variable {P : Program} {w : World} {K : Fr} {mg : Str → Option Value} {base : Heap} {f : Addr}
theorem scIsNumber : FnScope ["value", "low", "high"] ["value", "low", "high"] (defScope sIsNumber) := ⟨rfl, rfl, rfl, by decide +kernel, rfl, by decide +kernel, by decide +kernel⟩
theorem ok_is_number (D : Df K "is_number" "is_number" sIsNumber f) (T : Tc w K mg) : Kp P w K mg base 1 f spIsNumber := by
  refine kp_of D scIsNumber (fun _ _ _ _ _ _ us hl => match us, hl with | [_, _, _], _ => rfl) ?_ (fun cdv A outer s H vs Q E hr h => ?_)
  · rintro vs H Q E ⟨v, lo, hi, rfl, _⟩
    rfl
  · obtain ⟨v, lo, hi, rfl, fl, q⟩ := h
    refine ⟨_, pss_one (ps_ret (pe_and (pe_isi (pv 0) T.isi T.int b_int) (pe_and (pe_not (pe_isi (pv 0) T.isi T.bool b_bool)) (pe_one (pe_chain op_le op_le (pv 1) (pv 0) (pv 2)))))), ?_⟩
    refine ⟨_, rfl, _, _, _, decide (tyF v = "int" ∨ tyF v = "bool"), rfl, tyF_ok fl, ?_, _, rfl, ?_⟩
    · cases v <;> first | rfl | cases fl
    cases v with
    | non => exact q
    | str x => exact q
    | bl b => exact ⟨_, rfl, _, _, _, true, rfl, tyF_ok (v := .bl b) rfl, rfl, _, rfl, _, rfl, q⟩
    | int i =>
      refine ⟨_, rfl, _, _, _, false, rfl, tyF_ok (v := .int i) rfl, rfl, _, rfl, _, rfl, ?_⟩
      refine ⟨_, rfl, _, rfl, _, _, rfl, rfl, _, rfl, ?_⟩
      have q1 : Q (.bl (decide (lo ≤ i) && decide (i ≤ hi))) H := q
      refine ite2 (fun h1 => ?_) fun h1 => ?_
      · rw [h1] at q1
        exact ⟨_, rfl, _, _, rfl, rfl, q1⟩
      · rw [Bool.eq_false_iff.mpr h1] at q1
        exact q1
    | _ => cases fl
theorem scIsLetter : FnScope ["value"] ["value"] (defScope sIsLetter) := ⟨rfl, rfl, rfl, by decide +kernel, rfl, by decide +kernel, by decide +kernel⟩
theorem one_sign {z : Str} (h : (z.length : Int) = 1) : ∃ c, z = ⟨#[c]⟩ ∧ z.cps.toList = [c] := by
  obtain ⟨⟨l⟩⟩ := z
  have h1 : l.length = 1 := by
    have : ((l.length : Nat) : Int) = 1 := h
    omega
  match l, h1 with
  | [c], _ => exact ⟨c, rfl, rfl⟩
theorem ok_is_letter (D : Df K "is_letter" "is_letter" sIsLetter f) (T : Tc w K mg) : Kp P w K mg base 1 f spIsLetter := by
  refine kp_of D scIsLetter (fun _ _ _ _ _ _ us hl => match us, hl with | [_], _ => rfl) ?_ (fun cdv A outer s H vs Q E hr h => ?_)
  · rintro vs H Q E ⟨v, rfl, _⟩
    rfl
  · obtain ⟨v, rfl, fl, ft, q⟩ := h
    obtain ⟨tl, hL⟩ := T.letters
    refine ⟨_, pss_one (ps_ret (pe_and (pe_isi (pv 0) T.isi T.str b_str) (pe_and (pe_cmpR op_eq (pk_b1 call_len_str T.len b_len (pv 0)) pe_int (nomark _)) (pe_one (pe_cmpR op_in_sign (pv 0) (pe_gS hL) rfl))))), ?_⟩
    refine ⟨_, rfl, _, _, _, decide (tyF v = "str"), rfl, tyF_ok fl, ?_, _, rfl, ?_⟩
    · cases v <;> first | rfl | cases fl
    cases v with
    | non => exact q
    | bl b => exact q
    | int i => exact q
    | str z =>
      refine ⟨_, rfl, _, rfl, ft, rfl, _, rfl, ?_⟩
      refine ite2 (fun h1 => ?_) fun h1 => ?_
      · obtain ⟨c, e1, e2⟩ := one_sign (z := z) (by simpa using h1)
        refine ⟨_, rfl, c, _, by rw [e1], rfl, ?_⟩
        rw [mem_letters]
        have e3 : isLetV (.str z) = isLet c := by
          show (match z.cps.toList with
            | [c] => isLet c
            | _ => false) = isLet c
          rw [e2]
        rw [← e3]
        exact q
      · have e3 : isLetV (.str z) = false := by
          show (match z.cps.toList with
            | [c] => isLet c
            | _ => false) = false
          split
          · rename_i c e
            exact absurd (by
              have : z.cps.size = 1 := by rw [← Array.length_toList, e]; rfl
              simp [Str.length, this]) h1
          · rfl
        rw [e3] at q
        have e4 : decide (V.int (z.length : Int) = V.int 1) = false := Bool.eq_false_iff.mpr h1
        show Q (.bl false) H
        exact q
    | _ => cases fl
theorem scIsWord : FnScope ["value", "sign"] ["value"] (defScope sIsWord) := ⟨rfl, rfl, rfl, by decide +kernel, rfl, by decide +kernel, by decide +kernel⟩
theorem ok_is_word (D : Df K "is_word" "is_word" sIsWord f) (T : Tc w K mg) : Kp P w K mg base 1 f spIsWord := by
  refine kp_of D scIsWord (fun _ _ _ _ _ _ us hl => match us, hl with | [_], _ => rfl) ?_ (fun cdv A outer s H vs Q E hr h => ?_)
  · rintro vs H Q E ⟨v, rfl, _⟩
    rfl
  · obtain ⟨v, rfl, fl, ft, q⟩ := h
    obtain ⟨tl, hL⟩ := T.letters
    obtain ⟨tw, hW⟩ := T.longest
    refine ⟨_, pss_cons (ps_if (pw_or (pt_not (pt_val (pe_isi (pv 0) T.isi T.str b_str))) (pw_or1 (pt_not (pt_chain op_le op_le pe_int (pk_b1 call_len_str T.len b_len (pv 0)) (pe_gI hW))))).pt (pss_one (ps_ret pe_bl)) pss_nil)
      (pss_one (ps_ret (pk_b1 (cr_all rfl) T.all b_all (pe_lc (own := [("sign", 1)]) (g := gName 1) (tt := tYes) rfl scIsWord.nd (pi_str (pv 0)) (blkOk_by (N := ["value", "sign"]) (sc := defScope sIsWord) (by decide +kernel)) (fun _ _ _ _ _ => pg_name (i := 1) scIsWord.nd rfl (Or.inl rfl)) (fun _ _ _ _ _ => pts_nil)
        (fun _ _ _ _ _ => pe_cmpR op_in_sign (pv 1) (pe_gS hL) rfl))))), ?_⟩
    have two : ∀ b : Bool, b = isWordV v → ∀ H2, Same H H2 → Q (.bl b) H2 := fun b e => by rw [e]; exact q
    refine ⟨_, rfl, _, _, _, decide (tyF v = "str"), rfl, tyF_ok fl, ?_, _, rfl, ?_⟩
    · cases v <;> first | rfl | cases fl
    cases v with
    | non => exact q H (Same.refl H)
    | bl b => exact q H (Same.refl H)
    | int i => exact q H (Same.refl H)
    | str z =>
      refine iteF ?_
      refine ⟨_, rfl, _, rfl, ft, _, _, rfl, rfl, _, rfl, ?_⟩
      refine ite2 (fun h1 => ?_) fun h1 => ?_
      · refine ⟨_, _, rfl, rfl, _, rfl, ?_⟩
        refine ite2 (fun h2 => ?_) fun h2 => ?_
        · refine two false ?_ H (Same.refl H)
          have h3 : ¬ (z.length ≤ 20) := by
            intro h4
            have h5 : decide ((z.length : Int) ≤ 20) = true := decide_eq_true (by omega)
            rw [h5] at h2
            cases h2
          show false = (decide (1 ≤ z.length) && decide (z.length ≤ 20) && z.cps.toList.all isLet)
          rw [decide_eq_false h3]
          simp
        · have h3 : z.length ≤ 20 := by
            rcases Nat.lt_or_ge 20 z.length with h4 | h4
            · have h5 : decide ((z.length : Int) ≤ 20) = false := decide_eq_false (by omega)
              rw [h5] at h2
              exact absurd rfl h2
            · exact h4
          have h0 : 1 ≤ z.length := by
            have := of_decide_eq_true h1
            omega
          refine ⟨_, rfl, _, rfl, fun D hD => ?_⟩
          refine lc_map walk_str hD (fun i => .bl (isLet (z.cps.getD i 0))) (Nat.le_trans (show z.cps.size ≤ 20 from h3) (by decide)) (fun _ _ => trivial) ?_ ?_
          · rintro i x H3 H4 N hi s3 ⟨e4, c, ec, ex⟩ hN
            subst e4 ex
            refine ⟨rfl, _, rfl, c, _, rfl, rfl, ?_⟩
            rw [mem_letters]
            have e5 : z.cps.getD i 0 = c := by
              rw [Array.getD_eq_getD_getElem?, ec]
              rfl
            rw [← e5]
            exact hN _ (Same.refl _)
          · intro H3 s3 h3D
            refine ⟨D, (List.range z.cps.size).map fun i => isLet (z.cps.getD i 0), rfl, SqL.of (by rw [List.map_map]; exact h3D), ?_⟩
            refine two _ ?_ _ s3
            show _ = (decide (1 ≤ z.length) && decide (z.length ≤ 20) && z.cps.toList.all isLet)
            rw [decide_eq_true h0, decide_eq_true h3]
            have e6 : (List.range z.cps.size).map (fun i => isLet (z.cps.getD i 0)) = z.cps.toList.map isLet := by
              apply List.ext_getElem
              · simp
              · intro i h7 h8
                simp at h7
                simp [h7]
            rw [e6, List.all_map]
            rfl
      · refine ⟨_, rfl, ?_⟩
        refine two false ?_ H (Same.refl H)
        have h3 : ¬ (1 ≤ z.length) := fun h4 => h1 (decide_eq_true (by omega))
        show false = (decide (1 ≤ z.length) && decide (z.length ≤ 20) && z.cps.toList.all isLet)
        rw [decide_eq_false h3]
        rfl
    | _ => cases fl
end
end KL
namespace KL
open PySem PySem.Spec PyProof.Rows L2 Pk He
theorem sqT_ty {K : Fr} {H : Hp} {a : Addr} {xs : List V} (h : SqT K H a xs) : TyX K H (.ref a) (.type "tuple") := by
  rcases h with (h | ⟨o, h⟩) | ⟨o, its, n, h1, h2, _⟩
  · exact .base (.tup h)
  · exact .fTuple h
  · exact .kTuple h1 h2
def numAfter (b c : V) (s : Int) : Bool := match b with
  | .int i => isNum c i s
  | _ => false
def isStepT (xs : List V) (s : Int) : Bool := match xs with
  | [a, b] => decide (a = .str "write") && isWordV b
  | [a, b, c, d] => decide (a = .str "paste") && (isNum b 0 (s - 1) && numAfter b c (s - 1) && isNum d 1 1000000000)
  | _ => false
/-- what may be asked whether it is a step -/
def StepArg (K : Fr) (H : Hp) (v : V) (s : Int) (r : Bool) : Prop :=
  (flatV v = true ∧ r = false) ∨ (TyX K H v (.type "list") ∧ r = false) ∨
  ∃ a xs, v = .ref a ∧ SqT K H a xs ∧ xs.all flatV = true ∧ (∀ x ∈ xs, fitV x) ∧ (∀ x, xs[0]? = some x → ∃ z, x = .str z) ∧ r = isStepT xs s
def spIsStep (K : Fr) : Sp := fun vs H Q _ => ∃ v s r, vs = [v, .int s] ∧ StepArg K H v s r ∧ ∀ H2, Same H H2 → Q (.bl r) H2
section
variable {P : Program} {w : World} {K : Fr} {mg : Str → Option Value} {base : Heap} {f : Addr}
theorem scIsStep : FnScope ["value", "size", "first", "last", "times"] ["value", "size"] (defScope sIsStep) := ⟨rfl, rfl, rfl, by decide +kernel, rfl, by decide +kernel, by decide +kernel⟩
theorem ok_is_step (D : Df K "is_step" "is_step" sIsStep f) (T : Tc w K mg) (GW : Kp P w K mg base 1 (ga K "is_word") spIsWord) (GN : Kp P w K mg base 1 (ga K "is_number") spIsNumber) : Kp P w K mg base 2 f (spIsStep K) := by
  refine kp_of D scIsStep (fun _ _ _ _ _ _ us hl => match us, hl with | [_, _], _ => rfl) ?_ (fun cdv A outer s H vs Q E hr h => ?_)
  · rintro vs H Q E ⟨v, s, r, rfl, _⟩
    rfl
  · obtain ⟨v, sz, r, rfl, arg, q⟩ := h
    obtain ⟨tm, hM⟩ := T.mostTimes
    refine ⟨_, pss_cons (ps_if (pt_not (pt_val (pe_isi (pv 0) T.isi T.tup b_tuple))) (pss_one (ps_ret pe_bl)) pss_nil)
      (pss_cons (ps_if (pt_cmpR op_eq (pk_b1 call_len_seq T.len b_len (pv 0)) pe_int (nomark _)) (pss_one (ps_ret (pe_and (pe_cmpR op_eq (pe_ix ix_tup (pv 0) pe_int (fun _ _ => rfl)) pe_str (nomark _)) (pe_one (pk_call GW hr T.gIsWord (pa_cons (pe_ix ix_tup (pv 0) pe_int (fun _ _ => rfl)) pa_nil)))))) pss_nil)
      (pss_cons (ps_if (pw_or (pt_cmpR op_ne (pk_b1 call_len_seq T.len b_len (pv 0)) pe_int (nomark _)) (pw_or1 (pt_cmpR op_ne (pe_ix ix_tup (pv 0) pe_int (fun _ _ => rfl)) pe_str (nomark _)))).pt (pss_one (ps_ret pe_bl)) pss_nil)
      (pss_cons (ps_asg (pe_slice sl_tup (pv 0) (po_some pe_int) po_none) (pg_tup rfl (pgs_cons (pg_name (i := 2) scIsStep.nd rfl (Or.inl rfl)) (pgs_cons (pg_name (i := 3) scIsStep.nd rfl (Or.inl rfl)) (pgs_cons (pg_name (i := 4) scIsStep.nd rfl (Or.inl rfl)) pgs_nil)))))
      (pss_one (ps_ret (pe_and (pk_call GN hr T.gIsNumber (pa_cons (pv 2) (pa_cons pe_int (pa_cons (pe_op op_sub (pv 1) pe_int) pa_nil)))) (pe_and (pk_call GN hr T.gIsNumber (pa_cons (pv 3) (pa_cons (pv 2) (pa_cons (pe_op op_sub (pv 1) pe_int) pa_nil))))
        (pe_one (pk_call GN hr T.gIsNumber (pa_cons (pv 4) (pa_cons pe_int (pa_cons (pe_gI hM) pa_nil)))))))))))), ?_⟩
    rcases arg with ⟨fl, e⟩ | ⟨ty, e⟩ | ⟨a, xs, rfl, hx, flx, ftx, hd, e⟩
    · subst e
      exact ⟨_, rfl, v, "tuple", tyF v, false, rfl, tyF_ok fl, (by cases v <;> first | rfl | cases fl), false, rfl, q H (Same.refl H)⟩
    · subst e
      exact ⟨_, rfl, v, "tuple", "list", false, rfl, ty, rfl, false, rfl, q H (Same.refl H)⟩
    · subst e
      have ty := sqT_ty hx
      have one : ∀ (i : Nat) (x : V), xs[i]? = some x → atI xs (i : Int) = some x := fun i x e => atI_nat e
      have flat : ∀ x ∈ xs, flatV x = true := fun x hx => List.all_eq_true.mp flx x hx
      refine ⟨_, rfl, _, _, _, true, rfl, ty, rfl, _, rfl, ?_⟩
      refine iteF ?_
      refine ⟨_, rfl, a, xs, rfl, .inr hx, rfl, _, rfl, ?_⟩
      match xs, hx, ftx, hd, q, one, flat with
      | [], hx, ftx, hd, q, one, flat =>
        refine iteF ?_
        refine ⟨_, rfl, a, [], rfl, .inr hx, rfl, _, rfl, ?_⟩
        exact q H (Same.refl H)
      | [x0], hx, ftx, hd, q, one, flat =>
        refine iteF ?_
        refine ⟨_, rfl, a, [x0], rfl, .inr hx, rfl, _, rfl, ?_⟩
        exact q H (Same.refl H)
      | [x0, x1], hx, ftx, hd, q, one, flat =>
        obtain ⟨z, ez⟩ := hd x0 rfl
        subst ez
        refine iteT ?_
        refine ⟨_, rfl, a, _, _, _, rfl, rfl, hx, one 0 _ rfl, rfl, _, rfl, ?_⟩
        refine ite2 (fun h1 => ?_) fun h1 => ?_
        · refine ⟨_, rfl, a, _, _, _, rfl, rfl, hx, one 1 _ rfl, x1, rfl, flat x1 (by simp), ftx x1 (by simp), fun H2 s2 => ?_⟩
          have e : isStepT [.str z, x1] sz = isWordV x1 := by
            show (decide (V.str z = V.str "write") && isWordV x1) = _
            rw [h1, Bool.true_and]
          rw [← e]
          exact q H2 s2
        · have e : isStepT [.str z, x1] sz = false := by
            show (decide (V.str z = V.str "write") && isWordV x1) = _
            rw [Bool.eq_false_iff.mpr h1, Bool.false_and]
          rw [e] at q
          exact q H (Same.refl H)
      | [x0, x1, x2], hx, ftx, hd, q, one, flat =>
        refine iteF ?_
        refine ⟨_, rfl, a, [x0, x1, x2], rfl, .inr hx, rfl, _, rfl, ?_⟩
        exact q H (Same.refl H)
      | [x0, x1, x2, x3], hx, ftx, hd, q, one, flat =>
        obtain ⟨z, ez⟩ := hd x0 rfl
        subst ez
        refine iteF ?_
        refine ⟨_, rfl, a, _, rfl, .inr hx, rfl, _, rfl, ?_⟩
        refine iteF ?_
        refine ⟨_, rfl, a, _, _, _, rfl, rfl, hx, one 0 _ rfl, rfl, _, rfl, ?_⟩
        have e : isStepT [.str z, x1, x2, x3] sz = (decide (V.str z = V.str "paste") && (isNum x1 0 (sz - 1) && numAfter x1 x2 (sz - 1) && isNum x3 1 1000000000)) := rfl
        rw [e] at q
        by_cases h1 : V.str z = V.str "paste"
        · rw [decide_eq_true h1, Bool.true_and] at q
          have h2 : (!decide (V.str z = V.str "paste")) = false := by rw [decide_eq_true h1]; rfl
          rw [h2]
          refine iteF ?_
          refine ⟨_, rfl, 1, rfl, a, _, rfl, hx, fun z => absurd z.1 (show ¬ ((1 : Nat) = 0) by decide), fun p hp => ?_⟩
          have hp2 : upd H p (.tup [x1, x2, x3]) p = some (.tup [x1, x2, x3]) := upd_same
          refine ⟨p, _, rfl, .inl (.inl hp2), rfl, _, _, rfl, _, _, rfl, _, _, rfl, rfl, ?_⟩
          refine ⟨_, rfl, _, rfl, _, _, rfl, rfl, x1, 0, _, rfl, flat x1 (by simp), _, rfl, ?_⟩
          cases hb : isNum x1 0 (sz - 1) with
          | false =>
            rw [hb] at q
            exact q _ (same_upd hp)
          | true =>
            rw [hb] at q
            cases x1 with
            | int i1 =>
              refine ⟨_, rfl, _, rfl, _, rfl, _, _, rfl, rfl, x2, _, _, rfl, flat x2 (by simp), _, rfl, ?_⟩
              have q1 : ∀ H2, Same H H2 → Q (.bl (isNum x2 i1 (sz - 1) && isNum x3 1 1000000000)) H2 := q
              cases hc : isNum x2 i1 (sz - 1) with
              | false =>
                rw [hc] at q1
                exact q1 _ (same_upd hp)
              | true =>
                rw [hc] at q1
                have q := q1
                exact ⟨_, rfl, x3, 1, _, rfl, flat x3 (by simp), q _ (same_upd hp)⟩
            | _ => cases hb
        · rw [decide_eq_false h1, Bool.false_and] at q
          have h2 : (!decide (V.str z = V.str "paste")) = true := by rw [decide_eq_false h1]; rfl
          rw [h2]
          exact q H (Same.refl H)
      | x0 :: x1 :: x2 :: x3 :: x4 :: r, hx, ftx, hd, q, one, flat =>
        have h2 : decide (V.int ((x0 :: x1 :: x2 :: x3 :: x4 :: r).length : Int) = V.int 2) = false := decide_eq_false (fun z => by injection z with z; simp at z; omega)
        rw [h2]
        refine iteF ?_
        refine ⟨_, rfl, a, _, rfl, .inr hx, rfl, _, rfl, ?_⟩
        have h4 : (!decide (V.int ((x0 :: x1 :: x2 :: x3 :: x4 :: r).length : Int) = V.int 4)) = true := by
          rw [decide_eq_false (fun z => by injection z with z; simp at z; omega)]
          rfl
        rw [h4]
        exact q H (Same.refl H)
end
end KL
namespace KL
open PySem PySem.Spec PyProof.Rows L2 Pk He
theorem putF_new {f : Str} {v : V} : ∀ {fs : List (Str × V)} {ns : List Str}, fs.map (·.1) = ns → (ns.all fun g => decide (g ≠ f)) = true → putF f v fs = fs ++ [(f, v)]
  | [], _, _, _ => rfl
  | (g, x) :: r, _, e, h => by
    subst e
    have h1 := Bool.and_eq_true_iff.mp (show (decide (g ≠ f) && (r.map (·.1)).all fun g => decide (g ≠ f)) = true from h)
    show (if g = f then (g, v) :: r else (g, x) :: putF f v r) = _
    rw [if_neg (of_decide_eq_true h1.1), putF_new rfl h1.2]
    rfl
def fresh5 (b e k s w : V) : List (Str × V) := [("begin", b), ("end", e), ("key", k), ("source", s), ("width", w)]
def spSpanInit (C : Addr) : Sp := fun vs H Q _ => ∃ p dx b e k s w, vs = [.ref p, b, e, k, s, w] ∧ H p = some (.ins C dx []) ∧ Q .non (upd H p (.ins C dx (fresh5 b e k s w)))
def spSpanOf (K : Fr) : Sp := fun vs H Q _ => ∃ (a : Addr) (x : Stp) (s n : Nat), vs = [.ref a, .int s, .int n] ∧ SqT K H a (stV x) ∧ x.ok s = true ∧ ∀ p dx H2, H p = none → Same H H2 → H2 p = some (.ins (CS K) dx (spF x s n)) → Q (.ref p) H2
section
variable {P : Program} {w : World} {K : Fr} {mg : Str → Option Value} {base : Heap} {f : Addr}
theorem scSpanInit : FnScope ["self", "begin", "end", "key", "source", "width"] ["self", "begin", "end", "key", "source", "width"] (defScope sSpanInit) := ⟨rfl, rfl, rfl, by decide +kernel, rfl, by decide +kernel, by decide +kernel⟩
theorem ok_span_init (D : Df K "__init__" "Span.__init__" sSpanInit f) (T : Tc w K mg) : Kp P w K mg base 1 f (spSpanInit (CS K)) := by
  refine kp_of D scSpanInit (fun _ _ _ _ _ _ us hl => match us, hl with | [_, _, _, _, _, _], _ => rfl) ?_ (fun cdv A outer s H vs Q E hr h => ?_)
  · rintro vs H Q E ⟨p, dx, b, e, k, s, w, rfl, _⟩
    rfl
  · obtain ⟨p, dx, b, e, k, sr, wd, rfl, hp, q⟩ := h
    refine ⟨_, pss_cons (ps_fld (pv 0) (pv 1) rfl) (pss_cons (ps_fld (pv 0) (pv 2) rfl) (pss_cons (ps_fld (pv 0) (pv 3) rfl) (pss_cons (ps_fld (pv 0) (pv 4) rfl) (pss_one (ps_fld (pv 0) (pv 5) rfl))))), ?_⟩
    refine ⟨_, rfl, _, rfl, p, _, dx, _, rfl, hp, T.clS, T.nS1, (by decide), ?_⟩
    have e1 : putF "begin" b ([] : List (Str × V)) = [(("begin" : Str), b)] := rfl
    rw [e1]
    refine ⟨_, rfl, _, rfl, p, _, dx, _, rfl, upd_same, T.clS, T.nS2, (by show 1 < 1000; decide), ?_⟩
    rw [putF_new (f := "end") (ns := ["begin"]) rfl (by decide +kernel), upd_upd]
    refine ⟨_, rfl, _, rfl, p, _, dx, _, rfl, upd_same, T.clS, T.nS3, (by show 2 < 1000; decide), ?_⟩
    rw [putF_new (f := "key") (ns := ["begin", "end"]) rfl (by decide +kernel), upd_upd]
    refine ⟨_, rfl, _, rfl, p, _, dx, _, rfl, upd_same, T.clS, T.nS4, (by show 3 < 1000; decide), ?_⟩
    rw [putF_new (f := "source") (ns := ["begin", "end", "key"]) rfl (by decide +kernel), upd_upd]
    refine ⟨_, rfl, _, rfl, p, _, dx, _, rfl, upd_same, T.clS, T.nS5, (by show 4 < 1000; decide), ?_⟩
    rw [putF_new (f := "width") (ns := ["begin", "end", "key", "source"]) rfl (by decide +kernel), upd_upd]
    exact q
theorem scSpanOf : FnScope ["step", "begin", "key", "width"] ["step", "begin", "key"] (defScope sSpanOf) := ⟨rfl, rfl, rfl, by decide +kernel, rfl, by decide +kernel, by decide +kernel⟩
theorem wr_ne_pa : (V.str "write") ≠ V.str "paste" := by decide +kernel
theorem ok_span_of (D : Df K "span_of" "span_of" sSpanOf f) (T : Tc w K mg) (GI : Kp P w K mg base 1 (ma K (CS K) "__init__") (spSpanInit (CS K))) : Kp P w K mg base 3 f (spSpanOf K) := by
  refine kp_of D scSpanOf (fun _ _ _ _ _ _ us hl => match us, hl with | [_, _, _], _ => rfl) ?_ (fun cdv A outer s H vs Q E hr h => ?_)
  · rintro vs H Q E ⟨a, x, s, n, rfl, _⟩
    rfl
  · obtain ⟨a, x, s0, n, rfl, hx, ok, q⟩ := h
    refine ⟨_, pss_cons (ps_if (pt_cmpR op_eq (pe_ix ix_tup (pv 0) pe_int (fun _ _ => rfl)) pe_str (nomark _))
        (pss_one (ps_ret (StX.pe_makeR T.mkS GI.fnR hr rfl T.gSpan pass0 (pa_cons (pv 1) (pa_cons (pe_op op_add (pv 1) (pk_b1 call_len_str T.len b_len (pe_ix ix_tup (pv 0) pe_int (fun _ _ => rfl)))) (pa_cons (pv 2) (pa_cons pe_int (pa_cons pe_int pa_nil)))))))) pss_nil)
      (pss_cons (ps_set (i := 3) scSpanOf.nd rfl (Or.inl rfl) (pe_op op_add (pe_op op_sub (pe_ix ix_tup (pv 0) pe_int (fun _ _ => rfl)) (pe_ix ix_tup (pv 0) pe_int (fun _ _ => rfl))) pe_int))
      (pss_one (ps_ret (StX.pe_makeR T.mkS GI.fnR hr rfl T.gSpan pass0 (pa_cons (pv 1) (pa_cons (pe_op op_add (pv 1) (pe_op op_mul (pv 3) (pe_ix ix_tup (pv 0) pe_int (fun _ _ => rfl)))) (pa_cons pe_non (pa_cons (pe_ix ix_tup (pv 0) pe_int (fun _ _ => rfl)) (pa_cons (pv 3) pa_nil))))))))), ?_⟩
    have fin : ∀ (H1 : Hp) (p dx : Addr) (e k sr wd : V), Same H H1 → H1 p = none → H1 dx = none → dx ≠ p → fresh5 (.int s0) e k sr wd = spF x s0 n →
        Q (.ref p) (upd (upd (upd H1 dx (.own p)) p (.ins (CS K) dx [])) p (.ins (CS K) dx (fresh5 (.int s0) e k sr wd))) := by
      intro H1 p dx e k sr wd s1 hp hdx hne ee
      rw [upd_upd]
      refine q p dx _ (s1.free hp) (s1.trans ((same_upd hdx).trans (same_upd ?_))) (by rw [upd_same, ee])
      rw [upd_ne hne.symm]
      exact hp
    cases x with
    | wr w =>
      have hl : (sL w).length ≤ sizeLine := by
        rw [sL_len]
        simp [Stp.ok] at ok
        exact Nat.le_trans ok.1.2 (by decide)
      refine ⟨_, rfl, a, _, _, _, rfl, rfl, hx, atI_nat (j := 0) rfl, rfl, _, rfl, ?_⟩
      refine iteT ?_
      refine ⟨_, rfl, _, rfl, _, rfl, a, _, _, _, rfl, rfl, hx, atI_nat (j := 1) rfl, _, rfl, hl, _, _, rfl, rfl, _, rfl, fun p dx hp hdx hne => ?_⟩
      refine ⟨p, dx, _, _, _, _, _, rfl, upd_same, rfl, ?_⟩
      refine fin H p dx _ _ _ _ (Same.refl H) hp hdx hne ?_
      rw [sL_len]
      rfl
    | pa f0 l t =>
      simp [Stp.ok] at ok
      have hb : decide (V.str "paste" = V.str "write") = false := decide_eq_false wr_ne_pa.symm
      refine ⟨_, rfl, a, _, _, _, rfl, rfl, hx, atI_nat (j := 0) rfl, rfl, _, rfl, ?_⟩
      rw [hb]
      refine iteF ?_
      refine ⟨_, rfl, a, _, _, _, rfl, rfl, hx, atI_nat (j := 2) rfl, _, rfl, a, _, _, _, rfl, rfl, hx, atI_nat (j := 1) rfl, _, _, rfl, rfl, _, _, rfl, rfl, ?_⟩
      have ew : ((l : Int) - (f0 : Int) + 1) = ((l + 1 - f0 : Nat) : Int) := by omega
      rw [show ((fun i j : Int => V.int (i + j)) ((l : Int) - (f0 : Int)) 1) = V.int ((l + 1 - f0 : Nat) : Int) from congrArg V.int ew]
      refine ⟨_, rfl, _, rfl, _, rfl, _, rfl, a, _, _, _, rfl, rfl, hx, atI_nat (j := 3) rfl, _, _, rfl, rfl, .inr ⟨by omega, by omega⟩, _, _, rfl, rfl, _, rfl, a, _, _, _, rfl, rfl, hx, atI_nat (j := 1) rfl, _, rfl, fun p dx hp hdx hne => ?_⟩
      refine ⟨p, dx, _, _, _, _, _, rfl, upd_same, rfl, ?_⟩
      refine fin H p dx _ _ _ _ (Same.refl H) hp hdx hne ?_
      show fresh5 _ _ _ _ _ = [_, _, _, _, _]
      rw [← Int.natCast_mul]
      rfl
end
end KL
namespace KL
open PySem PySem.Spec PyProof.Rows L2 Pk He
theorem map_at {as : List Addr} {i : Nat} {a : Addr} {y : V} (ha : as[i]? = some a) (e : (as.map V.ref)[i]? = some y) : y = .ref a := by
  rw [List.getElem?_map, ha] at e
  exact (Option.some.inj e).symm
def spSpansOf (K : Fr) : Sp := fun vs H Q _ => ∃ (ts : Addr) (as : List Addr) (st : List Stp), vs = [.ref ts, .int most] ∧ SqT K H ts (as.map V.ref) ∧ StepsAt K H as st ∧ Goes most 0 st ∧ st.length ≤ 30 ∧
  ∀ p ss H2, Same H H2 → SqT K H2 p (ss.map V.ref) → SpansAt (CS K) H2 ss st → Q (.ref p) H2
theorem stepArg_of {K : Fr} {H : Hp} {a : Addr} {x : Stp} {s : Nat} (hx : SqT K H a (stV x)) (ok : x.ok s = true) : StepArg K H (.ref a) (s : Int) true := by
  refine .inr (.inr ⟨a, stV x, rfl, hx, by cases x <;> rfl, ?_, ?_, ?_⟩)
  · cases x with
    | wr w =>
      simp [Stp.ok] at ok
      intro v hv
      have hv2 : v = .str "write" ∨ v = .str (sL w) := by simpa [stV] using hv
      rcases hv2 with rfl | rfl
      · show (Str.ofString "write").length ≤ sizeLine
        decide +kernel
      · show (sL w).length ≤ sizeLine
        rw [sL_len]
        exact Nat.le_trans ok.1.2 (by decide)
    | pa f l t =>
      intro v hv
      have hv2 : v = .str "paste" ∨ v = .int f ∨ v = .int l ∨ v = .int t := by simpa [stV] using hv
      rcases hv2 with rfl | rfl | rfl | rfl
      · show (Str.ofString "paste").length ≤ sizeLine
        decide +kernel
      all_goals trivial
  · cases x <;> (intro v hv; exact ⟨_, (Option.some.inj hv).symm⟩)
  · cases x with
    | wr w =>
      simp [Stp.ok] at ok
      show true = (decide (V.str "write" = V.str "write") && (decide (1 ≤ (sL w).length) && decide ((sL w).length ≤ 20) && (sL w).cps.toList.all isLet))
      rw [sL_len, decide_eq_true rfl, decide_eq_true ok.1.1, decide_eq_true ok.1.2]
      symm
      simpa [sL] using ok.2
    | pa f l t =>
      simp [Stp.ok] at ok
      show true = (decide (V.str "paste" = V.str "paste") && ((decide ((0 : Int) ≤ f) && decide ((f : Int) ≤ s - 1)) && (decide ((f : Int) ≤ l) && decide ((l : Int) ≤ s - 1)) && (decide ((1 : Int) ≤ t) && decide ((t : Int) ≤ 1000000000))))
      rw [decide_eq_true rfl, decide_eq_true (show (0 : Int) ≤ f by omega), decide_eq_true (show (f : Int) ≤ s - 1 by omega), decide_eq_true (show (f : Int) ≤ l by omega), decide_eq_true (show (l : Int) ≤ s - 1 by omega), decide_eq_true (show (1 : Int) ≤ t by omega), decide_eq_true (show (t : Int) ≤ 1000000000 by omega)]
      rfl
theorem spF_end (x : Stp) (s n : Nat) : (spF x s n).lookup ("end" : Str) = some (.int (s + x.gr : Nat)) := by
  cases x <;> rfl
theorem spF_begin (x : Stp) (s n : Nat) : (spF x s n).lookup ("begin" : Str) = some (.int s) := by
  cases x <;> rfl
def keyV (x : Stp) (n : Nat) : V := match x with
  | .wr _ => .int n
  | .pa _ _ _ => .non
theorem spF_key (x : Stp) (s n : Nat) : (spF x s n).lookup ("key" : Str) = some (keyV x n) := by
  cases x <;> rfl
section
variable {P : Program} {w : World} {K : Fr} {mg : Str → Option Value} {base : Heap} {f : Addr}
abbrev nSpansOf : List Str := ["steps", "max_size", "spans", "size", "key", "index", "step", "span"]
theorem scSpansOf : FnScope nSpansOf ["steps", "max_size"] (defScope sSpansOf) := ⟨rfl, rfl, rfl, by decide +kernel, rfl, by decide +kernel, by decide +kernel⟩
theorem ok_spans_of (D : Df K "spans_of" "spans_of" sSpansOf f) (T : Tc w K mg) (GS : Kp P w K mg base 2 (ga K "is_step") (spIsStep K)) (GO : Kp P w K mg base 3 (ga K "span_of") (spSpanOf K)) : Kp P w K mg base 4 f (spSpansOf K) := by
  refine kp_of D scSpansOf (fun _ _ _ _ _ _ us hl => match us, hl with | [_, _], _ => rfl) ?_ (fun cdv A outer s H vs Q E hr h => ?_)
  · rintro vs H Q E ⟨ts, as, st, rfl, _⟩
    rfl
  · obtain ⟨ts, as, st, rfl, hts, hst, good, few, q⟩ := h
    obtain ⟨tk, hMS⟩ := T.mostSteps
    refine ⟨_, (pss_cons (ps_set (i := 2) scSpansOf.nd rfl (Or.inl rfl) (pe_lst pa_nil)) (pss_cons (ps_set (i := 3) scSpansOf.nd rfl (Or.inl rfl) pe_int) (pss_cons (ps_set (i := 4) scSpansOf.nd rfl (Or.inl rfl) pe_int) (pss_cons (ps_for PassesOwn.never rfl (pi_enumT (by rfl) T.enu (pa_cons (pv 0) pa_nil)) (pg_tup rfl (pgs_cons (pg_name (i := 5) scSpansOf.nd rfl (Or.inl rfl)) (pgs_cons (pg_name (i := 6) scSpansOf.nd rfl (Or.inl rfl)) pgs_nil))) (pss_cons (ps_if (pw_or (pt_cmpR op_ge (pv 5) (pe_gI hMS) (nomark _)) (pw_or1 (pt_not (pt_val (pk_call GS (hr.mono (by decide)) T.gIsStep (pa_cons (pv 6) (pa_cons (pv 3) pa_nil))))))).pt pss_never pss_nil) (pss_cons (ps_set (i := 7) scSpansOf.nd rfl (Or.inl rfl) (pk_call GO hr T.gSpanOf (pa_cons (pv 6) (pa_cons (pv 3) (pa_cons (pv 4) pa_nil))))) (pss_cons (ps_if (pt_cmpR op_gt (pe_fld (pv 7) rfl) (pv 1) (nomark _)) pss_never pss_nil) (pss_cons (ps_if (pt_cmp (pc_notN (pe_fld (pv 7) rfl))) (pss_one (ps_set (i := 4) scSpansOf.nd rfl (Or.inl rfl) (pe_op op_sub (pe_op op_add (pv 4) (pe_fld (pv 7) rfl)) (pe_fld (pv 7) rfl)))) pss_nil) (pss_cons (ps_set (i := 3) scSpansOf.nd rfl (Or.inl rfl) (pe_fld (pv 7) rfl)) (pss_one (ps_expr (pe_bm PySem.F.plainAttrs_list PySem.F.slot_list_append PySem.F.type_list_append mt_append (pv 2) (pa_cons (pv 7) pa_nil)))))))))) (pss_one (ps_ret (pk_t1 call_tuple_of T.tup b_tuple (pv 2)))))))), ?_⟩
    refine ⟨Nat.zero_le _, fun L hL => ?_⟩
    have s1 : Same H (upd H L (.lst [])) := same_upd hL
    refine ⟨_, rfl, ts, as.map V.ref, rfl, same_sqT s1 hts, ?_⟩
    have hn : (as.map V.ref).length = st.length := by rw [List.length_map, hst.len]
    refine for_it (walk_enumT (xs := as.map V.ref)) (fun i σ H2 => ∃ (ss : List Addr) (v5 v6 v7 : Option V), σ = [some (.ref ts), some (.int most), some (.ref L), some (.int (sz (st.take i))), some (.int (nk (st.take i))), v5, v6, v7] ∧
      Same H H2 ∧ H2 L = some (.lst (ss.map V.ref)) ∧ SpansAt (CS K) H2 ss (st.take i)) ⟨[], none, none, none, rfl, s1, upd_same, SpansAt.nil⟩ ?_ ?_ ?_
    · rintro i σ H2 _ ⟨ss, v5, v6, v7, _, s2, _⟩
      exact same_sqT s2 hts
    · rintro i v σ H2 H3 hi ⟨ss, v5, v6, v7, rfl, s2, hL2, sp⟩ ⟨TT, x0, y0, rfl, hT, rfl, e0, e1⟩
      rw [hn] at hi
      obtain ⟨x, hx⟩ : ∃ x, st[i]? = some x := ⟨st[i], List.getElem?_eq_getElem hi⟩
      obtain ⟨a, ha, hst2⟩ := hst.at_ i x hx
      obtain ⟨ok, lim⟩ := goes_at good hx
      have ex0 : x0 = .int (i : Nat) := (Option.some.inj e0).symm
      have ey0 : y0 = .ref a := map_at ha e1
      subst ex0 ey0
      have s3 := s2.trans (same_upd (o := .tup [.int (i : Nat), .ref a]) hT)
      refine ⟨TT, [.int (i : Nat), .ref a], rfl, .inl (.inl upd_same), rfl, _, _, rfl, _, _, rfl, rfl, ?_⟩
      have hi30 : i < 30 := by omega
      refine ⟨_, rfl, _, _, rfl, rfl, _, rfl, ?_⟩
      refine ite2 (fun h => absurd (of_decide_eq_true h) (by omega)) fun _ => ?_
      refine ⟨_, rfl, _, rfl, _, _, true, rfl, stepArg_of (same_sqT s3 hst2) ok, fun H4 s4 => ⟨true, rfl, ?_⟩⟩
      refine iteF ?_
      have s34 := s3.trans s4
      refine ⟨_, rfl, _, rfl, _, rfl, a, x, _, _, rfl, same_sqT s34 hst2, ok, fun p dx H5 hp s5 e5 => ?_⟩
      have s25 : Same H2 H5 := (same_upd (o := .tup [.int (i : Nat), .ref a]) hT).trans (s4.trans s5)
      refine ⟨_, rfl, p, _, dx, _, _, rfl, e5, T.clS, T.nS2, spF_end _ _ _, _, rfl, _, _, rfl, rfl, _, rfl, ?_⟩
      refine ite2 (fun h => absurd (of_decide_eq_true h) (by omega)) fun _ => ?_
      refine ⟨_, rfl, p, _, dx, _, _, rfl, e5, T.clS, T.nS3, spF_key _ _ _, _, rfl, ?_⟩
      have ez : sz (st.take (i + 1)) = sz (st.take i) + x.gr := by rw [take_succ hx, sz_app, sz_cons]; rfl
      have en : nk (st.take (i + 1)) = nk (st.take i) + x.ks := by rw [take_succ hx, nk_app]; simp [nk]
      have hL5 : H5 L = some (.lst (ss.map V.ref)) := s25 _ _ hL2
      have hz : (ss.map V.ref).length < sizeLine := by
        rw [List.length_map, sp.len, List.length_take]
        exact Nat.lt_of_le_of_lt (Nat.le_trans (Nat.min_le_left _ _) (Nat.le_of_lt hi30)) (by decide)
      have fin : ∃ (ss2 : List Addr) (v5 v6 v7 : Option V), ([some (.ref ts), some (.int most), some (.ref L), some (.int (sz (st.take (i + 1)))), some (.int (nk (st.take (i + 1)))), some (.int (i : Nat)), some (.ref a), some (.ref p)] : L2.St) =
          [some (.ref ts), some (.int most), some (.ref L), some (.int (sz (st.take (i + 1)))), some (.int (nk (st.take (i + 1)))), v5, v6, v7] ∧
          Same H (upd H5 L (.lst (ss.map V.ref ++ [.ref p]))) ∧ (upd H5 L (.lst (ss.map V.ref ++ [.ref p]))) L = some (.lst (ss2.map V.ref)) ∧ SpansAt (CS K) (upd H5 L (.lst (ss.map V.ref ++ [.ref p]))) ss2 (st.take (i + 1)) := by
        refine ⟨ss ++ [p], _, _, _, rfl, fun b o e => ?_, by rw [upd_same, List.map_append]; rfl, ?_⟩
        · rw [upd_ne (ne_of_none e hL)]
          exact s25 _ _ (s2 _ _ e)
        · have keep : ∀ b C d fs, H5 b = some (.ins C d fs) → (upd H5 L (.lst (ss.map V.ref ++ [.ref p]))) b = some (.ins C d fs) := fun b C d fs e => by
            rw [upd_ne (ne_of e hL5 (by intro z; cases z))]
            exact e
          have sp5 := sp.same s25
          have sp6 : SpansAt (CS K) (upd H5 L (.lst (ss.map V.ref ++ [.ref p]))) ss (st.take i) := ⟨sp5.len, fun j y hy => let ⟨b, d, h1, h2⟩ := sp5.at_ j y hy; ⟨b, d, h1, keep _ _ _ _ h2⟩⟩
          rw [take_succ hx]
          exact sp6.snoc (keep _ _ _ _ e5)
      obtain ⟨ss2, _, _, _, _, b1, b2, b3⟩ := fin
      have st2 : ∀ (s k : Int), s = (sz (st.take (i + 1)) : Nat) → k = (nk (st.take (i + 1)) : Nat) → ([some (.ref ts), some (.int most), some (.ref L), some (.int s), some (.int k), some (.int (i : Nat)), some (.ref a), some (.ref p)] : L2.St) =
          [some (.ref ts), some (.int most), some (.ref L), some (.int (sz (st.take (i + 1)))), some (.int (nk (st.take (i + 1)))), some (.int (i : Nat)), some (.ref a), some (.ref p)] := fun s k e1 e2 => by rw [e1, e2]
      cases x with
      | wr w =>
        refine ⟨_, rfl, _, rfl, p, _, dx, _, _, rfl, e5, T.clS, T.nS2, spF_end _ _ _, _, _, rfl, rfl, _, rfl, p, _, dx, _, _, rfl, e5, T.clS, T.nS1, spF_begin _ _ _, _, _, rfl, rfl, ?_⟩
        refine ⟨_, rfl, p, _, dx, _, _, rfl, e5, T.clS, T.nS2, spF_end _ _ _, ?_⟩
        refine ⟨_, rfl, .inl ⟨rfl, _, SqL.of hL5⟩, _, rfl, L, _, _, rfl, rfl, hL5, hz, ?_⟩
        refine ⟨ss2, _, _, _, st2 _ _ (by rw [ez]) ?_, b1, b2, b3⟩
        rw [en]
        simp only [Stp.ks, Stp.gr]
        omega
      | pa f0 l t =>
        refine ⟨_, rfl, p, _, dx, _, _, rfl, e5, T.clS, T.nS2, spF_end _ _ _, ?_⟩
        refine ⟨_, rfl, .inl ⟨rfl, _, SqL.of hL5⟩, _, rfl, L, _, _, rfl, rfl, hL5, hz, ?_⟩
        exact ⟨ss2, _, _, _, st2 _ _ (by rw [ez]) (by rw [en]; rfl), b1, b2, b3⟩
    · rintro σ H2 ⟨ss, v5, v6, v7, rfl, s2, hL2, sp⟩
      rw [hn, List.take_length] at sp
      refine ⟨_, rfl, L, _, rfl, .inl ⟨SqL.of hL2, fun p hp => ?_⟩⟩
      exact q p ss _ (s2.trans (same_upd hp)) (.inl (.inl upd_same)) (sp.same (same_upd hp))
end
end KL
namespace KL
open PySem PySem.Spec PyProof.Rows L2 Pk He
def spKeyAt (K : Fr) : Sp := fun vs H Q _ => ∃ (sp : Addr) (p : Nat) (ss : List Addr) (st : List Stp), vs = [.ref sp, .int p] ∧ SqT K H sp (ss.map V.ref) ∧ SpansAt (CS K) H ss st ∧ Goes most 0 st ∧ p < sz st ∧ ∀ (k : Nat) H2, Same H H2 → (ex st)[p]? = some k → Q (.int k) H2
def srcOf : Stp → Nat
  | .wr _ => 0
  | .pa f _ _ => f
def widOf : Stp → Nat
  | .wr _ => 0
  | .pa f l _ => l + 1 - f
theorem spF_source (x : Stp) (s n : Nat) : (spF x s n).lookup ("source" : Str) = some (.int (srcOf x : Nat)) := by
  cases x <;> rfl
theorem spF_width (x : Stp) (s n : Nat) : (spF x s n).lookup ("width" : Str) = some (.int (widOf x : Nat)) := by
  cases x <;> rfl
theorem map_get {ss : List Addr} {i : Nat} {a : Addr} (h : ss[i]? = some a) : (ss.map V.ref)[i]? = some (.ref a) := by
  rw [List.getElem?_map, h]
  rfl
section
variable {P : Program} {w : World} {K : Fr} {mg : Str → Option Value} {base : Heap} {f : Addr}
theorem scKeyAt : FnScope ["spans", "place", "at", "_", "rest"] ["spans", "place"] (defScope sKeyAt) := ⟨rfl, rfl, rfl, by decide +kernel, rfl, by decide +kernel, by decide +kernel⟩
theorem ok_key_at (D : Df K "key_at" "key_at" sKeyAt f) (T : Tc w K mg) : Kp P w K mg base 1 f (spKeyAt K) := by
  refine kp_of D scKeyAt (fun _ _ _ _ _ _ us hl => match us, hl with | [_, _], _ => rfl) ?_ (fun cdv A outer s H vs Q E hr h => ?_)
  · rintro vs H Q E ⟨sp, p, ss, st, rfl, _⟩
    rfl
  · obtain ⟨sp, p, ss, st, rfl, hsp, hss, good, hp, q⟩ := h
    have hlen : 0 < st.length := by
      rcases st with _ | ⟨x, r⟩
      · exact absurd hp (Nat.not_lt_zero _)
      · exact Nat.succ_pos _
    refine ⟨_, (pss_cons (ps_set (i := 2) scKeyAt.nd rfl (Or.inl rfl) (pe_op op_sub (pk_b1 call_len_seq T.len b_len (pv 0)) pe_int)) (pss_cons (ps_while PassesOwn.never (pw_or (pt_cmpR op_lt (pv 1) (pe_fld (pe_ix ix_tup (pv 0) (pv 2) (fun _ _ => rfl)) rfl) (nomark _)) (pw_or1 (pt_cmp (pc_isN (pe_fld (pe_ix ix_tup (pv 0) (pv 2) (fun _ _ => rfl)) rfl))))).pt (pss_cons (ps_if (pt_cmpR op_ge (pv 1) (pe_fld (pe_ix ix_tup (pv 0) (pv 2) (fun _ _ => rfl)) rfl) (nomark _)) (pss_cons (ps_asg (pe_callB call_divmodW (by rfl) T.dm b_divmod (pa_cons (pe_op op_sub (pv 1) (pe_fld (pe_ix ix_tup (pv 0) (pv 2) (fun _ _ => rfl)) rfl)) (pa_cons (pe_fld (pe_ix ix_tup (pv 0) (pv 2) (fun _ _ => rfl)) rfl) pa_nil))) (pg_tup rfl (pgs_cons (pg_name (i := 3) scKeyAt.nd rfl (Or.inl rfl)) (pgs_cons (pg_name (i := 4) scKeyAt.nd rfl (Or.inl rfl)) pgs_nil)))) (pss_one (ps_set (i := 1) scKeyAt.nd rfl (Or.inl rfl) (pe_op op_add (pe_fld (pe_ix ix_tup (pv 0) (pv 2) (fun _ _ => rfl)) rfl) (pv 4))))) pss_nil) (pss_one (ps_set (i := 2) scKeyAt.nd rfl (Or.inl rfl) (pe_op op_sub (pv 2) pe_int))))) (pss_one (ps_ret (pe_op op_sub (pe_op op_add (pe_fld (pe_ix ix_tup (pv 0) (pv 2) (fun _ _ => rfl)) rfl) (pv 1)) (pe_fld (pe_ix ix_tup (pv 0) (pv 2) (fun _ _ => rfl)) rfl)))))), ?_⟩
    refine ⟨_, rfl, _, _, rfl, (.inr (same_sqT (Same.refl _) hsp)), _, _, rfl, rfl, ?_⟩
    refine ⟨fun m σ H2 => ∃ (pl : Nat) (v3 v4 : Option V), Same H H2 ∧ σ = [some (.ref sp), some (.int pl), some (.int m), v3, v4] ∧ m < st.length ∧ pl < sz (st.take (m + 1)) ∧ (ex st)[pl]? = (ex st)[p]?, ⟨st.length - 1, p, none, none, Same.refl _, ?_, by omega, ?_, rfl⟩, ?_⟩
    · show ([some (.ref sp), some (.int p), some (.int (((ss.map V.ref).length : Int) - 1)), none, none] : L2.St) = _
      rw [List.length_map, hss.len, show ((st.length : Int) - 1) = ((st.length - 1 : Nat) : Int) by omega]
    · rw [show st.length - 1 + 1 = st.length by omega, List.take_length]
      exact hp
    · rintro m σ H2 ⟨pl, v3, v4, s2, rfl, ha, hpl, he⟩
      obtain ⟨x, hx⟩ : ∃ x, st[m]? = some x := ⟨st[m], List.getElem?_eq_getElem ha⟩
      obtain ⟨ok, lim⟩ := goes_at good hx
      obtain ⟨b, dx, hb, e5⟩ := hss.at_ m x hx
      have hix : atI (ss.map V.ref) (m : Int) = some (.ref b) := atI_nat (map_get hb)
      have down : 0 < m → ∀ (σ' : L2.St) (H' : Hp), (∃ (pl : Nat) (v3 v4 : Option V), Same H H' ∧ σ' = [some (.ref sp), some (.int pl), some (.int (m - 1 : Nat)), v3, v4] ∧ pl < sz (st.take m) ∧ (ex st)[pl]? = (ex st)[p]?) →
          ∃ m', m' < m ∧ ∃ (pl : Nat) (v3 v4 : Option V), Same H H' ∧ σ' = [some (.ref sp), some (.int pl), some (.int m'), v3, v4] ∧ m' < st.length ∧ pl < sz (st.take (m' + 1)) ∧ (ex st)[pl]? = (ex st)[p]? := by
        rintro h0 σ' H' ⟨pl2, v3, v4, s3, rfl, h2, h3⟩
        refine ⟨m - 1, by omega, pl2, v3, v4, s3, rfl, by omega, ?_, h3⟩
        rw [show m - 1 + 1 = m by omega]
        exact h2
      have st3 : 0 < m → ∀ (z : Nat) (v3 v4 : Option V), ([some (.ref sp), some (.int z), some (.int ((m : Int) - 1)), v3, v4] : L2.St) = [some (.ref sp), some (.int z), some (.int (m - 1 : Nat)), v3, v4] := fun h0 z _ _ => by rw [show ((m : Int) - 1) = ((m - 1 : Nat) : Int) by omega]
      refine ⟨_, rfl, _, rfl, _, rfl, _, _, _, _, rfl, rfl, (same_sqT s2 hsp), hix, _, _, _, _, _, rfl, (s2 _ _ e5), T.clS, T.nS1, (spF_begin _ _ _), _, _, rfl, rfl, _, rfl, ?_⟩
      refine iB (fun h1 => ?_) fun h1 => ?_
      · have h0 : 0 < m := by
          rcases Nat.eq_zero_or_pos m with e | e
          · rw [e] at h1
            exact absurd h1 (by show ¬ ((pl : Int) < ((0 : Nat) : Int)); omega)
          · exact e
        refine iteT ?_
        refine ⟨_, down h0, ?_⟩
        refine ⟨_, rfl, _, rfl, _, rfl, _, _, _, _, rfl, rfl, (same_sqT s2 hsp), hix, _, _, _, _, _, rfl, (s2 _ _ e5), T.clS, T.nS1, (spF_begin _ _ _), _, _, rfl, rfl, _, rfl, ?_⟩
        refine iF (dF (by omega)) ?_
        refine ⟨_, rfl, _, _, rfl, rfl, ?_⟩
        exact ⟨pl, _, _, s2, st3 h0 pl _ _, by omega, he⟩
      · have h1 : sz (st.take m) ≤ pl := by omega
        cases x with
        | wr w =>
          refine ⟨_, rfl, _, rfl, _, _, _, _, rfl, rfl, (same_sqT s2 hsp), hix, _, _, _, _, _, rfl, (s2 _ _ e5), T.clS, T.nS3, rfl, _, rfl, ?_⟩
          refine iF (dF (by intro z; cases z)) ?_
          refine ⟨_, rfl, _, rfl, _, _, _, _, rfl, rfl, (same_sqT s2 hsp), hix, _, _, _, _, _, rfl, (s2 _ _ e5), T.clS, T.nS3, rfl, _, rfl, _, _, rfl, rfl, _, rfl, _, rfl, _, _, _, _, rfl, rfl, (same_sqT s2 hsp), hix, _, _, _, _, _, rfl, (s2 _ _ e5), T.clS, T.nS1, rfl, _, _, rfl, rfl, ?_⟩
          have e8 := ex_wr good hx h1 hpl
          rw [he] at e8
          have q2 := q _ _ s2 e8
          rw [show ((nk (st.take m) + (pl - sz (st.take m)) : Nat) : Int) = ((nk (st.take m) : Int) + (pl : Int)) - (sz (st.take m) : Int) by omega] at q2
          exact q2
        | pa f0 l t =>
          have okn := ok
          simp [Stp.ok] at okn
          have hz := sz_most good
          have hmost : most = 1000000000000000000 := rfl
          have hzi : sz (st.take (m + 1)) ≤ sz st := by have z := sz_app (st.take (m + 1)) (st.drop (m + 1)); rw [List.take_append_drop] at z; omega
          have h0 : 0 < m := by
            rcases Nat.eq_zero_or_pos m with e | e
            · rw [e] at okn
              exact absurd okn.1.1.2 (Nat.not_lt_zero _)
            · exact e
          obtain ⟨e8, e9⟩ := ex_pa good hx h1 hpl
          have hl18 : l < 1000000000000000000 := by omega
          refine ⟨_, rfl, _, rfl, _, _, _, _, rfl, rfl, (same_sqT s2 hsp), hix, _, _, _, _, _, rfl, (s2 _ _ e5), T.clS, T.nS3, rfl, _, rfl, ?_⟩
          refine iT (dT rfl) ?_
          refine ⟨_, down h0, ?_⟩
          refine ⟨_, rfl, _, rfl, _, rfl, _, _, _, _, rfl, rfl, (same_sqT s2 hsp), hix, _, _, _, _, _, rfl, (s2 _ _ e5), T.clS, T.nS1, rfl, _, _, rfl, rfl, _, rfl, ?_⟩
          refine iT (dT (by omega)) ?_
          refine ⟨_, rfl, _, rfl, _, rfl, _, _, _, _, rfl, rfl, (same_sqT s2 hsp), hix, _, _, _, _, _, rfl, (s2 _ _ e5), T.clS, T.nS1, rfl, _, _, rfl, rfl, _, rfl, _, rfl, _, _, _, _, rfl, rfl, (same_sqT s2 hsp), hix, _, _, _, _, _, rfl, (s2 _ _ e5), T.clS, T.nS5, rfl, _, _, rfl, (by exact divp (by omega) (by omega)), fun tp n => ?_⟩
          refine ⟨_, _, rfl, (SqT.of upd_same), rfl, _, _, rfl, _, _, rfl, rfl, _, rfl, _, rfl, _, _, _, _, rfl, rfl, (same_sqT (same_own s2 (s2.free n)) hsp), hix, _, _, _, _, _, rfl, (same_upd n _ _ (s2 _ _ e5)), T.clS, T.nS4, rfl, _, rfl, _, _, rfl, rfl, _, rfl, _, _, rfl, rfl, ?_⟩
          have e10 : ((f0 : Int) + ((pl : Int) - (sz (st.take m) : Int)) % ((l + 1 - f0 : Nat) : Int)) = ((f0 + (pl - sz (st.take m)) % (l + 1 - f0) : Nat) : Int) := by
            rw [show ((pl : Int) - (sz (st.take m) : Int)) = ((pl - sz (st.take m) : Nat) : Int) by omega]
            rfl
          have e11 : ∀ a c : Option V, ([some (.ref sp), some (.int ((f0 : Int) + ((pl : Int) - (sz (st.take m) : Int)) % ((l + 1 - f0 : Nat) : Int))), some (.int ((m : Int) - 1)), a, c] : L2.St) = [some (.ref sp), some (.int (f0 + (pl - sz (st.take m)) % (l + 1 - f0) : Nat)), some (.int (m - 1 : Nat)), a, c] := fun a c => by
            rw [e10]
            exact st3 h0 _ _ _
          exact ⟨_, _, _, s2.trans (same_upd n), e11 _ _, e9, e8.symm.trans he⟩
end
end KL
namespace KL
open PySem PySem.Spec PyProof.Rows L2 Pk He
def mv (s : Nat) : Stp → Stp
  | .wr w => .wr w
  | .pa f l t => .pa (f + s) (l + s) t
def spMoved (K : Fr) : Sp := fun vs H Q _ => ∃ (a : Addr) (x : Stp) (s : Nat), vs = [.ref a, .int s] ∧ SqT K H a (stV x) ∧ ∀ b H2, Same H H2 → SqT K H2 b (stV (mv s x)) → Q (.ref b) H2
/-- the words of the steps that write -/
def wrs (st : List Stp) : List (List Nat) := st.filterMap fun x => match x with
  | .wr w => some w
  | .pa _ _ _ => none
theorem wrs_flat (st : List Stp) : (wrs st).flatten = typed st := by
  induction st with
  | nil => rfl
  | cons x r ih =>
    cases x with
    | wr w =>
      show (w :: wrs r).flatten = w ++ typed r
      rw [List.flatten_cons, ih]
    | pa f l t => exact ih
def isWr (st : List Stp) (i : Nat) : Bool := match st[i]? with
  | some (.wr _) => true
  | _ => false
def wrV (st : List Stp) (i : Nat) : V := match st[i]? with
  | some (.wr w) => .str (sL w)
  | _ => .non
theorem keeps_wrs (st : List Stp) : ∀ n, n ≤ st.length → keeps n (isWr st) (wrV st) = ((wrs (st.take n)).map sL).map V.str
  | 0, _ => rfl
  | n + 1, h => by
    have ih := keeps_wrs st n (by omega)
    have e : st[n]? = some (st[n]'(by omega)) := List.getElem?_eq_getElem (by omega)
    rw [keeps_succ, ih, take_succ e]
    generalize st[n]'(by omega) = x at e
    unfold isWr wrV wrs
    rw [e, List.filterMap_append]
    cases x with
    | wr w => simp
    | pa f l t => simp
theorem join_is (y : Str) (p : List Str) : Txt.join y p = Str.join y p := StrLaws.glued_eq_join y p
theorem join0 : ∀ ws : List (List Nat), Txt.join (Str.ofString "") (ws.map sL) = sL ws.flatten
  | [] => rfl
  | [w] => by
    rw [join_is]
    show sL w = sL ([w].flatten)
    simp
  | w :: x :: r => by
    have ih := join0 (x :: r)
    rw [join_is] at ih ⊢
    show sL w ++ Str.ofString "" ++ Str.join (Str.ofString "") ((x :: r).map sL) = _
    rw [ih, show (Str.ofString "") = sL [] from rfl, sL_app, sL_app, List.append_nil, List.flatten_cons (l := w)]
def spTextInit (K : Fr) : Sp := fun vs H Q _ => ∃ (x dx ts : Addr) (as : List Addr) (st : List Stp), vs = [.ref x, .ref ts] ∧ H x = some (.ins (CT K) dx []) ∧ SqT K H ts (as.map V.ref) ∧ StepsAt K H as st ∧ Goes most 0 st ∧ st.length ≤ 30 ∧
  ∀ H2 sp ss, (∀ b o, b ≠ x → H b = some o → H2 b = some o) → H2 x = some (.ins (CT K) dx (txF ts sp st)) → SqT K H2 sp (ss.map V.ref) → SpansAt (CS K) H2 ss st → Q .non H2
theorem sqT_but {K : Fr} {H H2 : Hp} {r a C d : Addr} {fs : List (Str × V)} {xs : List V} (hr : H r = some (.ins C d fs)) (b : But r H H2) (h : SqT K H a xs) : SqT K H2 a xs := by
  rcases h with (h | ⟨o, h⟩) | h
  · exact .inl (.inl (b _ _ (ne_of h hr (by intro z; cases z)) h))
  · exact .inl (.inr ⟨o, b _ _ (ne_of h hr (by intro z; cases z)) h⟩)
  · exact .inr h
theorem steps_but {K : Fr} {H H2 : Hp} {r C d : Addr} {fs : List (Str × V)} {as : List Addr} {st : List Stp} (hr : H r = some (.ins C d fs)) (b : But r H H2) (h : StepsAt K H as st) : StepsAt K H2 as st :=
  ⟨h.len, fun i x hx => let ⟨a, h1, h2⟩ := h.at_ i x hx; ⟨a, h1, sqT_but hr b h2⟩⟩
theorem spans_but {CS : Addr} {H H2 : Hp} {r C d : Addr} {fs : List (Str × V)} {ss : List Addr} {st : List Stp} (hne : CS ≠ C) (hr : H r = some (.ins C d fs)) (b : But r H H2) (h : SpansAt CS H ss st) : SpansAt CS H2 ss st :=
  ⟨h.len, fun i x hx => let ⟨a, dx, h1, h2⟩ := h.at_ i x hx; ⟨a, dx, h1, b _ _ (ne_of h2 hr (by intro z; injection z with z; exact hne z)) h2⟩⟩
theorem but_upd {H : Hp} {r : Addr} {o : HO} : But r H (upd H r o) := fun b u hn e => by
  rw [upd_ne hn]
  exact e
theorem ite_same {k : Bool} {ta tb : TE} {σ : L2.St} {H : Hp} {Q : VK} (v : V) (h : Q v H) (h1 : k = true → Q v H → ta σ H Q) (h2 : k = false → Q v H → tb σ H Q) : if k = true then ta σ H Q else tb σ H Q := by
  cases k with
  | true => exact iteT (h1 rfl h)
  | false => exact iteF (h2 rfl h)
theorem put2 (a v : V) : putF "spans" v ([("_steps", a)] : List (Str × V)) = ([("_steps", a), ("spans", v)] : List (Str × V)) := (putF_new (f := "spans") (ns := ["_steps"]) rfl (by decide +kernel)).trans rfl
theorem put3 (a b v : V) : putF "_size" v ([("_steps", a), ("spans", b)] : List (Str × V)) = ([("_steps", a), ("spans", b), ("_size", v)] : List (Str × V)) := (putF_new (f := "_size") (ns := ["_steps", "spans"]) rfl (by decide +kernel)).trans rfl
theorem put4 (a b c v : V) : putF "_typed" v ([("_steps", a), ("spans", b), ("_size", c)] : List (Str × V)) = ([("_steps", a), ("spans", b), ("_size", c), ("_typed", v)] : List (Str × V)) := (putF_new (f := "_typed") (ns := ["_steps", "spans", "_size"]) rfl (by decide +kernel)).trans rfl
theorem snoc_of {α : Type} {l : List α} (h : l ≠ []) : ∃ r y, l = r ++ [y] := ⟨l.dropLast, l.getLast h, (List.dropLast_concat_getLast h).symm⟩
theorem atI_last {α : Type} {xs : List α} {y : α} : atI (xs ++ [y]) (-1) = some y := by
  unfold atI ixN
  rw [if_neg (by omega), if_pos (by simp; omega)]
  show (xs ++ [y])[((-1 : Int) + ((xs ++ [y]).length : Int)).toNat]? = some y
  have e : ((-1 : Int) + ((xs ++ [y]).length : Int)).toNat = xs.length := by
    rw [List.length_append]
    simp
    omega
  rw [e, List.getElem?_append_right (Nat.le_refl _), Nat.sub_self]
  rfl
section
variable {P : Program} {w : World} {K : Fr} {mg : Str → Option Value} {base : Heap} {f : Addr}
theorem scMoved : FnScope ["step", "shift"] ["step", "shift"] (defScope sMoved) := ⟨rfl, rfl, rfl, by decide +kernel, rfl, by decide +kernel, by decide +kernel⟩
theorem ok_moved (D : Df K "moved_step" "moved_step" sMoved f) (T : Tc w K mg) : Kp P w K mg base 1 f (spMoved K) := by
  refine kp_of D scMoved (fun _ _ _ _ _ _ us hl => match us, hl with | [_, _], _ => rfl) ?_ (fun cdv A outer s H vs Q E hr h => ?_)
  · rintro vs H Q E ⟨a, x, s, rfl, _⟩
    rfl
  · obtain ⟨a, x, s, rfl, hx, q⟩ := h
    refine ⟨_, (pss_cons (ps_if (pt_cmpR op_eq (pe_ix ix_tup (pv 0) pe_int (fun _ _ => rfl)) pe_str (nomark _)) (pss_one (ps_ret (pv 0))) pss_nil) (pss_one (ps_ret (pe_tup (pa_cons pe_str (pa_cons (pe_op op_add (pe_ix ix_tup (pv 0) pe_int (fun _ _ => rfl)) (pv 1)) (pa_cons (pe_op op_add (pe_ix ix_tup (pv 0) pe_int (fun _ _ => rfl)) (pv 1)) (pa_cons (pe_ix ix_tup (pv 0) pe_int (fun _ _ => rfl)) pa_nil)))))))), ?_⟩
    cases x with
    | wr w =>
      refine ⟨_, rfl, a, _, _, _, rfl, rfl, hx, atI_nat (j := 0) rfl, rfl, _, rfl, ?_⟩
      refine iteT ?_
      exact ⟨_, rfl, q a H (Same.refl H) hx⟩
    | pa f0 l t =>
      have hb : decide (V.str "paste" = V.str "write") = false := decide_eq_false wr_ne_pa.symm
      refine ⟨_, rfl, a, _, _, _, rfl, rfl, hx, atI_nat (j := 0) rfl, rfl, _, rfl, ?_⟩
      rw [hb]
      refine iteF ?_
      refine ⟨_, rfl, a, _, _, _, rfl, rfl, hx, atI_nat (j := 1) rfl, _, rfl, _, _, rfl, rfl, _, rfl, a, _, _, _, rfl, rfl, hx, atI_nat (j := 2) rfl, _, rfl, _, _, rfl, rfl, _, rfl, a, _, _, _, rfl, rfl, hx, atI_nat (j := 3) rfl, (by show 4 ≤ sizeLine; decide), fun p hp => ?_⟩
      exact q p _ (same_upd hp) (.inl (.inl upd_same))
abbrev nInit : List Str := ["self", "steps", "step"]
theorem scInit : FnScope nInit ["self", "steps"] (defScope sInit) := ⟨rfl, rfl, rfl, by decide +kernel, rfl, by decide +kernel, by decide +kernel⟩
theorem ok_init (D : Df K "__init__" "Text.__init__" sInit f) (T : Tc w K mg) (GS : Kp P w K mg base 4 (ga K "spans_of") (spSpansOf K)) :
    FnR P w K mg base CX0 5 f (fun vs H Q E => ∃ ws rest, vs = ws ++ rest ∧ ws.length = (["self"] : List Str).length ∧ rest.length ≤ sizeLine ∧ ∀ p, H p = none → spTextInit K (ws ++ [V.ref p]) (upd H p (.tup rest)) Q E) := by
  obtain ⟨fd, F⟩ := D
  obtain ⟨oc, od, kV, doc, pm, an, cdv, ct, osl, rfl, lk, hcd⟩ := (He5.fun_of F).ex
  refine StX.fn_star (ps := ["self"]) (pv := "steps") (sp := spTextInit K) lk hcd scInit StX.cxUp_none (StX.bind_star1 (B := fun l => bindArgs (PySem.W.fnOf "__init__" "Text.__init__" (defArgs sInit) (defBody sInit) (defScope sInit) .none kV doc pm an cdv ct) ⟨l, []⟩) (p1 := "self") (pv := "steps") (fun _ => rfl) (fun _ _ _ => rfl)) fun A outer s H vs Q E hr h => ?_
  obtain ⟨x, dx, ts, as, st, rfl, hx, hts, hst, good, few, q⟩ := h
  obtain ⟨tk, hMax⟩ := T.maxSize
  refine ⟨_, PSs.nox (pss_cons (ps_fld (pv 0) (pv 1) rfl) (pss_cons (ps_fld (pv 0) (pk_call GS (hr.mono (by decide)) T.gSpansOf (pa_cons (pv 1) (pa_cons (ClX.pe_cval (pe_gR T.gText)) pa_nil))) rfl) (pss_cons (ps_fld (pv 0) (pe_ifExp (pt_truth (pe_fld (pv 0) rfl) (fun _ => rfl)) (pe_fld (pe_ix ix_tup (pe_fld (pv 0) rfl) (pe_un un_neg pe_int) (fun _ _ => rfl)) rfl) pe_int) rfl) (pss_one (ps_fld (pv 0) (pe_join pe_str (pe_lc (own := [("step", 2)]) (g := gName 2) rfl scInit.nd (pi_tup (pv 1)) (blkOk_by (N := ["self", "steps", "step"]) (sc := defScope sInit) (by decide +kernel)) (fun _ _ _ _ _ => (pg_name (i := 2) scInit.nd rfl (Or.inl rfl))) (fun _ _ _ _ _ => (pts_one (pt_cmpR op_eq (pe_ix (ixT K) (pv 2) pe_int (fun _ _ => rfl)) pe_str (nomark _)))) (fun _ _ _ _ _ => (pe_ix (ixT K) (pv 2) pe_int (fun _ _ => rfl))))) rfl))))), ?_⟩
  refine ⟨_, rfl, _, rfl, x, _, dx, _, rfl, hx, T.clT, T.nT1, by decide, ?_⟩
  have e1 : putF "_steps" (.ref ts) ([] : List (Str × V)) = [(("_steps" : Str), .ref ts)] := rfl
  rw [e1]
  have b1 : But x H (upd H x (.ins (CT K) dx [(("_steps" : Str), .ref ts)])) := but_upd
  refine ⟨_, rfl, _, _, _, _, rfl, T.rd, hMax, ts, as, st, rfl, sqT_but hx b1 hts, steps_but hx b1 hst, good, few, fun sp ss H2 s2 hsp hss => ?_⟩
  have x2 : H2 x = some (.ins (CT K) dx [(("_steps" : Str), .ref ts)]) := s2 _ _ upd_same
  refine ⟨_, rfl, x, _, dx, _, rfl, x2, T.clT, T.nT2, (by show 1 < 1000; decide), ?_⟩
  rw [put2]
  have b3 : But x H2 (upd H2 x (.ins (CT K) dx [("_steps", .ref ts), ("spans", .ref sp)])) := but_upd
  generalize hH3 : upd H2 x (.ins (CT K) dx [("_steps", .ref ts), ("spans", .ref sp)]) = H3 at b3
  have x3 : H3 x = some (.ins (CT K) dx [("_steps", .ref ts), ("spans", .ref sp)]) := by
    rw [← hH3, upd_same]
  have hsp3 := sqT_but x2 b3 hsp
  have hss3 := spans_but T.csct x2 b3 hss
  have hts3 : SqT K H3 ts (as.map V.ref) := sqT_but x2 b3 (same_sqT s2 (sqT_but hx b1 hts))
  have hst3 : StepsAt K H3 as st := steps_but x2 b3 ((steps_but hx b1 hst).same s2)
  have bH : But x H H3 := b1.trans ((Same.but s2).trans b3)
  refine ⟨_, rfl, x, _, dx, _, _, rfl, x3, T.clT, T.nT2, rfl, _, .inr (.inl ⟨_, hsp3, rfl⟩), ?_⟩
  refine ite_same (.int (sz st : Nat)) ?_ (fun hk h => ?_) fun hk h => ?_
  · refine ⟨_, rfl, x, _, dx, _, rfl, x3, T.clT, T.nT3, (by show 2 < 1000; decide), ?_⟩
    rw [put3]
    have b4 : But x H3 (upd H3 x (.ins (CT K) dx [("_steps", .ref ts), ("spans", .ref sp), ("_size", .int (sz st : Nat))])) := but_upd
    generalize hH4 : upd H3 x (.ins (CT K) dx [("_steps", .ref ts), ("spans", .ref sp), ("_size", .int (sz st : Nat))]) = H4 at b4
    have x4 : H4 x = some (.ins (CT K) dx [("_steps", .ref ts), ("spans", .ref sp), ("_size", .int (sz st : Nat))]) := by
      rw [← hH4, upd_same]
    have hsp4 := sqT_but x3 b4 hsp3
    have hss4 := spans_but T.csct x3 b4 hss3
    have hts4 := sqT_but x3 b4 hts3
    have hst4 := steps_but x3 b4 hst3
    refine ⟨⟨_, rfl⟩, ⟨_, rfl, ts, rfl, ⟨_, hts4⟩, fun D hD => ?_⟩⟩
    have hn : (as.map V.ref).length = st.length := by rw [List.length_map, hst.len]
    refine lc_keep walk_tup hD (isWr st) (wrV st) (by rw [hn]; exact Nat.le_trans few (by decide)) (fun H5 s5 => same_sqT s5 hts4) ?_ ?_
    · rintro i v H5 H6 N N0 hi s5 ⟨rfl, hv⟩ h1 h2
      rw [hn] at hi
      obtain ⟨y, hy⟩ : ∃ y, st[i]? = some y := ⟨st[i], List.getElem?_eq_getElem hi⟩
      obtain ⟨a, ha, hay⟩ := hst4.at_ i y hy
      have ev : v = .ref a := map_at ha hv
      subst ev
      have hay5 := same_sqT s5 hay
      cases y with
      | wr w =>
        refine ⟨rfl, _, rfl, a, _, _, _, rfl, rfl, hay5, atI_nat (j := 0) rfl, rfl, _, rfl, ?_⟩
        refine iteT ?_
        refine ⟨_, rfl, a, _, _, _, rfl, rfl, hay5, atI_nat (j := 1) rfl, ?_⟩
        have e1 : isWr st i = true := by unfold isWr; rw [hy]
        have e2 : wrV st i = .str (sL w) := by unfold wrV; rw [hy]
        have q1 := h1 e1 _ (Same.refl _)
        rw [e2] at q1
        exact q1
      | pa f0 l t =>
        refine ⟨rfl, _, rfl, a, _, _, _, rfl, rfl, hay5, atI_nat (j := 0) rfl, rfl, _, rfl, ?_⟩
        rw [show decide (V.str "paste" = V.str "write") = false from decide_eq_false wr_ne_pa.symm]
        refine iteF ?_
        have e1 : isWr st i = false := by unfold isWr; rw [hy]
        exact h2 e1 _ (Same.refl _)
    · intro H5 s5 hD5
      rw [hn, keeps_wrs st st.length (Nat.le_refl _), List.take_length] at hD5
      have x5 := s5 _ _ x4
      refine ⟨_, D, (wrs st).map sL, rfl, rfl, .inl (SqL.of hD5), ?_, ?_⟩
      · rw [List.map_map, show ((fun z : Str => z.length) ∘ sL) = List.length from funext fun l => sL_len l, ← List.length_flatten, wrs_flat, typed_len]
        have h1 := nk_le good
        have h2 : (Str.ofString "").length = 0 := rfl
        rw [h2]
        omega
      · rw [join0, wrs_flat]
        refine ⟨_, rfl, x, _, dx, _, rfl, x5, T.clT, T.nT4, (by show 3 < 1000; decide), ?_⟩
        rw [put4]
        have b6 : But x H5 (upd H5 x (.ins (CT K) dx (txF ts sp st))) := but_upd
        refine q _ sp ss (fun b o hb e => b6 _ _ hb (s5 _ _ (b4 _ _ hb (bH _ _ hb e)))) upd_same (sqT_but x5 b6 (same_sqT s5 hsp4)) (spans_but T.csct x5 b6 (hss4.same s5))
  · have hne : st ≠ [] := by
      intro e
      subst e
      have h0 : ss = [] := List.eq_nil_of_length_eq_zero hss.len
      rw [h0] at hk
      cases hk
    obtain ⟨r, y, e⟩ := snoc_of hne
    have hl : st.length = r.length + 1 := by rw [e]; simp
    have hy : st[r.length]? = some y := by rw [e]; simp
    obtain ⟨a, da, ha, e5⟩ := hss3.at_ _ _ hy
    have hsr : (ss.map V.ref) = (ss.map V.ref).dropLast ++ [.ref a] := by
      have h1 : ss.map V.ref ≠ [] := by
        intro z
        have := hss.len
        rw [List.map_eq_nil_iff.mp z] at this
        simp at this
        omega
      have h2 : (ss.map V.ref).getLast h1 = .ref a := by
        have h3 : (ss.map V.ref)[(ss.map V.ref).length - 1]? = some (.ref a) := by
          rw [List.length_map, hss.len, hl, Nat.add_sub_cancel]
          exact map_get ha
        rw [List.getLast_eq_getElem]
        exact (List.getElem?_eq_some_iff.mp h3).2
      rw [← h2]
      exact (List.dropLast_concat_getLast h1).symm
    have hix : atI (ss.map V.ref) (-1) = some (.ref a) := by
      rw [hsr]
      exact atI_last
    have ez : sz st = sz (st.take r.length) + y.gr := by
      have e9 : st = st.take r.length ++ [y] := by
        rw [← take_succ hy, ← hl, List.take_length]
      have e10 := congrArg sz e9
      rw [sz_app, sz_cons] at e10
      exact e10
    rw [ez] at h
    refine ⟨_, rfl, x, _, dx, _, _, rfl, x3, T.clT, T.nT2, rfl, _, rfl, sp, _, _, _, rfl, rfl, hsp3, hix, a, _, da, _, _, rfl, e5, T.clS, T.nS2, spF_end _ _ _, ?_⟩
    exact h
  · have e : st = [] := by
      have h0 : ss = [] := by
        cases hq : ss with
        | nil => rfl
        | cons a r =>
          rw [hq] at hk
          cases hk
      have := hss.len
      rw [h0] at this
      exact List.eq_nil_of_length_eq_zero this.symm
    subst e
    exact h
end
end KL
namespace KL
open PySem PySem.Spec PyProof.Rows L2 Pk He
abbrev TA_ (K : Fr) (H : Hp) (x : Addr) (st : List Stp) : Prop := TextAt K (CT K) (CS K) H x st
def spInit5 (K : Fr) : Sp := fun vs H Q E => ∃ ws rest, vs = ws ++ rest ∧ ws.length = ([("self" : Str)] : List Str).length ∧ rest.length ≤ sizeLine ∧ ∀ p, H p = none → spTextInit K (ws ++ [V.ref p]) (upd H p (.tup rest)) Q E
/-- a new text of given steps: what its making asks -/
theorem make_text {K : Fr} (csct : CS K ≠ CT K) {H1 : Hp} {as : List Addr} {st : List Stp} {Q : VK} (hst : StepsAt K H1 as st) (good : Goes most 0 st) (few : st.length ≤ 30) (q : ∀ x H2, H1 x = none → Same H1 H2 → TA_ K H2 x st → Q (.ref x) H2) :
    ∀ x dx, H1 x = none → H1 dx = none → dx ≠ x → spInit5 K (V.ref x :: as.map V.ref) (upd (upd H1 dx (.own x)) x (.ins (CT K) dx [])) (fun v H2 => v = .non ∧ Q (.ref x) H2) E0 := by
  intro x dx hx hdx hne
  refine ⟨[.ref x], as.map V.ref, rfl, rfl, by rw [List.length_map, hst.len]; exact Nat.le_trans few (by decide), fun p hp => ?_⟩
  have npx : p ≠ x := fun e => by
    rw [e, upd_same] at hp
    cases hp
  have npd : p ≠ dx := fun e => by
    rw [e, upd_ne hne, upd_same] at hp
    cases hp
  have hp1 : H1 p = none := by
    rw [upd_ne npx, upd_ne npd] at hp
    exact hp
  have s1 : Same H1 (upd (upd (upd H1 dx (.own x)) x (.ins (CT K) dx [])) p (.tup (as.map V.ref))) := fun b o e => by
    rw [upd_ne (ne_of_none e hp1), upd_ne (ne_of_none e hx), upd_ne (ne_of_none e hdx)]
    exact e
  refine ⟨x, dx, p, as, st, rfl, by rw [upd_ne npx.symm, upd_same], .inl (.inl upd_same), hst.same s1, good, few, fun H2 sp ss b hx2 hsp hss => ⟨rfl, ?_⟩⟩
  have s2 : Same H1 H2 := fun b' o e => b b' o (ne_of_none e hx) (s1 _ _ e)
  refine q x H2 hx s2 ⟨good, few, dx, p, sp, as, ss, hx2, ?_, hst.same s2, hsp, hss⟩
  exact .inl (.inl (b _ _ npx upd_same))
def spOf (K : Fr) : Sp := fun vs H Q _ => ∃ (l : Addr) (as : List Addr) (st : List Stp), vs = [.ref (CT K), .ref l] ∧ H l = some (.lst (as.map V.ref)) ∧ StepsAt K H as st ∧ Goes most 0 st ∧ st.length ≤ 30 ∧ ∀ x H2, H x = none → Same H H2 → TA_ K H2 x st → Q (.ref x) H2
def spSize (K : Fr) : Sp := fun vs H Q _ => ∃ x st, vs = [.ref x] ∧ TA_ K H x st ∧ Q (.int (sz st)) H
def spTyped (K : Fr) : Sp := fun vs H Q _ => ∃ x st, vs = [.ref x] ∧ TA_ K H x st ∧ Q (.str (sL (typed st))) H
def spCheck (K : Fr) : Sp := fun vs H Q _ => ∃ (x : Addr) (p : Nat) (st : List Stp), vs = [.ref x, .int p] ∧ TA_ K H x st ∧ p < sz st ∧ Q .non H
def spCall (K : Fr) : Sp := fun vs H Q _ => ∃ (x : Addr) (p : Nat) (st : List Stp), vs = [.ref x, .int p] ∧ TA_ K H x st ∧ p < sz st ∧ ∀ (k : Nat) H2, Same H H2 → (ex st)[p]? = some k → Q (.int k) H2
section
variable {P : Program} {w : World} {K : Fr} {mg : Str → Option Value} {base : Heap} {f : Addr}
theorem scOf : FnScope ["cls", "steps"] ["cls", "steps"] (defScope sOf) := ⟨rfl, rfl, rfl, by decide +kernel, rfl, by decide +kernel, by decide +kernel⟩
theorem ok_of (D : Df K "of_steps" "Text.of_steps" sOf f) (T : Tc w K mg) (GI : FnR P w K mg base CX0 5 (ma K (CT K) "__init__") (spInit5 K)) : Kp P w K mg base 7 f (spOf K) := by
  refine kp_of D scOf (fun _ _ _ _ _ _ us hl => match us, hl with | [_, _], _ => rfl) ?_ (fun cdv A outer s H vs Q E hr h => ?_)
  · rintro vs H Q E ⟨l, as, st, rfl, _⟩
    rfl
  · obtain ⟨l, as, st, rfl, hl, hst, good, few, q⟩ := h
    refine ⟨_, (pss_cons (ps_if (pt_not (pt_val (pe_callB call_isiT (by rfl) T.isi boot_isinstance (pa_cons (pv 1) (pa_cons (pe_tup (pa_cons (pe_ty T.lst b_list) (pa_cons (pe_ty T.tup b_tuple) pa_nil))) pa_nil))))) pss_never pss_nil) (pss_one (ps_ret (pe_makeSL T.mkT GI hr (i := 0) rfl (Or.inl rfl) pass0 (pv 1))))), ?_⟩
    refine ⟨_, rfl, (by show 2 ≤ sizeLine; decide), fun p hp => ?_⟩
    have s1 : Same H (upd H p (.tup [.ty "list", .ty "tuple"])) := same_upd hp
    refine ⟨.ref l, p, [.ty "list", .ty "tuple"], .type "list", [.type "list", .type "tuple"], true, rfl, upd_same, .cons (.ty _) (.cons (.ty _) .nil), .base (.lst (s1 _ _ hl)), ?_, true, rfl, ?_⟩
    · exact kitAny_cons (b := true) (kit_ty rfl) (fun z => by cases z) (fun _ => rfl)
    refine iteF ?_
    refine ⟨rfl, _, rfl, l, _, rfl, .inr (SqL.of (s1 _ _ hl)), ?_⟩
    exact make_text T.csct (hst.same s1) good few fun x H2 hx s2 t => q x H2 (s1.free hx) (s1.trans s2) t
theorem scSize : FnScope ["self"] ["self"] (defScope sSize) := ⟨rfl, rfl, rfl, by decide +kernel, rfl, by decide +kernel, by decide +kernel⟩
theorem ok_size (D : Df K "size" "Text.size" sSize f) (T : Tc w K mg) : Kp P w K mg base 1 f (spSize K) := by
  refine kp_of D scSize (fun _ _ _ _ _ _ us hl => match us, hl with | [_], _ => rfl) ?_ (fun cdv A outer s H vs Q E hr h => ?_)
  · rintro vs H Q E ⟨x, st, rfl, _⟩
    rfl
  · obtain ⟨x, st, rfl, t, q⟩ := h
    obtain ⟨dx, ts, sp, as, ss, hx, _⟩ := t.obj
    exact ⟨_, (pss_one (ps_ret (pe_fld (pv 0) rfl))), _, rfl, x, _, dx, _, _, rfl, hx, T.clT, T.nT3, rfl, q⟩
theorem scTyped : FnScope ["self"] ["self"] (defScope sTyped) := ⟨rfl, rfl, rfl, by decide +kernel, rfl, by decide +kernel, by decide +kernel⟩
theorem ok_typed (D : Df K "typed_keys" "Text.typed_keys" sTyped f) (T : Tc w K mg) : Kp P w K mg base 1 f (spTyped K) := by
  refine kp_of D scTyped (fun _ _ _ _ _ _ us hl => match us, hl with | [_], _ => rfl) ?_ (fun cdv A outer s H vs Q E hr h => ?_)
  · rintro vs H Q E ⟨x, st, rfl, _⟩
    rfl
  · obtain ⟨x, st, rfl, t, q⟩ := h
    obtain ⟨dx, ts, sp, as, ss, hx, _⟩ := t.obj
    exact ⟨_, (pss_one (ps_ret (pe_fld (pv 0) rfl))), _, rfl, x, _, dx, _, _, rfl, hx, T.clT, T.nT4, rfl, q⟩
theorem scCheck : FnScope ["self", "place"] ["self", "place"] (defScope sCheck) := ⟨rfl, rfl, rfl, by decide +kernel, rfl, by decide +kernel, by decide +kernel⟩
theorem ok_check (D : Df K "_check_place" "Text._check_place" sCheck f) (T : Tc w K mg) (GN : Kp P w K mg base 1 (ga K "is_number") spIsNumber) : Kp P w K mg base 2 f (spCheck K) := by
  refine kp_of D scCheck (fun _ _ _ _ _ _ us hl => match us, hl with | [_, _], _ => rfl) ?_ (fun cdv A outer s H vs Q E hr h => ?_)
  · rintro vs H Q E ⟨x, p, st, rfl, _⟩
    rfl
  · obtain ⟨x, p, st, rfl, t, hp, q⟩ := h
    obtain ⟨dx, ts, sp, as, ss, hx, _⟩ := t.obj
    refine ⟨_, (pss_one (ps_if (pt_not (pt_val (pk_call GN hr T.gIsNumber (pa_cons (pv 1) (pa_cons pe_int (pa_cons (pe_op op_sub (pe_fld (pv 0) rfl) pe_int) pa_nil)))))) pss_never pss_nil)), ?_⟩
    refine ⟨_, rfl, _, rfl, x, _, dx, _, _, rfl, hx, T.clT, T.nT3, rfl, _, _, rfl, rfl, .int p, 0, _, rfl, rfl, ?_⟩
    have e : isNum (.int (p : Int)) 0 ((sz st : Int) - 1) = true := by
      show (decide ((0 : Int) ≤ p) && decide ((p : Int) ≤ (sz st : Int) - 1)) = true
      rw [decide_eq_true (by omega), decide_eq_true (by omega)]
      rfl
    refine ⟨true, congrArg V.bl e, ?_⟩
    exact q
theorem scCall : FnScope ["self", "place"] ["self", "place"] (defScope sCall) := ⟨rfl, rfl, rfl, by decide +kernel, rfl, by decide +kernel, by decide +kernel⟩
theorem lk_check (ts sp : Addr) (st : List Stp) : (txF ts sp st).lookup ("_check_place" : Str) = none := by rfl
theorem ok_call (D : Df K "__call__" "Text.__call__" sCall f) (T : Tc w K mg) (GC : Kp P w K mg base 2 (ma K (CT K) "_check_place") (spCheck K)) (GK : Kp P w K mg base 1 (ga K "key_at") (spKeyAt K)) : Kp P w K mg base 3 f (spCall K) := by
  obtain ⟨fdC, psC, FC, bC, kpC⟩ := GC
  refine kp_of D scCall (fun _ _ _ _ _ _ us hl => match us, hl with | [_, _], _ => rfl) ?_ (fun cdv A outer s H vs Q E hr h => ?_)
  · rintro vs H Q E ⟨x, p, st, rfl, _⟩
    rfl
  · obtain ⟨x, p, st, rfl, t, hp, q⟩ := h
    obtain ⟨dx, ts, sp, as, ss, hx, _, _, hsp, hss⟩ := t.obj
    refine ⟨_, (pss_cons (ps_expr (pe_meth (pv 0) T.clT T.mCheck FC hr bC .nil pass0 (pa_cons (pv 1) pa_nil))) (pss_one (ps_ret (pk_call GK (hr.mono (by decide)) T.gKeyAt (pa_cons (pe_fld (pv 0) rfl) (pa_cons (pv 1) pa_nil)))))), ?_⟩
    refine ⟨_, rfl, x, dx, _, rfl, hx, lk_check _ _ _, _, rfl, x, p, st, rfl, t, hp, ?_⟩
    exact ⟨_, rfl, x, _, dx, _, _, rfl, hx, T.clT, T.nT2, rfl, _, rfl, sp, p, ss, st, rfl, hsp, hss, t.good, hp, q⟩
end
end KL
namespace KL
open PySem PySem.Spec PyProof.Rows L2 Pk He
/-! ### sums and multiples in plain Lean -/
def plus (a b : List Stp) : List Stp := a ++ b.map (mv (sz a))
theorem mv_gr (s : Nat) (x : Stp) : (mv s x).gr = x.gr := by
  cases x with
  | wr w => rfl
  | pa f l t =>
    show (l + s + 1 - (f + s)) * t = (l + 1 - f) * t
    rw [show l + s + 1 - (f + s) = l + 1 - f by omega]
theorem mv_ks (s : Nat) (x : Stp) : (mv s x).ks = x.ks := by cases x <;> rfl
theorem mv_ty (s : Nat) (x : Stp) : (mv s x).ty = x.ty := by cases x <;> rfl
theorem mv_ok {s n : Nat} {x : Stp} (h : x.ok n = true) : (mv s x).ok (s + n) = true := by
  cases x with
  | wr w => exact h
  | pa f l t =>
    simp [Stp.ok] at h
    simp [mv, Stp.ok]
    omega
theorem sz_mv (s : Nat) (b : List Stp) : sz (b.map (mv s)) = sz b := by
  unfold sz
  rw [List.map_map]
  congr 1
  exact List.map_congr_left fun x _ => mv_gr s x
theorem nk_mv (s : Nat) (b : List Stp) : nk (b.map (mv s)) = nk b := by
  unfold nk
  rw [List.map_map]
  congr 1
  exact List.map_congr_left fun x _ => mv_ks s x
theorem goes_mv {m s : Nat} : ∀ {n : Nat} {b : List Stp}, Goes m n b → s + n + sz b ≤ m → Goes m (s + n) (b.map (mv s))
  | _, [], _, _ => trivial
  | n, x :: r, h, hl => by
    rw [sz_cons] at hl
    refine ⟨mv_ok h.1, by rw [mv_gr]; omega, ?_⟩
    have ih := goes_mv (s := s) h.2.2 (by omega)
    rw [mv_gr, Nat.add_assoc]
    exact ih
theorem goes_plus {a b : List Stp} (ha : Goes most 0 a) (hb : Goes most 0 b) (hl : sz a + sz b ≤ most) : Goes most 0 (plus a b) := by
  refine goes_app.mpr ⟨ha, ?_⟩
  rw [Nat.zero_add]
  exact goes_mv (s := sz a) (n := 0) hb (by omega)
theorem sz_plus (a b : List Stp) : sz (plus a b) = sz a + sz b := by
  unfold plus
  rw [sz_app, sz_mv]
/-- times n, at least twice -/
def timesL (a : List Stp) (n : Nat) : List Stp := a ++ [.pa 0 (sz a - 1) (n - 1)]
theorem gr_pos {s : Nat} {x : Stp} (h : x.ok s = true) : 0 < x.gr := by
  cases x with
  | wr w =>
    simp [Stp.ok] at h
    exact h.1.1
  | pa f l t =>
    simp [Stp.ok] at h
    exact Nat.mul_pos (by omega) (by omega)
theorem sz_pos {a : List Stp} (ha : Goes most 0 a) (h : a ≠ []) : 0 < sz a := by
  cases a with
  | nil => exact absurd rfl h
  | cons x r =>
    rw [sz_cons]
    have := gr_pos ha.1
    omega
theorem sz_times {a : List Stp} {n : Nat} (ha : Goes most 0 a) (h : a ≠ []) (hn : 2 ≤ n) : sz (timesL a n) = n * sz a := by
  have h0 := sz_pos ha h
  unfold timesL
  rw [sz_app, sz_cons]
  show sz a + ((sz a - 1 + 1 - 0) * (n - 1) + 0) = n * sz a
  rw [show sz a - 1 + 1 - 0 = sz a by omega]
  obtain ⟨m, rfl⟩ : ∃ m, n = m + 1 := ⟨n - 1, by omega⟩
  rw [Nat.add_sub_cancel, Nat.add_mul, Nat.one_mul, Nat.add_zero, Nat.mul_comm (sz a) m, Nat.add_comm]
theorem goes_times {a : List Stp} {n : Nat} (ha : Goes most 0 a) (h : a ≠ []) (hn : 2 ≤ n) (hm : n ≤ 1000000000) (hl : n * sz a ≤ most) : Goes most 0 (timesL a n) := by
  have h0 := sz_pos ha h
  have hs := sz_times ha h hn
  refine goes_app.mpr ⟨ha, ?_, ?_, trivial⟩
  · simp [Stp.ok]
    omega
  · unfold timesL at hs
    rw [sz_app, sz_cons] at hs
    have hz : sz ([] : List Stp) = 0 := rfl
    rw [hz] at hs
    omega
/-! ### other letters -/
def relet (ls : List Nat) : Nat → List Stp → List Stp
  | _, [] => []
  | n, .wr w :: r => .wr ((ls.drop n).take w.length) :: relet ls (n + w.length) r
  | n, .pa f l t :: r => .pa f l t :: relet ls n r
theorem relet_len (ls : List Nat) : ∀ (n : Nat) (st : List Stp), (relet ls n st).length = st.length
  | _, [] => rfl
  | n, .wr w :: r => congrArg (· + 1) (relet_len ls (n + w.length) r)
  | n, .pa f l t :: r => congrArg (· + 1) (relet_len ls n r)
theorem relet_app (ls : List Nat) : ∀ (n : Nat) (a b : List Stp), relet ls n (a ++ b) = relet ls n a ++ relet ls (n + nk a) b
  | n, [], b => by simp [relet, nk]
  | n, .wr w :: a, b => by
    show _ :: relet ls (n + w.length) (a ++ b) = _ :: (relet ls (n + w.length) a ++ _)
    rw [relet_app ls (n + w.length) a b]
    simp [nk, Stp.ks, Nat.add_assoc]
  | n, .pa f l t :: a, b => by
    show _ :: relet ls n (a ++ b) = _ :: (relet ls n a ++ _)
    rw [relet_app ls n a b]
    simp [nk, Stp.ks]
/-- one step with other letters -/
def rel1 (ls : List Nat) (n : Nat) : Stp → Stp
  | .wr w => .wr ((ls.drop n).take w.length)
  | .pa f l t => .pa f l t
theorem relet_take (ls : List Nat) {st : List Stp} {i : Nat} {x : Stp} (h : st[i]? = some x) : relet ls 0 (st.take (i + 1)) = relet ls 0 (st.take i) ++ [rel1 ls (nk (st.take i)) x] := by
  rw [take_succ h, relet_app, Nat.zero_add]
  cases x <;> rfl
theorem rel1_gr {ls : List Nat} {n : Nat} {x : Stp} (h : n + x.ks ≤ ls.length) : (rel1 ls n x).gr = x.gr := by
  cases x with
  | wr w =>
    show ((ls.drop n).take w.length).length = w.length
    have h2 : n + w.length ≤ ls.length := h
    rw [List.length_take, List.length_drop]
    omega
  | pa f l t => rfl
theorem rel1_ok {ls : List Nat} {n s : Nat} {x : Stp} (h : n + x.ks ≤ ls.length) (hl : ls.all isLet = true) (ok : x.ok s = true) : (rel1 ls n x).ok s = true := by
  cases x with
  | wr w =>
    have hg : ((ls.drop n).take w.length).length = w.length := rel1_gr (x := .wr w) h
    simp only [Stp.ok, Bool.and_eq_true, decide_eq_true_eq] at ok
    show (decide (1 ≤ ((ls.drop n).take w.length).length) && decide (((ls.drop n).take w.length).length ≤ 20) && ((ls.drop n).take w.length).all isLet) = true
    rw [hg, decide_eq_true ok.1.1, decide_eq_true ok.1.2]
    rw [List.all_eq_true] at hl
    simp only [Bool.and_self, Bool.true_and, List.all_eq_true]
    intro c hc
    exact hl c (List.mem_of_mem_drop (List.mem_of_mem_take hc))
  | pa f l t => exact ok
theorem goes_relet {m : Nat} {ls : List Nat} (hl : ls.all isLet = true) : ∀ {s n : Nat} {st : List Stp}, Goes m s st → n + nk st ≤ ls.length → Goes m s (relet ls n st)
  | _, _, [], _, _ => trivial
  | s, n, x :: r, h, hn => by
    have e : nk (x :: r) = x.ks + nk r := by simp [nk]
    rw [e] at hn
    have h1 : n + x.ks ≤ ls.length := by omega
    have e2 : relet ls n (x :: r) = rel1 ls n x :: relet ls (n + x.ks) r := by cases x <;> rfl
    rw [e2]
    refine ⟨rel1_ok h1 hl h.1, by rw [rel1_gr h1]; exact h.2.1, ?_⟩
    rw [rel1_gr h1]
    exact goes_relet hl h.2.2 (by omega)
def spAdd (K : Fr) : Sp := fun vs H Q _ => ∃ (x y : Addr) (a b : List Stp), vs = [.ref x, .ref y] ∧ TA_ K H x a ∧ TA_ K H y b ∧ sz a + sz b ≤ most ∧ a.length + b.length ≤ 30 ∧ ∀ z H2, H z = none → Same H H2 → TA_ K H2 z (plus a b) → Q (.ref z) H2
def spMul (K : Fr) : Sp := fun vs H Q _ => ∃ (x : Addr) (n : Nat) (a : List Stp), vs = [.ref x, .int n] ∧ 1 ≤ n ∧ n ≤ 1000000000 ∧ TA_ K H x a ∧ (n = 1 ∨ a = [] → Q (.ref x) H) ∧
  (2 ≤ n → a ≠ [] → n * sz a ≤ most ∧ a.length < 30 ∧ ∀ z H2, H z = none → Same H H2 → TA_ K H2 z (timesL a n) → Q (.ref z) H2)
def spWith (K : Fr) : Sp := fun vs H Q _ => ∃ (x : Addr) (ls : List Nat) (st : List Stp), vs = [.ref x, .str (sL ls)] ∧ TA_ K H x st ∧ ls.length = nk st ∧ ls.all isLet = true ∧ ∀ z H2, H z = none → Same H H2 → TA_ K H2 z (relet ls 0 st) → Q (.ref z) H2
theorem yes_go {te : TE} {σ : L2.St} {H : Hp} {N : VK} {N0 : Hp → Prop} (h : te σ H N) : tYes σ H fun b H3 => if b = true then te σ H3 N else N0 H3 := by
  show (if true = true then te σ H N else N0 H)
  rw [if_pos rfl]
  exact h
/-! ### a list changes, texts stand -/
theorem sqT_butL {K : Fr} {H H2 : Hp} {r a : Addr} {ys xs : List V} (hr : H r = some (.lst ys)) (b : But r H H2) (h : SqT K H a xs) : SqT K H2 a xs := by
  rcases h with (h | ⟨o, h⟩) | h
  · exact .inl (.inl (b _ _ (ne_of h hr (by intro z; cases z)) h))
  · exact .inl (.inr ⟨o, b _ _ (ne_of h hr (by intro z; cases z)) h⟩)
  · exact .inr h
theorem steps_butL {K : Fr} {H H2 : Hp} {r : Addr} {ys : List V} {as : List Addr} {st : List Stp} (hr : H r = some (.lst ys)) (b : But r H H2) (h : StepsAt K H as st) : StepsAt K H2 as st :=
  ⟨h.len, fun i x hx => let ⟨a, h1, h2⟩ := h.at_ i x hx; ⟨a, h1, sqT_butL hr b h2⟩⟩
theorem spans_butL {CS : Addr} {H H2 : Hp} {r : Addr} {ys : List V} {ss : List Addr} {st : List Stp} (hr : H r = some (.lst ys)) (b : But r H H2) (h : SpansAt CS H ss st) : SpansAt CS H2 ss st :=
  ⟨h.len, fun i x hx => let ⟨a, dx, h1, h2⟩ := h.at_ i x hx; ⟨a, dx, h1, b _ _ (ne_of h2 hr (by intro z; cases z)) h2⟩⟩
theorem text_butL {K : Fr} {H H2 : Hp} {r x : Addr} {ys : List V} {st : List Stp} (hr : H r = some (.lst ys)) (b : But r H H2) (h : TA_ K H x st) : TA_ K H2 x st := by
  obtain ⟨dx, ts, sp, as, ss, h1, h2, h3, h4, h5⟩ := h.obj
  exact ⟨h.good, h.few, dx, ts, sp, as, ss, b _ _ (ne_of h1 hr (by intro z; cases z)) h1, sqT_butL hr b h2, steps_butL hr b h3, sqT_butL hr b h4, spans_butL hr b h5⟩
theorem steps_app {K : Fr} {H : Hp} {as bs : List Addr} {a b : List Stp} (h1 : StepsAt K H as a) (h2 : StepsAt K H bs b) : StepsAt K H (as ++ bs) (a ++ b) := by
  refine ⟨by rw [List.length_append, List.length_append, h1.len, h2.len], fun i x hx => ?_⟩
  by_cases hi : i < a.length
  · rw [List.getElem?_append_left hi] at hx
    rw [List.getElem?_append_left (by rw [h1.len]; exact hi)]
    exact h1.at_ i x hx
  · rw [List.getElem?_append_right (by omega)] at hx
    rw [List.getElem?_append_right (by rw [h1.len]; omega), h1.len]
    exact h2.at_ _ x hx
section
variable {P : Program} {w : World} {K : Fr} {mg : Str → Option Value} {base : Heap} {f : Addr}
theorem scAdd : FnScope ["self", "other", "moved", "steps", "step"] ["self", "other"] (defScope sAdd) := ⟨rfl, rfl, rfl, by decide +kernel, rfl, by decide +kernel, by decide +kernel⟩
theorem ok_add (D : Df K "__add__" "Text.__add__" sAdd f) (T : Tc w K mg) (GI : FnR P w K mg base CX0 5 (ma K (CT K) "__init__") (spInit5 K)) (GM : Kp P w K mg base 1 (ga K "moved_step") (spMoved K)) : Kp P w K mg base 7 f (spAdd K) := by
  refine kp_of D scAdd (fun _ _ _ _ _ _ us hl => match us, hl with | [_, _], _ => rfl) ?_ (fun cdv A outer s H vs Q E hr h => ?_)
  · rintro vs H Q E ⟨x, y, a, b, rfl, _⟩
    rfl
  · obtain ⟨x, y, a, b, rfl, ta, tb, hl, few, q⟩ := h
    obtain ⟨dx, ts, sp, as, ss, hx, hts, hst, _⟩ := ta.obj
    obtain ⟨dy, ts2, sp2, as2, ss2, hy, hts2, hst2, _⟩ := tb.obj
    refine ⟨_, (pss_cons (ps_if (pt_not (pt_val (pe_callB (C8.call_isC T.insT) (by rfl) T.isi boot_isinstance (pa_cons (pv 1) (pa_cons (pe_gR T.gText) pa_nil))))) pss_never pss_nil) (pss_cons (ps_setLc (i := 2) (own := [("step", 4)]) (g := gName 4) (tt := tYes) rfl scAdd.nd rfl rfl (sw_true rfl rfl rfl (by decide +kernel)) (pi_tup (pe_fld (pv 1) rfl)) (blkOk_by (N := ["self", "other", "moved", "steps", "step"]) (sc := defScope sAdd) (by decide +kernel)) (fun _ _ _ _ _ => (pg_name (i := 4) scAdd.nd rfl (Or.inl rfl))) (fun _ _ _ _ _ => pts_nil) (fun _ _ _ _ _ => (pk_call GM (hr.mono (by decide)) T.gMoved (pa_cons (pv 4) (pa_cons (fldK K (pv 0)) pa_nil))))) (pss_cons (ps_set (i := 3) scAdd.nd rfl (Or.inl rfl) (pe_lst (StX.pa_star (pe_fld (pv 0) rfl) (StX.pa_star (pv 2) pa_nil)))) (pss_one (ps_ret (pe_makeS T.mkT GI hr rfl T.gText pass0 (pv 3))))))), ?_⟩
    refine ⟨_, rfl, y, dy, _, rfl, hy, true, rfl, ?_⟩
    refine iteF ?_
    refine ⟨_, rfl, y, _, dy, _, _, rfl, hy, T.clT, T.nT1, rfl, ts2, rfl, ⟨_, hts2⟩, fun D hD => ?_⟩
    have hn : (as2.map V.ref).length = b.length := by rw [List.length_map, hst2.len]
    refine lc_it (walk_tup (xs := as2.map V.ref)) (fun i H2 => Same H H2 ∧ ∃ bs, H2 D = some (.lst (bs.map V.ref)) ∧ StepsAt K H2 bs ((b.take i).map (mv (sz a)))) ⟨same_upd hD, [], upd_same, StepsAt.nil⟩ (fun i H2 _ p => same_sqT p.1 hts2) ?_ ?_
    · rintro i v H2 H3 hi ⟨s2, bs, hD2, hbs⟩ ⟨rfl, hv⟩
      rw [hn] at hi
      obtain ⟨z, hz⟩ : ∃ z, b[i]? = some z := ⟨b[i], List.getElem?_eq_getElem hi⟩
      obtain ⟨c, hc, hcz⟩ := hst2.at_ i z hz
      have ev : v = .ref c := map_at hc hv
      subst ev
      refine ⟨rfl, yes_go ?_⟩
      refine ⟨_, rfl, _, rfl, x, _, dx, _, _, rfl, s2 _ _ hx, T.clT, T.nT3, rfl, c, z, sz a, rfl, same_sqT s2 hcz, fun m H4 s4 hm => ?_⟩
      have hD4 := s4 _ _ hD2
      refine ⟨_, hD4, ?_, ?_, bs ++ [m], by rw [upd_same, List.map_append]; rfl, ?_⟩
      · rw [List.length_map, hbs.len, List.length_map, List.length_take]
        exact Nat.lt_of_le_of_lt (Nat.le_trans (Nat.min_le_right _ _) tb.few) (by decide)
      · intro q o e
        rw [upd_ne (ne_of_none e hD)]
        exact s4 _ _ (s2 _ _ e)
      · rw [take_succ hz, List.map_append]
        exact (steps_butL hD4 but_upd (hbs.same s4)).snoc (sqT_butL hD4 but_upd hm)
    · rintro H2 ⟨s2, bs, hD2, hbs⟩
      rw [hn, List.take_length] at hbs
      refine ⟨_, rfl, x, _, dx, _, _, rfl, s2 _ _ hx, T.clT, T.nT1, rfl, ts, _, rfl, .inl (same_sqT s2 hts), _, rfl, D, _, rfl, .inr (SqL.of hD2), ?_, fun p hp => ?_⟩
      · rw [List.append_nil, List.length_append, List.length_map, List.length_map, hst.len, hbs.len, List.length_map]
        exact Nat.le_trans few (by decide)
      · have e : as.map V.ref ++ (bs.map V.ref ++ []) = (as ++ bs).map V.ref := by simp
        rw [e]
        have s3 : Same H2 (upd H2 p (.lst ((as ++ bs).map V.ref))) := same_upd hp
        refine ⟨_, rfl, p, _, rfl, .inr (SqL.of upd_same), ?_⟩
        refine make_text T.csct (st := plus a b) (steps_app (hst.same (s2.trans s3)) (hbs.same s3)) (goes_plus ta.good tb.good hl) (by unfold plus; rw [List.length_append, List.length_map]; exact few) fun z H4 hz s4 t => ?_
        exact q z H4 ((s2.trans s3).free hz) (s2.trans (s3.trans s4)) t
end
end KL
namespace KL
open PySem PySem.Spec PyProof.Rows L2 Pk He
theorem dec_int_t {i j : Int} (h : i = j) : decide (V.int i = V.int j) = true := decide_eq_true (by rw [h])
theorem dec_int_f {i j : Int} (h : i ≠ j) : decide (V.int i = V.int j) = false := decide_eq_false (fun z => h (by injection z))
section
variable {P : Program} {w : World} {K : Fr} {mg : Str → Option Value} {base : Heap} {f : Addr}
theorem scMul : FnScope ["self", "other", "steps"] ["self", "other"] (defScope sMul) := ⟨rfl, rfl, rfl, by decide +kernel, rfl, by decide +kernel, by decide +kernel⟩
theorem ok_mul (D : Df K "__mul__" "Text.__mul__" sMul f) (T : Tc w K mg) (GI : FnR P w K mg base CX0 5 (ma K (CT K) "__init__") (spInit5 K)) (GN : Kp P w K mg base 1 (ga K "is_number") spIsNumber) : Kp P w K mg base 7 f (spMul K) := by
  refine kp_of D scMul (fun _ _ _ _ _ _ us hl => match us, hl with | [_, _], _ => rfl) ?_ (fun cdv A outer s H vs Q E hr h => ?_)
  · rintro vs H Q E ⟨x, n, a, rfl, _⟩
    rfl
  · obtain ⟨x, n, a, rfl, h1, h2, ta, q1, q2⟩ := h
    obtain ⟨dx, ts, sp, as, ss, hx, hts, hst, _⟩ := ta.obj
    obtain ⟨tm, hMT⟩ := T.mostTimes
    have e : isNum (.int (n : Int)) 1 1000000000 = true := by
      show (decide ((1 : Int) ≤ n) && decide ((n : Int) ≤ 1000000000)) = true
      rw [decide_eq_true (by omega), decide_eq_true (by omega)]
      rfl
    refine ⟨_, (pss_cons (ps_if (pt_not (pt_val (pk_call GN (hr.mono (by decide)) T.gIsNumber (pa_cons (pv 1) (pa_cons pe_int (pa_cons (pe_gI hMT) pa_nil)))))) pss_never pss_nil) (pss_cons (ps_if (pw_or (pt_cmpR op_eq (pv 1) pe_int (nomark _)) (pw_or1 (pt_cmpR op_eq (pe_fld (pv 0) rfl) pe_int (nomark _)))).pt (pss_one (ps_ret (pv 0))) pss_nil) (pss_cons (ps_set (i := 2) scMul.nd rfl (Or.inl rfl) (pe_lst (StX.pa_star (pe_fld (pv 0) rfl) (pa_cons (pe_tup (pa_cons pe_str (pa_cons pe_int (pa_cons (pe_op op_sub (pe_fld (pv 0) rfl) pe_int) (pa_cons (pe_op op_sub (pv 1) pe_int) pa_nil))))) pa_nil)))) (pss_one (ps_ret (pe_makeS T.mkT GI hr rfl T.gText pass0 (pv 2))))))), ?_⟩
    refine ⟨_, rfl, .int n, 1, _, rfl, rfl, true, congrArg V.bl e, ?_⟩
    refine iteF ?_
    refine ⟨_, rfl, rfl, _, rfl, ?_⟩
    by_cases hn : n = 1
    · rw [dec_int_t (by omega)]
      refine iteT ?_
      exact ⟨_, rfl, q1 (.inl hn)⟩
    · rw [dec_int_f (by omega)]
      refine iteF ?_
      refine ⟨_, rfl, x, _, dx, _, _, rfl, hx, T.clT, T.nT3, rfl, rfl, _, rfl, ?_⟩
      by_cases ha : a = []
      · subst ha
        refine iteT ?_
        exact ⟨_, rfl, q1 (.inr rfl)⟩
      · have hz := sz_pos ta.good ha
        obtain ⟨hl, few, q⟩ := q2 (by omega) ha
        rw [dec_int_f (show ((sz a : Nat) : Int) ≠ 0 by omega)]
        refine iteF ?_
        refine ⟨_, rfl, x, _, dx, _, _, rfl, hx, T.clT, T.nT1, rfl, ts, _, rfl, .inl hts, _, rfl, x, _, dx, _, _, rfl, hx, T.clT, T.nT3, rfl, _, _, rfl, rfl, _, rfl, _, _, rfl, rfl, (by show 4 ≤ sizeLine; decide), fun p hp => ?_⟩
        have s1 : Same H (upd H p (.tup [.str "paste", .int 0, .int ((sz a : Int) - 1), .int ((n : Int) - 1)])) := same_upd hp
        generalize hH1 : upd H p (.tup [.str "paste", .int 0, .int ((sz a : Int) - 1), .int ((n : Int) - 1)]) = H1 at s1
        have hp1 : SqT K H1 p (stV (.pa 0 (sz a - 1) (n - 1))) := by
          rw [← hH1]
          refine .inl (.inl ?_)
          rw [upd_same]
          show some (HO.tup [.str "paste", .int 0, .int ((sz a : Int) - 1), .int ((n : Int) - 1)]) = some (HO.tup [.str "paste", .int ((0 : Nat) : Int), .int ((sz a - 1 : Nat) : Int), .int ((n - 1 : Nat) : Int)])
          rw [show ((sz a : Int) - 1) = ((sz a - 1 : Nat) : Int) by omega, show ((n : Int) - 1) = ((n - 1 : Nat) : Int) by omega]
          rfl
        refine ⟨?_, fun l hl1 => ?_⟩
        · rw [List.length_append, List.length_map, hst.len]
          exact Nat.le_trans (show a.length + 1 ≤ 30 by omega) (by decide)
        · have e2 : as.map V.ref ++ [V.ref p] = (as ++ [p]).map V.ref := by simp
          rw [e2]
          have s2 : Same H1 (upd H1 l (.lst ((as ++ [p]).map V.ref))) := same_upd hl1
          refine ⟨_, rfl, l, _, rfl, .inr (SqL.of upd_same), ?_⟩
          refine make_text T.csct (st := timesL a n) ((hst.same (s1.trans s2)).snoc (same_sqT s2 hp1)) (goes_times ta.good ha (by omega) h2 hl) (by unfold timesL; rw [List.length_append]; exact few) fun z H4 hz s4 t => ?_
          exact q z H4 ((s1.trans s2).free hz) (s1.trans (s2.trans s4)) t
end
end KL
namespace KL
open PySem PySem.Spec PyProof.Rows L2 Pk He
/-- the law's row of draws at r: the script, how far it is read, the seed, what is held -/
def RowAt (K : Fr) (S : Addr × List Int) (H : Hp) (r : Addr) : Prop := ∃ (i seed held : Int), H r = some (.lst [.ref S.1, .int i, .int seed, .int held]) ∧ SqL K H S.1 (S.2.map V.int) ∧ 0 ≤ i ∧ 0 ≤ seed ∧ seed < 2147483647 ∧ 0 ≤ held ∧ ∀ (H1 : Hp) (o : HO), SqL K H1 S.1 (S.2.map V.int) → SqL K (upd H1 r o) S.1 (S.2.map V.int)
theorem RowAt.same {K : Fr} {S : Addr × List Int} {H H2 : Hp} {r : Addr} (h : RowAt K S H r) (s : Same H H2) : RowAt K S H2 r := by
  obtain ⟨i, sd, hd, h1, h2, h3⟩ := h
  exact ⟨i, sd, hd, s _ _ h1, s.seq h2, h3⟩
theorem RowAt.lst {K : Fr} {S : Addr × List Int} {H : Hp} {r : Addr} (h : RowAt K S H r) : ∃ xs, H r = some (.lst xs) := by
  obtain ⟨i, sd, hd, h1, h2, h3⟩ := h
  exact ⟨_, h1⟩
theorem sqL_upd {K : Fr} {H : Hp} {r a : Addr} {o : HO} {xs : List V} (hne : a ≠ r) (h : SqL K H a xs) : SqL K (upd H r o) a xs := by
  rcases h with (h | ⟨u, h⟩) | h
  · exact .inl (.inl (by rw [upd_ne hne]; exact h))
  · exact .inl (.inr ⟨u, by rw [upd_ne hne]; exact h⟩)
  · exact .inr h
/-- what a draw is worth: any number below the bound; all but the row stands -/
def Draws (K : Fr) (S : Addr × List Int) (r : Addr) (H : Hp) (m : Int) (Q : VK) : Prop := ∀ (v : Int) (H2 : Hp), RowAt K S H2 r → But r H H2 → 0 ≤ v → v < m → Q (.int v) H2
def spTaken (K : Fr) : Sp := fun vs H Q _ => ∃ (r : Addr) (m : Int), vs = [.ref r, .int m] ∧ ∃ S : Addr × List Int, RowAt K S H r ∧ 0 < m ∧ m < 1073741824 ∧ Draws K S r H m Q
/-- the letters that are drawn -/
def isAz (c : Nat) : Bool := decide (c = 97) || decide (c = 98) || decide (c = 99) || decide (c = 122)
section
variable {K : Fr} {S : Addr × List Int}
theorem sqT_row {H H2 : Hp} {r a : Addr} {xs : List V} (h : RowAt K S H r) (b : But r H H2) (t : SqT K H a xs) : SqT K H2 a xs := let ⟨_, hx⟩ := h.lst; sqT_butL hx b t
theorem steps_row {H H2 : Hp} {r : Addr} {as : List Addr} {st : List Stp} (h : RowAt K S H r) (b : But r H H2) (t : StepsAt K H as st) : StepsAt K H2 as st := let ⟨_, hx⟩ := h.lst; steps_butL hx b t
theorem text_row {H H2 : Hp} {r x : Addr} {st : List Stp} (h : RowAt K S H r) (b : But r H H2) (t : TA_ K H x st) : TA_ K H2 x st := let ⟨_, hx⟩ := h.lst; text_butL hx b t
theorem row_ne {H : Hp} {r p : Addr} (h : RowAt K S H r) (hp : H p = none) : p ≠ r := fun e => by
  obtain ⟨xs, hx⟩ := h.lst
  rw [e, hx] at hp
  cases hp
theorem RowAt.upd {H : Hp} {r p : Addr} {o : HO} (h : RowAt K S H r) (hp : H p = none) : RowAt K S (L2.upd H p o) r := h.same (same_upd hp)
theorem sqL_far {H0 H : Hp} {a D : Addr} {o : HO} {xs : List V} (h0 : SqL K H0 a xs) (hD : H0 D = none) (h : SqL K H a xs) : SqL K (upd H D o) a xs := by
  rcases h0 with (h0 | ⟨u, h0⟩) | h0
  · exact sqL_upd (ne_of_none h0 hD) h
  · exact sqL_upd (ne_of_none h0 hD) h
  · exact .inr h0
/-- what was made after the row stood may change -/
theorem RowAt.far {H0 H : Hp} {r D : Addr} {o : HO} (h0 : RowAt K S H0 r) (hD : H0 D = none) (h : RowAt K S H r) : RowAt K S (L2.upd H D o) r := by
  have n := row_ne h0 hD
  obtain ⟨_, _, _, _, g0, _⟩ := h0
  obtain ⟨i, sd, hd, h1, h2, h3⟩ := h
  exact ⟨i, sd, hd, by rw [upd_ne n.symm]; exact h1, sqL_far g0 hD h2, h3⟩
end
end KL
namespace KL
open PySem PySem.Spec PyProof.Rows L2 Pk He
section
variable {P : Program} {w : World} {K : Fr} {mg : Str → Option Value} {base : Heap} {f : Addr}
theorem fn_of {P : Program} {w : World} {K : PySem.W.Frag} {mg : Str → Option Value} {base : Heap} {k : Nat} {f : Addr} {sp : Sp} {x qual : Str} {st : Stmt} {kws : List (Str × V)} {N ps : List Str} {fd : FuncData} (F : FunD K x qual (defArgs st) (defBody st) (defScope st) [] kws f fd) (S : FnScope N ps (defScope st))
    (len : ∀ vs H Q E, sp vs H Q E → vs.length = ps.length)
    (hbody : ∀ (cdv : Value) (A : Around) (outer : List Env) (s : Shared) (H : Hp) (vs : List V) (Q : VK) (E : XK), Room k (A.deeper (envOfC qual (defScope st) s.heap.objs.size f cdv)) → sp vs H Q E →
      ∃ t, PSs (cxOf CX0 P w K mg base N qual (defScope st) f cdv A outer s H E).nox (defBody st) t ∧ t { nx := fun _ H' => Q .non H', rt := Q } (start N vs) H) : FnOk P w K mg base CX0 (k + 1) f fd ps sp := F.ok S len fun cdv A outer s H vs Q E hr h => by
  obtain ⟨t, h1, h2⟩ := hbody cdv A outer s H vs Q E hr h
  exact ⟨t, h1.nox, h2⟩
/-- numbers as values -/
def nV (l : List Nat) : List V := l.map fun k => V.int (k : Nat)
theorem nV_len (l : List Nat) : (nV l).length = l.length := List.length_map ..
theorem map_getD (l : List Nat) : (List.range l.length).map (fun i => V.int ((l.getD i 0 : Nat))) = nV l := by
  unfold nV
  refine List.ext_getElem (by simp) fun i h1 h2 => ?_
  simp only [List.length_map, List.length_range] at h1
  simp [List.getD_eq_getElem?_getD, List.getElem?_eq_getElem h1]
theorem typed_small {H : Hp} {x : Addr} {st : List Stp} (t : TA_ K H x st) : (sL (typed st)).length ≤ 600 := by
  rw [sL_len, typed_len]
  have h1 := nk_le t.good
  have h2 := t.few
  omega
theorem lk_with (ts sp : Addr) (st : List Stp) : (txF ts sp st).lookup ("with_letters" : Str) = none := by rfl
theorem sum_one (ls : List Nat) : ((ls.map (fun c => sL [c])).map (·.length)).sum = ls.length := by
  induction ls with
  | nil => rfl
  | cons c r ih =>
    simp only [List.map_cons, List.sum_cons, ih, List.length_cons, sL_len, List.length_nil]
    omega
theorem join_one (ls : List Nat) : Txt.join (Str.ofString "") (ls.map (fun c => sL [c])) = sL ls := by
  have h : ∀ l : List Nat, TL.joinL [] (l.map fun c => [c]) = l := by
    intro l
    induction l with
    | nil => rfl
    | cons c r ih =>
      cases r with
      | nil => rfl
      | cons d r => exact congrArg (c :: ·) ih
  have h1 : (Txt.join (Str.ofString "") (ls.map (fun c => sL [c]))).cps.toList = ls := by
    rw [TL.join_eq]
    refine (TL.tl_join _ _).trans ?_
    rw [List.map_map]
    exact h ls
  rw [sL_of (Txt.join (Str.ofString "") (ls.map (fun c => sL [c]))), h1]
theorem nV_at {l : List Nat} {i : Nat} {x : V} (h : (nV l)[i]? = some x) : ∃ k, l[i]? = some k ∧ x = .int (k : Nat) := by
  unfold nV at h
  rw [List.getElem?_map] at h
  cases e : l[i]? with
  | none => rw [e] at h; cases h
  | some k => rw [e] at h; cases h; exact ⟨k, rfl, rfl⟩
theorem ins_row {K : Fr} {S : Addr × List Int} {H H2 : Hp} {r x C dx : Addr} {fs : List (Str × V)} (h : RowAt K S H r) (b : But r H H2) (hx : H x = some (.ins C dx fs)) : H2 x = some (.ins C dx fs) := by
  obtain ⟨_, hr⟩ := h.lst
  exact b _ _ (ne_of hx hr (by intro z; cases z)) hx
theorem keys_pos {st : List Stp} (h0 : 0 < sz st) (hl : (ex st).length = sz st) : 0 < nk st := by
  cases e : ex st with
  | nil =>
    rw [e] at hl
    simp at hl
    omega
  | cons k r =>
    have := ex_lt st k (by rw [e]; exact List.mem_cons_self)
    omega
theorem typed_let {m : Nat} : ∀ {s : Nat} {st : List Stp}, Goes m s st → (typed st).all isLet = true
  | _, [], _ => rfl
  | s, .wr w :: r, h => by
    have h1 := h.1
    simp only [Stp.ok, Bool.and_eq_true] at h1
    have h2 := typed_let h.2.2
    show (w ++ typed r).all isLet = true
    rw [List.all_append, h1.2, h2]
    rfl
  | s, .pa f l t :: r, h => typed_let (st := r) h.2.2
def iD (l : List Nat) : List PyData := l.map fun k => .int (k : Nat)
def nD (l : List Nat) : PyData := .list (iD l)
theorem iD_dp {K : Fr} {H : Hp} : ∀ l : List Nat, DpAll K H (nV l) (iD l)
  | [] => .nil
  | k :: r => .cons (.int _) (iD_dp r)
theorem nD_dp {K : Fr} {H : Hp} {a : Addr} {l : List Nat} (h : H a = some (.lst (nV l))) : Dp K H (.ref a) (nD l) := .lst (SqL.of h) (iD_dp l)
theorem iD_lay : ∀ l : List Nat, PyData.canLayAll0 (iD l) = true
  | [] => by simp [iD, PyData.canLayAll0]
  | k :: r => by
    have := iD_lay r
    show PyData.canLayAll0 (PyData.int (k : Nat) :: iD r) = true
    simp [PyData.canLayAll0, PyData.canLay0, this]
theorem iD_depth : ∀ l : List Nat, PyData.depthAll (iD l) ≤ 1
  | [] => by simp [iD, PyData.depthAll]
  | k :: r => by
    have := iD_depth r
    show PyData.depthAll (PyData.int (k : Nat) :: iD r) ≤ 1
    simp only [PyData.depthAll, PyData.depth]
    omega
theorem nD_shaped (l : List Nat) : SeqAt.shaped (nD l) = true := by
  have h1 := iD_depth l
  have h2 : PyData.depth (nD l) ≤ 64 := by
    simp only [nD, PyData.depth]
    omega
  show (PyData.canLay0 (nD l) && decide (PyData.depth (nD l) ≤ 64)) = true
  rw [decide_eq_true h2, Bool.and_true]
  simp only [nD, PyData.canLay0]
  exact iD_lay l
theorem iD_eqv : ∀ a b : List Nat, PyData.eqvAll (iD a) (iD b) = decide (a = b)
  | [], [] => by simp [iD, PyData.eqvAll]
  | [], _ :: _ => by simp [iD, PyData.eqvAll]
  | _ :: _, [] => by simp [iD, PyData.eqvAll]
  | a :: r, b :: s => by
    have := iD_eqv r s
    show (PyData.eqv (.int (a : Nat)) (.int (b : Nat)) && PyData.eqvAll (iD r) (iD s)) = _
    rw [this]
    simp only [PyData.eqv]
    rw [Bool.eq_iff_iff]
    simp
    omega
theorem nD_eqv (a b : List Nat) : PyData.eqv (nD a) (nD b) = decide (a = b) := by
  simp only [nD, PyData.eqv]
  exact iD_eqv a b
theorem exF_relet (ls : List Nat) : ∀ (st : List Stp) (n : Nat) (E : List Nat) (k : Nat), n + nk st ≤ ls.length → exF E k (relet ls n st) = exF E k st
  | [], _, _, _, _ => rfl
  | .wr w :: r, n, E, k, h => by
    have e1 : nk (.wr w :: r) = w.length + nk r := by simp [nk, Stp.ks]
    have e2 : ((ls.drop n).take w.length).length = w.length := by
      rw [List.length_take, List.length_drop]
      omega
    show exF (E ++ List.range' k ((ls.drop n).take w.length).length) (k + ((ls.drop n).take w.length).length) (relet ls (n + w.length) r) = exF (E ++ List.range' k w.length) (k + w.length) r
    rw [e2]
    exact exF_relet ls r _ _ _ (by omega)
  | .pa f l t :: r, n, E, k, h => by
    have e1 : nk (.pa f l t :: r) = nk r := by simp [nk, Stp.ks]
    exact exF_relet ls r n _ _ (by omega)
theorem ex_relet {ls : List Nat} {st : List Stp} (h : ls.length = nk st) : ex (relet ls 0 st) = ex st := exF_relet ls st 0 [] 0 (by omega)
theorem ex_take {most : Nat} {st : List Stp} (h : Goes most 0 st) (j : Nat) : ex (st.take j) = (ex st).take (sz (st.take j)) := by
  obtain ⟨F, e⟩ := ex_pre (st.take j) (st.drop j)
  rw [List.take_append_drop] at e
  rw [e, ← ex_len _ (goes_take h j), List.take_left]
theorem sz_take_lt {st : List Stp} (h : Goes most 0 st) {j : Nat} (hj : j < st.length) : sz (st.take j) < sz st := by
  have e : st = st.take j ++ st.drop j := (List.take_append_drop _ _).symm
  have hx : st.drop j = st[j] :: st.drop (j + 1) := List.drop_eq_getElem_cons hj
  have e2 := congrArg sz e
  rw [sz_app, hx, sz_cons] at e2
  have := gr_pos (goes_at h (List.getElem?_eq_getElem hj)).1
  omega
theorem cut_refs (as : List Addr) (k : Nat) : cutV (as.map V.ref) none (some (k : Int)) = (as.take k).map V.ref := by
  unfold cutV
  rw [HT.sIx_nat, HT.sIx_none, List.drop_zero, Nat.sub_zero, List.length_map, List.map_take, List.take_eq_take_iff, List.length_map]
  omega
theorem steps_take {K : Fr} {H : Hp} {as : List Addr} {st : List Stp} (h : StepsAt K H as st) (k : Nat) : StepsAt K H (as.take k) (st.take k) := by
  refine ⟨by rw [List.length_take, List.length_take, h.len], fun i x hx => ?_⟩
  have hi : i < k := by
    have := (List.getElem?_eq_some_iff.mp hx).1
    rw [List.length_take] at this
    omega
  rw [List.getElem?_take_of_lt hi] at hx ⊢
  exact h.at_ i x hx
end
end KL
namespace KL
open PySem PySem.Spec PyProof.Rows L2 Pk He
theorem hu1 {A : Around} (h : A.units + 64 < cLine) : A.units + 1 < cLine := by omega
theorem kvW_len (W : WL) : (kvW W).length = W.length := List.length_map ..
def spAddW : Sp := fun vs H Q _ => ∃ (d : Addr) (p : Nat) (w : Int) (W : WL), vs = [.ref d, .int p, .int w] ∧ H d = some (.dK (kvW W)) ∧ (W.map (·.1)).Nodup ∧ W.length < 2000000 ∧ Q .non (upd H d (.dK (kvW (addW W p w))))
section
variable {P : Program} {w : World} {K : Fr} {mg : Str → Option Value} {base : Heap} {f : Addr}
theorem scAddW : FnScope ["weights", "place", "weight"] ["weights", "place", "weight"] (defScope sAddW) := ⟨rfl, rfl, rfl, by decide +kernel, rfl, by decide +kernel, by decide +kernel⟩
theorem ok_addw (D : Df K "_add_weight" "_add_weight" sAddW f) : Kp P w K mg base 1 f spAddW := by
  refine kp_of D scAddW (fun _ _ _ _ _ _ us hl => match us, hl with | [_, _, _], _ => rfl) ?_ (fun cdv A outer s H vs Q E hr h => ?_)
  · rintro vs H Q E ⟨d, p, w, W, rfl, _⟩
    rfl
  · obtain ⟨d, p, w, W, rfl, hd, hn, hl, q⟩ := h
    refine ⟨_, (pss_one (ps_asg (pe_op op_add (pe_dget2 (hu1 hr.units) (pv 0) (pv 1) pe_int ⟨rfl, rfl, rfl, rfl⟩) (pv 2)) (pg_sub (pv 0) (pv 1) (set_dict (hu1 hr.units))))), ?_⟩
    refine ⟨_, rfl, d, rfl, .inl ⟨_, .inl hd⟩, _, rfl, _, .inl ⟨kvW W, .inl (p : Int), .inl hd, rfl, rfl⟩, ?_⟩
    rw [valV_kv]
    refine ⟨_, rfl, _, _, rfl, rfl, _, rfl, _, rfl, d, _, rfl, DPut.k (k := .inl (p : Int)) hd (by rw [kvW_len]; exact Nat.lt_of_lt_of_le hl (by decide)), ?_⟩
    have e := putK_kv p w hn
    rw [← e] at q
    exact q
def spLeave (K : Fr) : Sp := fun vs H Q _ => ∃ (d a dx : Addr) (p s n f0 l t : Nat) (wt : Int) (W : WL), vs = [.ref d, .ref a, .int p, .int wt] ∧ H a = some (.ins (CS K) dx (spF (.pa f0 l t) s n)) ∧ H d = some (.dK (kvW W)) ∧ (W.map (·.1)).Nodup ∧ W.length < 1999000 ∧ f0 ≤ l ∧ l < most ∧ s < p ∧ p ≤ most ∧
  ∀ H2, But d H H2 → H2 d = some (.dK (kvW (addW (addW (addW W (l + 1) ((((p - s) / (l + 1 - f0) : Nat) : Int) * wt)) (f0 + (p - s) % (l + 1 - f0)) wt) f0 (-((((p - s) / (l + 1 - f0) : Nat) : Int) + 1) * wt)))) → Q .non H2
theorem scLeave : FnScope ["weights", "span", "place", "weight", "copies", "rest"] ["weights", "span", "place", "weight"] (defScope sLeave) := ⟨rfl, rfl, rfl, by decide +kernel, rfl, by decide +kernel, by decide +kernel⟩
theorem ok_leave (D : Df K "_leave_pasted" "_leave_pasted" sLeave f) (T : Tc w K mg) (GAw : Kp P w K mg base 1 (ga K "_add_weight") spAddW) : Kp P w K mg base 2 f (spLeave K) := by
  refine kp_of D scLeave (fun _ _ _ _ _ _ us hl => match us, hl with | [_, _, _, _], _ => rfl) ?_ (fun cdv A outer s H vs Q E hr h => ?_)
  · rintro vs H Q E ⟨d, a, dx, p, s, n, f0, l, t, wt, W, rfl, _⟩
    rfl
  · obtain ⟨d, a, dx, p, s, n, f0, l, t, wt, W, rfl, ha, hd, hn, hl, hfl, hw, hsp, hp, q⟩ := h
    have hmost : most = 1000000000000000000 := rfl
    refine ⟨_, (pss_cons (ps_asg (pe_callB call_divmodW (by rfl) T.dm b_divmod (pa_cons (pe_op op_sub (pv 2) (pe_fld (pv 1) rfl)) (pa_cons (pe_fld (pv 1) rfl) pa_nil))) (pg_tup rfl (pgs_cons (pg_name (i := 4) scLeave.nd rfl (Or.inl rfl)) (pgs_cons (pg_name (i := 5) scLeave.nd rfl (Or.inl rfl)) pgs_nil)))) (pss_cons (ps_expr (pk_call GAw (hr.mono (by decide)) T.gAddW (pa_cons (pv 0) (pa_cons (pe_op op_add (pe_fld (pv 1) rfl) (pe_fld (pv 1) rfl)) (pa_cons (pe_op op_mul (pv 4) (pv 3)) pa_nil))))) (pss_cons (ps_expr (pk_call GAw (hr.mono (by decide)) T.gAddW (pa_cons (pv 0) (pa_cons (pe_op op_add (pe_fld (pv 1) rfl) (pv 5)) (pa_cons (pv 3) pa_nil))))) (pss_one (ps_expr (pk_call GAw (hr.mono (by decide)) T.gAddW (pa_cons (pv 0) (pa_cons (pe_fld (pv 1) rfl) (pa_cons (pe_op op_mul (pe_un un_neg (pe_op op_add (pv 4) pe_int)) (pv 3)) pa_nil))))))))), ?_⟩
    refine ⟨_, rfl, _, rfl, a, _, dx, _, _, rfl, ha, T.clS, T.nS1, spF_begin _ _ _, _, _, rfl, rfl, _, rfl, a, _, dx, _, _, rfl, ha, T.clS, T.nS5, spF_width _ _ _, _, _, rfl, divp (by show (0 : Int) < ((l + 1 - f0 : Nat) : Int); omega) (by show ((l + 1 - f0 : Nat) : Int) < 18446744073709551616; omega), fun tp htp => ?_⟩
    have e1 : ((p : Int) - (s : Int)) / ((l + 1 - f0 : Nat) : Int) = (((p - s) / (l + 1 - f0) : Nat) : Int) := by
      rw [show ((p : Int) - (s : Int)) = ((p - s : Nat) : Int) by omega]
      rfl
    have e2 : ((p : Int) - (s : Int)) % ((l + 1 - f0 : Nat) : Int) = (((p - s) % (l + 1 - f0) : Nat) : Int) := by
      rw [show ((p : Int) - (s : Int)) = ((p - s : Nat) : Int) by omega]
      rfl
    have hc : (p - s) / (l + 1 - f0) ≤ p - s := Nat.div_le_self _ _
    generalize hcc : (p - s) / (l + 1 - f0) = c at *
    generalize hrr : (p - s) % (l + 1 - f0) = r at *
    have ndt : d ≠ tp := ne_of_none hd htp
    have nat_ : a ≠ tp := ne_of_none ha htp
    have nda : a ≠ d := ne_of ha hd (by intro z; cases z)
    refine ⟨tp, _, rfl, .inl (.inl upd_same), rfl, _, _, rfl, _, _, rfl, rfl, ?_⟩
    have ha1 := same_upd (o := .tup [.int (((p : Int) - (s : Int)) / ((l + 1 - f0 : Nat) : Int)), .int (((p : Int) - (s : Int)) % ((l + 1 - f0 : Nat) : Int))]) htp _ _ ha
    have hd1 := same_upd (o := .tup [.int (((p : Int) - (s : Int)) / ((l + 1 - f0 : Nat) : Int)), .int (((p : Int) - (s : Int)) % ((l + 1 - f0 : Nat) : Int))]) htp _ _ hd
    have b1 : But d H (upd H tp (.tup [.int (((p : Int) - (s : Int)) / ((l + 1 - f0 : Nat) : Int)), .int (((p : Int) - (s : Int)) % ((l + 1 - f0 : Nat) : Int))])) := Same.but (same_upd htp)
    have w1 : ((widOf (.pa f0 l t) : Nat) : Int) = ((l + 1 - f0 : Nat) : Int) := rfl
    rw [w1]
    rw [e1, e2] at ha1 hd1 b1 ⊢
    change tSeq _ _ _ _ (upd H tp (.tup [.int (c : Nat), .int (r : Nat)]))
    generalize upd H tp (.tup [.int (c : Nat), .int (r : Nat)]) = H1 at *
    refine ⟨_, rfl, _, rfl, a, _, dx, _, _, rfl, ha1, T.clS, T.nS4, spF_source _ _ _, _, rfl, a, _, dx, _, _, rfl, ha1, T.clS, T.nS5, spF_width _ _ _, _, _, rfl, rfl, _, rfl, _, rfl, _, _, rfl, rfl, .inl ⟨by omega, by omega⟩, d, l + 1, (c : Int) * wt, W, ?_, hd1, hn, by omega, ?_⟩
    · rw [show (((l + 1 : Nat) : Int)) = ((f0 : Int) + ((l + 1 - f0 : Nat) : Int)) by omega]
      rfl
    have n1 := nodup_add (l + 1) ((c : Int) * wt) hn
    have l1 := len_add (l + 1) ((c : Int) * wt) W
    have ha2 : (upd H1 d (.dK (kvW (addW W (l + 1) ((c : Int) * wt))))) a = some (.ins (CS K) dx (spF (.pa f0 l t) s n)) := by rw [upd_ne nda]; exact ha1
    refine ⟨_, rfl, _, rfl, a, _, dx, _, _, rfl, ha2, T.clS, T.nS4, spF_source _ _ _, _, rfl, _, _, rfl, rfl, _, rfl, d, f0 + r, wt, _, rfl, upd_same, n1, by omega, ?_⟩
    have n2 := nodup_add (f0 + r) wt n1
    have l2 := len_add (f0 + r) wt (addW W (l + 1) ((c : Int) * wt))
    have ha3 : (upd (upd H1 d (.dK (kvW (addW W (l + 1) ((c : Int) * wt))))) d (.dK (kvW (addW (addW W (l + 1) ((c : Int) * wt)) (f0 + r) wt)))) a = some (.ins (CS K) dx (spF (.pa f0 l t) s n)) := by rw [upd_ne nda]; exact ha2
    refine ⟨_, rfl, _, rfl, a, _, dx, _, _, rfl, ha3, T.clS, T.nS4, spF_source _ _ _, _, rfl, _, _, rfl, rfl, _, rfl, _, rfl, _, _, rfl, rfl, .inl ⟨by omega, by omega⟩, d, f0, -((c : Int) + 1) * wt, _, rfl, upd_same, n2, by omega, ?_⟩
    refine q _ (b1.trans fun b o nb e => ?_) upd_same
    rw [upd_ne nb, upd_ne nb, upd_ne nb]
    exact e
end
end KL
namespace KL
open PySem PySem.Spec PyProof.Rows L2 Pk He
def spCheckRange (K : Fr) : Sp := fun vs H Q _ => ∃ (x : Addr) (a b : Int) (st : List Stp), vs = [.ref x, .int a, .int b] ∧ TA_ K H x st ∧ 0 ≤ a ∧ a ≤ b + 1 ∧ b < (sz st : Nat) ∧ Q .non H
def spCounts (K : Fr) : Sp := fun vs H Q _ => ∃ (x : Addr) (a b : Int) (st : List Stp), vs = [.ref x, .int a, .int b] ∧ TA_ K H x st ∧ 0 ≤ a ∧ a ≤ b + 1 ∧ b < (sz st : Nat) ∧
  ∀ l H2, H l = none → Same H H2 → H2 l = some (.lst (cV (nk st) fun k => (cnt st k (b + 1).toNat : Int) - (cnt st k a.toNat : Int))) → Q (.ref l) H2
/-- the places that a step makes from a place, but the first -/
def thr (y : Stp) (b : Nat) : List Nat := match y with
  | .wr _ => [b]
  | .pa f l _ => [b, l + 1, f]
def gfr (y : Stp) (b p : Nat) : Nat := match y with
  | .wr _ => b
  | .pa f l _ => f + (p - b) % (l + 1 - f)
section
variable {P : Program} {w : World} {K : Fr} {mg : Str → Option Value} {base : Heap} {f : Addr}
theorem scCheckRange : FnScope ["text", "first", "last"] ["text", "first", "last"] (defScope sCheckRange) := ⟨rfl, rfl, rfl, by decide +kernel, rfl, by decide +kernel, by decide +kernel⟩
theorem ok_checkrange (D : Df K "_check_range" "_check_range" sCheckRange f) (T : Tc w K mg) (GN : Kp P w K mg base 1 (ga K "is_number") spIsNumber) (GZ : Kp P w K mg base 1 (pgA K (CT K) "size") (spSize K)) : Kp P w K mg base 3 f (spCheckRange K) := by
  refine kp_of D scCheckRange (fun _ _ _ _ _ _ us hl => match us, hl with | [_, _, _], _ => rfl) ?_ (fun cdv A outer s H vs Q E hr h => ?_)
  · rintro vs H Q E ⟨x, a, b, st, rfl, _⟩
    rfl
  · obtain ⟨x, a, b, st, rfl, t, h0, h1, h2, q⟩ := h
    obtain ⟨dx, ts, sp, as, ss, hx, _⟩ := t.obj
    have e1 : isNum (.int a) 0 (sz st : Nat) = true := by
      show (decide ((0 : Int) ≤ a) && decide (a ≤ (sz st : Nat))) = true
      rw [decide_eq_true (by omega), decide_eq_true (by omega)]
      rfl
    have e2 : isNum (.int b) (a - 1) ((sz st : Int) - 1) = true := by
      show (decide (a - 1 ≤ b) && decide (b ≤ (sz st : Int) - 1)) = true
      rw [decide_eq_true (by omega), decide_eq_true (by omega)]
      rfl
    refine ⟨_, (pss_one (ps_if (pw_or (pt_not (pt_val (pk_call GN (hr.mono (by decide)) T.gIsNumber (pa_cons (pv 1) (pa_cons pe_int (pa_cons (pk_prop (pv 0) T.clT T.pSize GZ (hr.mono (by decide))) pa_nil)))))) (pw_or1 (pt_not (pt_val (pk_call GN (hr.mono (by decide)) T.gIsNumber (pa_cons (pv 2) (pa_cons (pe_op op_sub (pv 1) pe_int) (pa_cons (pe_op op_sub (pk_prop (pv 0) T.clT T.pSize GZ (hr.mono (by decide))) pe_int) pa_nil)))))))).pt pss_never pss_nil)), ?_⟩
    refine ⟨_, rfl, _, rfl, x, dx, _, rfl, hx, x, st, rfl, t, .int a, 0, _, rfl, rfl, ?_⟩
    rw [e1]
    refine ⟨true, rfl, ?_⟩
    refine iteF ?_
    refine ⟨_, rfl, _, rfl, _, _, rfl, rfl, _, rfl, x, dx, _, rfl, hx, x, st, rfl, t, _, _, rfl, rfl, .int b, _, _, rfl, rfl, ?_⟩
    rw [e2]
    refine ⟨true, rfl, ?_⟩
    exact iteF q
theorem scCounts : FnScope ["text", "first", "last", "counts", "weights", "span", "within", "place", "weight", "key", "bound"] ["text", "first", "last"] (defScope sCounts) := ⟨rfl, rfl, rfl, by decide +kernel, rfl, by decide +kernel, by decide +kernel⟩
theorem ok_counts (D : Df K "key_counts" "key_counts" sCounts f) (T : Tc w K mg) (GCr : Kp P w K mg base 3 (ga K "_check_range") (spCheckRange K)) (GTy : Kp P w K mg base 1 (pgA K (CT K) "typed_keys") (spTyped K)) (GAw : Kp P w K mg base 1 (ga K "_add_weight") spAddW) (GLv : Kp P w K mg base 2 (ga K "_leave_pasted") (spLeave K)) : Kp P w K mg base 4 f (spCounts K) := by
  refine kp_of D scCounts (fun _ _ _ _ _ _ us hl => match us, hl with | [_, _, _], _ => rfl) ?_ (fun cdv A outer s H vs Q E hr h => ?_)
  · rintro vs H Q E ⟨x, a, e, st, rfl, _⟩
    rfl
  · obtain ⟨x, a0, b0, st, rfl, t, h0, h1, h2, q⟩ := h
    obtain ⟨a, rfl⟩ := Int.eq_ofNat_of_zero_le h0
    obtain ⟨e, rfl⟩ : ∃ e : Nat, b0 = (e : Int) - 1 := ⟨(b0 + 1).toNat, by omega⟩
    have hae : a ≤ e := by omega
    have hes : e ≤ sz st := by omega
    rw [show ((e : Int) - 1 + 1).toNat = e by omega, show (a : Int).toNat = a by omega] at q
    clear h0 h1 h2
    have hszm := sz_most t.good
    refine ⟨_, (pss_cons (ps_expr (pk_call GCr (hr.mono (by decide)) T.gCheckRange (pa_cons (pv 0) (pa_cons (pv 1) (pa_cons (pv 2) pa_nil))))) (pss_cons (ps_set (i := 3) scCounts.nd rfl (Or.inl rfl) (pe_op op_rep (pe_lst (pa_cons pe_int pa_nil)) (pk_b1 call_len_str T.len b_len (pk_prop (pv 0) T.clT T.pTyped GTy (hr.mono (by decide)))))) (pss_cons (ps_set (i := 4) scCounts.nd rfl (Or.inl rfl) pe_dnewK) (pss_cons (ps_expr (pk_call GAw (hr.mono (by decide)) T.gAddW (pa_cons (pv 4) (pa_cons (pe_op op_add (pv 2) pe_int) (pa_cons pe_int pa_nil))))) (pss_cons (ps_expr (pk_call GAw (hr.mono (by decide)) T.gAddW (pa_cons (pv 4) (pa_cons (pv 1) (pa_cons (pe_un un_neg pe_int) pa_nil))))) (pss_cons (ps_for PassesOwn.never rfl (pi_tup (pe_revT (pe_fld (pv 0) rfl))) (pg_name (i := 5) scCounts.nd rfl (Or.inr rfl)) (pss_cons (ps_lock (ps_setLc (i := 6) (own := [("bound", 10)]) (g := gName 10) rfl scCounts.nd rfl rfl (sw_true rfl rfl rfl (by decide +kernel)) (pi_keys (pv 4)) (blkOk_by (N := ["text", "first", "last", "counts", "weights", "span", "within", "place", "weight", "key", "bound"]) (sc := defScope sCounts) (by decide +kernel)) (fun _ _ _ _ _ => (pg_name (i := 10) scCounts.nd rfl (Or.inl rfl))) (fun _ _ _ _ _ => (pts_one (pt_cmpR op_gt (pv 10) (fldK K (pv 5)) (nomark _)))) (fun _ _ _ _ _ => (pv 10)))) (pss_one (ps_for PassesOwn.never rfl (pi_list (pv 6)) (pg_name (i := 7) scCounts.nd rfl (Or.inl rfl)) (pss_cons (ps_set (i := 8) scCounts.nd rfl (Or.inl rfl) (pe_dpop1 (pv 4) (pv 7) ⟨rfl, rfl, rfl, rfl⟩)) (pss_cons (ps_expr (pk_call GAw (hr.mono (by decide)) T.gAddW (pa_cons (pv 4) (pa_cons (pe_fld (pv 5) rfl) (pa_cons (pv 8) pa_nil))))) (pss_one (ps_if (pt_cmp (pc_isN (pe_fld (pv 5) rfl))) (pss_one (ps_expr (pk_call GLv (hr.mono (by decide)) T.gLeave (pa_cons (pv 4) (pa_cons (pv 5) (pa_cons (pv 7) (pa_cons (pv 8) pa_nil))))))) (pss_one (ps_for PassesOwn.never rfl (pi_range2 (by rfl) T.rng (pa_cons (pe_fld (pv 5) rfl) (pa_cons (pe_op op_sub (pe_op op_add (pe_fld (pv 5) rfl) (pv 7)) (pe_fld (pv 5) rfl)) pa_nil))) (pg_name (i := 9) scCounts.nd rfl (Or.inl rfl)) (pss_one (ps_augS (pv 3) (pv 9) get_listP (pv 8) ip_add set_list)))))))))))) (pss_one (ps_ret (pv 3))))))))), ?_⟩
    refine ⟨_, rfl, _, rfl, _, rfl, x, _, _, st, rfl, t, by omega, by omega, by omega, ?_⟩
    obtain ⟨dx, ts, sp, as, ss, hx, _⟩ := t.obj
    refine ⟨by decide, fun L0 hL0 => ?_⟩
    have hmost : most = 1000000000000000000 := rfl
    have hnk : nk st ≤ 600 := by have := nk_le t.good; have := t.few; omega
    have s0 : Same H (upd H L0 (.lst [V.int 0])) := same_upd hL0
    refine ⟨_, rfl, x, dx, _, rfl, s0 _ _ hx, x, st, rfl, t.same s0, _, rfl, by rw [sL_len, typed_len]; exact Nat.le_trans hnk (by decide), L0, _, [V.int 0], rfl, rfl, upd_same, ?_, ?_, ?_, fun L hL => ?_⟩
    · omega
    · rw [sL_len, typed_len]; omega
    · rw [sL_len, typed_len]
      exact Nat.le_trans (show 1 * (nk st : Int).toNat ≤ 600 by omega) (by decide)
    rw [sL_len, typed_len]
    have eL : (List.replicate (nk st : Int).toNat [V.int 0]).flatten = cV (nk st) fun _ => 0 := by
      rw [Int.toNat_natCast]
      unfold cV
      simp [List.map_const']
    rw [eL]
    have s1 := s0.trans (same_upd (o := .lst (cV (nk st) fun _ => 0)) hL)
    have hL1 : H L = none := s0.free hL
    generalize hH1 : upd (upd H L0 (.lst [V.int 0])) L (.lst (cV (nk st) fun _ => 0)) = H1 at s1
    have hLL : H1 L = some (.lst (cV (nk st) fun _ => 0)) := by rw [← hH1]; exact upd_same
    refine fun d hd => ?_
    have hd0 : H d = none := s1.free hd
    have hdL : L ≠ d := ne_of_none hLL hd
    have keep : ∀ {Hc : Hp} {o : HO}, Same H Hc → Same H (upd Hc d o) := fun {Hc o} hs b u e => by
      rw [upd_ne (ne_of_none e hd0)]
      exact hs _ _ e
    have keepL : ∀ {Hc : Hp} {o : HO}, Same H Hc → Same H (upd Hc L o) := fun {Hc o} hs b u e => by
      rw [upd_ne (ne_of_none e hL1)]
      exact hs _ _ e
    refine ⟨_, rfl, _, rfl, _, _, rfl, rfl, d, e, 1, [], by show [V.ref d, V.int ((e : Int) - 1 + 1), V.int 1] = _; rw [Int.sub_add_cancel], upd_same, List.nodup_nil, by decide, ?_⟩
    refine ⟨_, rfl, _, rfl, _, rfl, d, a, -1, addW [] e 1, rfl, upd_same, nodup_add e 1 List.nodup_nil, Nat.lt_of_le_of_lt (len_add e 1 []) (by decide), ?_⟩
    have n1 : ((addW (addW [] e 1) a (-1)).map (·.1)).Nodup := nodup_add a (-1) (nodup_add e 1 List.nodup_nil)
    have l1 : (addW (addW [] e 1) a (-1)).length ≤ 2 + 3 * 0 := by have z1 := len_add a (-1) (addW [] e 1); have z2 := len_add e 1 []; simp at z2; omega
    have k1 : ∀ q ∈ (addW (addW [] e 1) a (-1)).map (·.1), q ≤ sz st := fun q hq => by
      rcases (keys_add a (-1)).mp hq with z | z
      · rcases (keys_add e 1).mp z with z | z
        · simp at z
        · omega
      · omega
    have v1 : ∀ k, k < nk st → (fun _ : Nat => (0 : Int)) k + val st k (addW (addW [] e 1) a (-1)) = (cnt st k e : Int) - (cnt st k a : Int) := fun k _ => by
      show 0 + _ = _
      rw [val_add, val_add]
      show 0 + (0 + 1 * (cnt st k e : Int) + -1 * (cnt st k a : Int)) = _
      omega
    have s2 : Same H (upd (upd (upd H1 d (.dK [])) d (.dK (kvW (addW [] e 1)))) d (.dK (kvW (addW (addW [] e 1) a (-1))))) := keep (keep (keep s1))
    have hd2 : (upd (upd (upd H1 d (.dK [])) d (.dK (kvW (addW [] e 1)))) d (.dK (kvW (addW (addW [] e 1) a (-1))))) d = some (.dK (kvW (addW (addW [] e 1) a (-1)))) := upd_same
    have hL2 : (upd (upd (upd H1 d (.dK [])) d (.dK (kvW (addW [] e 1)))) d (.dK (kvW (addW (addW [] e 1) a (-1))))) L = some (.lst (cV (nk st) fun _ => 0)) := by
      rw [upd_ne hdL, upd_ne hdL, upd_ne hdL]
      exact hLL
    change tSeq _ _ _ _ (upd (upd (upd H1 d (.dK [])) d (.dK (kvW (addW [] e 1)))) d (.dK (kvW (addW (addW [] e 1) a (-1)))))
    generalize (upd (upd (upd H1 d (.dK [])) d (.dK (kvW (addW [] e 1)))) d (.dK (kvW (addW (addW [] e 1) a (-1))))) = H2 at s2 hd2 hL2 ⊢
    generalize addW (addW [] e 1) a (-1) = W2 at n1 l1 k1 v1 hd2
    obtain ⟨_, _, hsp, hss⟩ := ‹SqT K H ts (List.map V.ref as) ∧ _›
    refine ⟨_, rfl, x, _, dx, _, _, rfl, s2 _ _ hx, T.clT, T.nT2, rfl, sp, _, rfl, same_sqT s2 hsp, fun p hp => ?_⟩
    have hp0 : H p = none := s2.free hp
    have hdp : p ≠ d := (ne_of_none hd2 hp).symm
    have hLp : p ≠ L := (ne_of_none hL2 hp).symm
    refine ⟨p, rfl, ⟨_, SqT.of upd_same⟩, ?_⟩
    refine for_tup (xs := (ss.map V.ref).reverse) (fun j σ Hc => ∃ (v5 v6 v7 v8 v9 : Option V) (g : Nat → Int) (W : WL), σ = [some (.ref x), some (.int a), some (.int ((e : Int) - 1)), some (.ref L), some (.ref d), v5, v6, v7, v8, v9, none] ∧ Same H Hc ∧ Hc p = some (.tup (ss.map V.ref).reverse) ∧ Hc L = some (.lst (cV (nk st) g)) ∧ Hc d = some (.dK (kvW W)) ∧ (W.map (·.1)).Nodup ∧ W.length ≤ 2 + 3 * j ∧ (∀ q ∈ W.map (·.1), q ≤ sz (st.take (st.length - j))) ∧ ∀ k, k < nk st → g k + val st k W = (cnt st k e : Int) - (cnt st k a : Int)) ⟨none, none, none, none, none, _, W2, rfl, s2.trans (same_upd hp), upd_same, same_upd hp _ _ hL2, same_upd hp _ _ hd2, n1, l1, by rw [Nat.sub_zero, List.take_length]; exact k1, v1⟩ ?_ ?_ ?_
    · rintro j σ Hc _ ⟨_, _, _, _, _, _, _, _, _, h, _⟩
      exact SqT.of h
    · rintro j v σ Hc hv ⟨v5, v6, v7, v8, v9, g, W, rfl, sc, hpc, hLc, hdc, hn, hlen, hk, hval⟩
      obtain ⟨hj, hv2⟩ := rev_at hv
      rw [List.length_map, hss.len] at hj hv2
      have hti : st.length - j = st.length - 1 - j + 1 := by omega
      rw [hti] at hk
      have hgo : ∀ q2, q2 = st.length - (j + 1) → q2 = st.length - 1 - j := fun q2 h => by omega
      generalize hi : st.length - 1 - j = i at *
      have hil : i < st.length := by omega
      obtain ⟨y, hy⟩ : ∃ y, st[i]? = some y := ⟨st[i], List.getElem?_eq_getElem hil⟩
      obtain ⟨c, dc, hc, hcx⟩ := hss.at_ i y hy
      have ev : v = .ref c := map_at hc hv2
      subst ev
      have hcc := sc _ _ hcx
      have hnj : st.length - (j + 1) = i := hgo _ rfl
      have hz1 : sz (st.take (i + 1)) = sz (st.take i) + y.gr := by rw [take_succ hy, sz_app]; simp [sz]
      have hzi : sz (st.take (i + 1)) ≤ sz st := by have z := sz_app (st.take (i + 1)) (st.drop (i + 1)); rw [List.take_append_drop] at z; omega
      have hfw := t.few
      have few : W.length ≤ 92 := by omega
      refine ⟨d, _, hdc, trivial, fun od => ?_⟩
      have hcd : c ≠ d := ne_of hcc hdc (by intro z; cases z)
      refine ⟨_, rfl, d, od, rfl, .inl ⟨kvW W, upd_same, fun D hD => ?_⟩⟩
      have hDd : d ≠ D := ne_of_none upd_same hD
      have hDc : Hc D = none := by
        rw [upd_ne hDd.symm] at hD
        exact hD
      refine lc_keep walk_keys hD (fun i2 => decide (sz (st.take i) < (W.map (·.1)).getD i2 0)) (fun i2 => V.int ((W.map (·.1)).getD i2 0 : Nat)) (by rw [kvW_len]; exact small_ok (by omega)) (fun H5 s5 => s5 _ _ upd_same) ?_ ?_
      · rintro i2 xk H5 H6 N N0 hi2 s5 ⟨e6, k, vv, hkv, rfl⟩ yes no
        obtain ⟨q0, hq0, e0⟩ : ∃ q0, W[i2]? = some q0 ∧ k = .inl (q0.1 : Int) := by
          unfold kvW at hkv
          rw [List.getElem?_map] at hkv
          cases hw : W[i2]? with
          | none =>
            rw [hw] at hkv
            cases hkv
          | some q0 =>
            rw [hw] at hkv
            cases hkv
            exact ⟨q0, rfl, rfl⟩
        have eg : (W.map (·.1)).getD i2 0 = q0.1 := by rw [List.getD_eq_getElem?_getD, List.getElem?_map, hq0]; rfl
        rw [eg] at yes no
        subst e0 e6
        have hc6 := s5 _ _ (show (upd Hc d (.frz od (.dK (kvW W)))) c = _ by rw [upd_ne hcd]; exact hcc)
        refine ⟨rfl, _, rfl, _, rfl, c, _, dc, _, _, rfl, hc6, T.clS, T.nS1, spF_begin _ _ _, _, _, rfl, rfl, ?_⟩
        refine ⟨decide (sz (st.take i) < q0.1), ?_, ?_⟩
        · show V.bl (decide ((sz (st.take i) : Int) < (q0.1 : Int))) = _
          congr 1
          exact decide_eq_decide.mpr Int.ofNat_lt
        · by_cases h : sz (st.take i) < q0.1
          · rw [decide_eq_true h] at yes ⊢
            exact iteT ⟨_, rfl, yes rfl _ (Same.refl _)⟩
          · rw [decide_eq_false h] at no ⊢
            exact iteF (no rfl _ (Same.refl _))
      · intro H5 s5 hD5
        refine ⟨s5 _ _ upd_same, ?_⟩
        rw [kvW_len, show W.length = (W.map (·.1)).length from (List.length_map ..).symm, keeps_filter (W.map (·.1)) (fun q => decide (sz (st.take i) < q)) (fun q => V.int (q : Nat))] at hD5
        have htwo := filter_two (W.map (·.1)) fun q => decide (sz (st.take i) < q)
        rw [List.length_map] at htwo
        generalize hB : (W.map (·.1)).filter (fun q => decide (sz (st.take i) < q)) = B at hD5 htwo
        generalize hC : (W.map (·.1)).filter (fun q => !decide (sz (st.take i) < q)) = C at htwo
        have sc7 : Same H (upd H5 d (.dK (kvW W))) := fun b u e => by
          have nb := ne_of_none e hd0
          rw [upd_ne nb]
          exact s5 _ _ (by rw [upd_ne nb]; exact sc _ _ e)
        have hp7 : (upd H5 d (.dK (kvW W))) p = some (.tup (ss.map V.ref).reverse) := by
          rw [upd_ne hdp]
          exact s5 _ _ (by rw [upd_ne hdp]; exact hpc)
        have hL7 : (upd H5 d (.dK (kvW W))) L = some (.lst (cV (nk st) g)) := by
          rw [upd_ne hdL]
          exact s5 _ _ (by rw [upd_ne hdL]; exact hLc)
        have hd7 : (upd H5 d (.dK (kvW W))) d = some (.dK (kvW W)) := upd_same
        have hD7 : (upd H5 d (.dK (kvW W))) D = some (.lst (B.map fun q => V.int (q : Nat))) := by
          rw [upd_ne hDd.symm]
          exact hD5
        generalize upd H5 d (.dK (kvW W)) = H7 at sc7 hp7 hL7 hd7 hD7 ⊢
        have hLD : L ≠ D := ne_of_none hLc hDc
        have hpD : p ≠ D := ne_of_none hpc hDc
        have hBn : B.Nodup := by rw [← hB]; exact List.Sublist.nodup List.filter_sublist hn
        have hBk : ∀ q ∈ B, q ∈ W.map (·.1) ∧ sz (st.take i) < q := fun q hq => by
          rw [← hB, List.mem_filter] at hq
          exact ⟨hq.1, of_decide_eq_true hq.2⟩
        have hB0 : ∀ q ∈ W.map (·.1), q ≤ sz (st.take i) ∨ q ∈ B.drop 0 := fun q hq => by
          by_cases h : sz (st.take i) < q
          · right
            rw [List.drop_zero, ← hB, List.mem_filter]
            exact ⟨hq, decide_eq_true h⟩
          · left
            omega
        have hS0 : ∀ q ∈ W.map (·.1), q ∈ B.drop 0 ++ (C ++ (thr y (sz (st.take i)) ++ (B.take 0).map (gfr y (sz (st.take i))))) := fun q hq => by
          rw [List.mem_append, List.mem_append]
          by_cases h : sz (st.take i) < q
          · left
            rw [List.drop_zero, ← hB, List.mem_filter]
            exact ⟨hq, decide_eq_true h⟩
          · right
            left
            rw [← hC, List.mem_filter]
            exact ⟨hq, by rw [decide_eq_false h]; rfl⟩
        have hthr : (thr y (sz (st.take i))).length ≤ 3 := by cases y <;> simp [thr]
        have hfewS : ∀ (m : Nat) (W8 : WL), m ≤ B.length → (W8.map (·.1)).Nodup → (∀ q ∈ W8.map (·.1), q ∈ B.drop m ++ (C ++ (thr y (sz (st.take i)) ++ (B.take m).map (gfr y (sz (st.take i)))))) → W8.length ≤ W.length + 3 := fun m W8 hm n8 h8 => by
          have z := nodup_sub n8 h8
          simp only [List.length_append, List.length_map, List.length_drop, List.length_take] at z
          omega
        refine ⟨_, rfl, D, rfl, ⟨_, SqL.of hD7⟩, ?_⟩
        refine for_list (xs := B.map fun q => V.int (q : Nat)) (fun m σ Hc => ∃ (v7 v8 v9 : Option V) (g : Nat → Int) (W : WL), σ = [some (.ref x), some (.int a), some (.int ((e : Int) - 1)), some (.ref L), some (.ref d), some (.ref c), some (.ref D), v7, v8, v9, none] ∧ Same H Hc ∧ Hc p = some (.tup (ss.map V.ref).reverse) ∧ Hc L = some (.lst (cV (nk st) g)) ∧ Hc d = some (.dK (kvW W)) ∧ Hc D = some (.lst (B.map fun q => V.int (q : Nat))) ∧ (W.map (·.1)).Nodup ∧ (∀ q ∈ W.map (·.1), q ≤ sz (st.take i) ∨ q ∈ B.drop m) ∧ (∀ q ∈ B.drop m, q ∈ W.map (·.1)) ∧ (∀ q ∈ W.map (·.1), q ∈ B.drop m ++ (C ++ (thr y (sz (st.take i)) ++ (B.take m).map (gfr y (sz (st.take i)))))) ∧ ∀ k, k < nk st → g k + val st k W = (cnt st k e : Int) - (cnt st k a : Int)) ⟨v7, v8, v9, g, W, rfl, sc7, hp7, hL7, hd7, hD7, hn, hB0, fun q hq => (hBk q hq).1, hS0, hval⟩ ?_ ?_ ?_
        · rintro m σ H8 _ ⟨_, _, _, _, _, _, _, _, _, _, h, _⟩
          exact SqL.of h
        · rintro m v σ H8 hvm ⟨v7, v8, v9, g8, W8, rfl, s8, hp8, hL8, hd8, hD8, n8, hk8, hm8, hS8, hval8⟩
          obtain ⟨q, hq, ev⟩ : ∃ q, B[m]? = some q ∧ v = .int (q : Nat) := by
            rw [List.getElem?_map] at hvm
            cases hb : B[m]? with
            | none =>
              rw [hb] at hvm
              cases hvm
            | some q =>
              rw [hb] at hvm
              cases hvm
              exact ⟨q, rfl, rfl⟩
          subst ev
          obtain ⟨hmB, eqm⟩ := List.getElem?_eq_some_iff.mp hq
          have hdr : B.drop m = q :: B.drop (m + 1) := by rw [List.drop_eq_getElem_cons hmB, eqm]
          have hnd : (B.drop m).Nodup := List.Sublist.nodup (List.drop_sublist m B) hBn
          rw [hdr, List.nodup_cons] at hnd
          have hqW : q ∈ W8.map (·.1) := hm8 q (by rw [hdr]; exact List.mem_cons_self)
          obtain ⟨hqk, hbq⟩ := hBk q (List.mem_of_getElem? hq)
          have hqs := hk q hqk
          obtain ⟨mm, rfl⟩ : ∃ mm, q = sz (st.take i) + mm := ⟨q - sz (st.take i), by omega⟩
          have hmm : mm ≤ y.gr := by omega
          have few8 := hfewS m W8 (by omega) n8 hS8
          have few9 : (dropW W8 (sz (st.take i) + mm)).length ≤ W8.length := List.length_filter_le _ _
          have n9 := nodup_drop (sz (st.take i) + mm) n8
          have n10 := nodup_add (sz (st.take i)) (getW W8 (sz (st.take i) + mm)) n9
          have few10 := len_add (sz (st.take i)) (getW W8 (sz (st.take i) + mm)) (dropW W8 (sz (st.take i) + mm))
          have hDd2 : D ≠ d := hDd.symm
          refine ⟨_, rfl, d, rfl, .inl ⟨_, .inl hd8⟩, _, rfl, kvW W8, .inl ((sz (st.take i) + mm : Nat) : Int), _, hd8, rfl, valV_in hqW, ?_⟩
          rw [dropK_kv]
          have hc8 := s8 _ _ hcx
          refine ⟨_, rfl, _, rfl, c, _, dc, _, _, rfl, (show (upd H8 d (.dK (kvW (dropW W8 (sz (st.take i) + mm))))) c = some (.ins (CS K) dc (spF y (sz (st.take i)) (nk (st.take i)))) by rw [upd_ne hcd]; exact hc8), T.clS, T.nS1, spF_begin _ _ _, _, rfl, d, sz (st.take i), _, _, rfl, upd_same, n9, by omega, ?_⟩
          have s10 : Same H (upd (upd H8 d (.dK (kvW (dropW W8 (sz (st.take i) + mm))))) d (.dK (kvW (addW (dropW W8 (sz (st.take i) + mm)) (sz (st.take i)) (getW W8 (sz (st.take i) + mm)))))) := keep (keep s8)
          have hp10 : (upd (upd H8 d (.dK (kvW (dropW W8 (sz (st.take i) + mm))))) d (.dK (kvW (addW (dropW W8 (sz (st.take i) + mm)) (sz (st.take i)) (getW W8 (sz (st.take i) + mm)))))) p = some (.tup (ss.map V.ref).reverse) := by rw [upd_ne hdp, upd_ne hdp]; exact hp8
          have hL10 : (upd (upd H8 d (.dK (kvW (dropW W8 (sz (st.take i) + mm))))) d (.dK (kvW (addW (dropW W8 (sz (st.take i) + mm)) (sz (st.take i)) (getW W8 (sz (st.take i) + mm)))))) L = some (.lst (cV (nk st) g8)) := by rw [upd_ne hdL, upd_ne hdL]; exact hL8
          have hD10 : (upd (upd H8 d (.dK (kvW (dropW W8 (sz (st.take i) + mm))))) d (.dK (kvW (addW (dropW W8 (sz (st.take i) + mm)) (sz (st.take i)) (getW W8 (sz (st.take i) + mm)))))) D = some (.lst (B.map fun q => V.int (q : Nat))) := by rw [upd_ne hDd2, upd_ne hDd2]; exact hD8
          have hd10 : (upd (upd H8 d (.dK (kvW (dropW W8 (sz (st.take i) + mm))))) d (.dK (kvW (addW (dropW W8 (sz (st.take i) + mm)) (sz (st.take i)) (getW W8 (sz (st.take i) + mm)))))) d = some (.dK (kvW (addW (dropW W8 (sz (st.take i) + mm)) (sz (st.take i)) (getW W8 (sz (st.take i) + mm))))) := upd_same
          generalize (upd (upd H8 d (.dK (kvW (dropW W8 (sz (st.take i) + mm))))) d (.dK (kvW (addW (dropW W8 (sz (st.take i) + mm)) (sz (st.take i)) (getW W8 (sz (st.take i) + mm)))))) = H10 at s10 hp10 hL10 hD10 hd10 ⊢
          have hc10 := s10 _ _ hcx
          have mem10 : ∀ q2 ∈ B.drop (m + 1), q2 ∈ (addW (dropW W8 (sz (st.take i) + mm)) (sz (st.take i)) (getW W8 (sz (st.take i) + mm))).map (·.1) := fun q2 h2 => by
            refine (keys_add _ _).mpr (.inl (keys_drop.mpr ⟨hm8 q2 (by rw [hdr]; exact List.mem_cons_of_mem _ h2), fun z => hnd.1 (by rw [← z]; exact h2)⟩))
          have key10 : ∀ q2 ∈ (addW (dropW W8 (sz (st.take i) + mm)) (sz (st.take i)) (getW W8 (sz (st.take i) + mm))).map (·.1), q2 ≤ sz (st.take i) ∨ q2 ∈ B.drop (m + 1) := fun q2 h2 => by
            rcases (keys_add _ _).mp h2 with z | z
            · obtain ⟨z1, z2⟩ := keys_drop.mp z
              rcases hk8 q2 z1 with u | u
              · exact .inl u
              · rw [hdr, List.mem_cons] at u
                exact .inr (u.resolve_left z2)
            · exact .inl (Nat.le_of_eq z)
          have mid : ∀ q2, q2 ∈ W8.map (·.1) → q2 ≠ sz (st.take i) + mm → q2 ∈ B.drop (m + 1) ++ (C ++ (thr y (sz (st.take i)) ++ (B.take (m + 1)).map (gfr y (sz (st.take i))))) := fun q2 h2 hne => by
            have z := hS8 q2 h2
            rw [hdr] at z
            simp only [List.mem_append, List.mem_cons] at z ⊢
            rcases z with (z | z) | z | z | z
            · exact absurd z hne
            · exact .inl z
            · exact .inr (.inl z)
            · exact .inr (.inr (.inl z))
            · refine .inr (.inr (.inr ?_))
              rw [take_succ hq, List.map_append, List.mem_append]
              exact .inl z
          have inT : ∀ q2 ∈ thr y (sz (st.take i)), q2 ∈ B.drop (m + 1) ++ (C ++ (thr y (sz (st.take i)) ++ (B.take (m + 1)).map (gfr y (sz (st.take i))))) := fun q2 h2 => by
            simp only [List.mem_append]
            exact .inr (.inr (.inl h2))
          have inG : gfr y (sz (st.take i)) (sz (st.take i) + mm) ∈ B.drop (m + 1) ++ (C ++ (thr y (sz (st.take i)) ++ (B.take (m + 1)).map (gfr y (sz (st.take i))))) := by
            simp only [List.mem_append]
            refine .inr (.inr (.inr ?_))
            rw [take_succ hq, List.map_append, List.mem_append]
            exact .inr List.mem_cons_self
          have bT : sz (st.take i) ∈ thr y (sz (st.take i)) := by cases y <;> simp [thr]
          have set10 : ∀ q2 ∈ (addW (dropW W8 (sz (st.take i) + mm)) (sz (st.take i)) (getW W8 (sz (st.take i) + mm))).map (·.1), q2 ∈ B.drop (m + 1) ++ (C ++ (thr y (sz (st.take i)) ++ (B.take (m + 1)).map (gfr y (sz (st.take i))))) := fun q2 h2 => by
            rcases (keys_add _ _).mp h2 with z | z
            · obtain ⟨z1, z2⟩ := keys_drop.mp z
              exact mid q2 z1 z2
            · rw [z]
              exact inT _ bT
          refine ⟨_, rfl, c, _, dc, _, _, rfl, hc10, T.clS, T.nS3, spF_key _ _ _, _, rfl, ?_⟩
          obtain ⟨ok, lim⟩ := goes_at t.good hy
          cases y with
          | wr wd =>
            have hmw : mm ≤ wd.length := hmm
            have hnks : nk (st.take i) + wd.length ≤ nk st := by
              have z := nk_app (st.take (i + 1)) (st.drop (i + 1))
              rw [List.take_append_drop, take_succ hy, nk_app] at z
              have : nk [Stp.wr wd] = wd.length := by simp [nk, Stp.ks]
              omega
            have e0 : decide (keyV (.wr wd) (nk (st.take i)) = V.non) = false := decide_eq_false (by intro z; cases z)
            rw [e0]
            refine iteF ?_
            refine ⟨_, rfl, c, _, dc, _, _, rfl, hc10, T.clS, T.nS3, spF_key _ _ _, _, rfl, c, _, dc, _, _, rfl, hc10, T.clS, T.nS3, spF_key _ _ _, _, rfl, _, _, rfl, rfl, _, rfl, c, _, dc, _, _, rfl, hc10, T.clS, T.nS1, spF_begin _ _ _, _, _, rfl, rfl, (nk (st.take i) : Nat), _, rfl, ⟨by omega, by omega, by omega, by omega⟩, ?_⟩
            have en : ((((nk (st.take i) : Nat) : Int) + ((sz (st.take i) + mm : Nat) : Int) - ((sz (st.take i) : Nat) : Int)) - ((nk (st.take i) : Nat) : Int)).toNat = mm := by omega
            rw [en]
            refine for_range (fun m2 σ Hc => ∃ v9 : Option V, σ = [some (.ref x), some (.int a), some (.int ((e : Int) - 1)), some (.ref L), some (.ref d), some (.ref c), some (.ref D), some (.int ((sz (st.take i) + mm : Nat) : Int)), some (.int (getW W8 (sz (st.take i) + mm))), v9, none] ∧ Same H Hc ∧ Hc p = some (.tup (ss.map V.ref).reverse) ∧ Hc L = some (.lst (cV (nk st) fun k => g8 k + if nk (st.take i) ≤ k ∧ k < nk (st.take i) + m2 then getW W8 (sz (st.take i) + mm) else 0)) ∧ Hc d = some (.dK (kvW (addW (dropW W8 (sz (st.take i) + mm)) (sz (st.take i)) (getW W8 (sz (st.take i) + mm))))) ∧ Hc D = some (.lst (B.map fun q => V.int (q : Nat)))) ⟨v9, rfl, s10, hp10, ?_, hd10, hD10⟩ ?_ ?_
            · rw [hL10]
              refine congrArg (fun l => some (HO.lst l)) (cV_congr fun k _ => ?_)
              rw [if_neg (by omega), Int.add_zero]
            · rintro m2 σ H11 hm2 ⟨v9, rfl, s11, hp11, hL11, hd11, hD11⟩
              have hlt : nk (st.take i) + m2 < nk st := by omega
              refine ⟨_, rfl, _, rfl, L, _, nk (st.take i) + m2, _, rfl, rfl, SqL.of hL11, cV_get _ hlt, _, rfl, _, _, rfl, rfl, L, _, ((nk (st.take i) + m2 : Nat) : Int), nk (st.take i) + m2, rfl, rfl, hL11, ?_, ?_⟩
              · unfold ixN
                rw [cV_len, if_pos (by omega), if_pos (by omega)]
                rfl
              · refine ⟨_, rfl, keepL s11, by rw [upd_ne hLp]; exact hp11, ?_, by rw [upd_ne hdL.symm]; exact hd11, by rw [upd_ne hLD.symm]; exact hD11⟩
                rw [upd_same, cV_set]
                refine congrArg (fun l => some (HO.lst l)) (cV_congr fun k _ => ?_)
                show (if k = nk (st.take i) + m2 then (g8 (nk (st.take i) + m2) + if nk (st.take i) ≤ nk (st.take i) + m2 ∧ nk (st.take i) + m2 < nk (st.take i) + m2 then getW W8 (sz (st.take i) + mm) else 0) + getW W8 (sz (st.take i) + mm) else g8 k + if nk (st.take i) ≤ k ∧ k < nk (st.take i) + m2 then getW W8 (sz (st.take i) + mm) else 0) = g8 k + if nk (st.take i) ≤ k ∧ k < nk (st.take i) + (m2 + 1) then getW W8 (sz (st.take i) + mm) else 0
                by_cases ek : k = nk (st.take i) + m2
                · subst ek
                  rw [if_pos rfl, if_neg (show ¬(nk (st.take i) ≤ nk (st.take i) + m2 ∧ nk (st.take i) + m2 < nk (st.take i) + m2) by omega), if_pos (show nk (st.take i) ≤ nk (st.take i) + m2 ∧ nk (st.take i) + m2 < nk (st.take i) + (m2 + 1) by omega), Int.add_zero]
                · rw [if_neg ek]
                  by_cases h : nk (st.take i) ≤ k ∧ k < nk (st.take i) + m2
                  · rw [if_pos h, if_pos (by omega)]
                  · rw [if_neg h, if_neg (by omega)]
            · rintro σ H11 ⟨v9, rfl, s11, hp11, hL11, hd11, hD11⟩
              refine ⟨_, _, v9, _, _, rfl, s11, hp11, hL11, hd11, hD11, n10, key10, mem10, set10, fun k hk3 => ?_⟩
              have z1 := val_wr t.good hy n8 rfl hmw k
              have z2 := hval8 k hk3
              omega
          | pa f0 l t0 =>
            have hmp : mm ≤ (l + 1 - f0) * t0 := hmm
            have e0 : decide (keyV (.pa f0 l t0) (nk (st.take i)) = V.non) = true := decide_eq_true rfl
            rw [e0]
            refine iteT ?_
            simp only [Stp.ok, Bool.and_eq_true, decide_eq_true_eq] at ok
            have es : sz (st.take i) + mm - sz (st.take i) = mm := Nat.add_sub_cancel_left ..
            refine ⟨_, rfl, _, rfl, _, rfl, _, rfl, d, c, dc, sz (st.take i) + mm, sz (st.take i), nk (st.take i), f0, l, t0, _, _, rfl, hc10, hd10, n10, by omega, by omega, by omega, by omega, by omega, fun H11 b11 hd11 => ?_⟩
            rw [es] at hd11
            have hmod := Nat.mod_lt mm (show l + 1 - f0 > 0 by omega)
            refine ⟨_, _, v9, g8, _, rfl, fun b u eb => b11 b u (ne_of_none eb hd0) (s10 _ _ eb), b11 _ _ hdp hp10, b11 _ _ hdL hL10, hd11, b11 _ _ hDd2 hD10, nodup_add _ _ (nodup_add _ _ (nodup_add _ _ n10)), fun q2 h2 => ?_, fun q2 h2 => (keys_add _ _).mpr (.inl ((keys_add _ _).mpr (.inl ((keys_add _ _).mpr (.inl (mem10 q2 h2)))))), fun q2 h2 => ?_, fun k hk3 => ?_⟩
            · rcases (keys_add _ _).mp h2 with z | z
              · rcases (keys_add _ _).mp z with z | z
                · rcases (keys_add _ _).mp z with z | z
                  · exact key10 q2 z
                  · exact .inl (by omega)
                · exact .inl (by omega)
              · exact .inl (by omega)
            · rcases (keys_add _ _).mp h2 with z | z
              · rcases (keys_add _ _).mp z with z | z
                · rcases (keys_add _ _).mp z with z | z
                  · exact set10 q2 z
                  · rw [z]
                    exact inT _ (by simp [thr])
                · rw [z]
                  have e9 : gfr (.pa f0 l t0) (sz (st.take i)) (sz (st.take i) + mm) = f0 + mm % (l + 1 - f0) := by
                    show f0 + (sz (st.take i) + mm - sz (st.take i)) % (l + 1 - f0) = _
                    rw [es]
                  rw [← e9]
                  exact inG
              · rw [z]
                exact inT _ (by simp [thr])
            · rw [val_pa t.good hy n8 rfl hmp k]
              exact hval8 k hk3
        · rintro σ H8 ⟨v7, v8, v9, g8, W8, rfl, s8, hp8, hL8, hd8, hD8, n8, hk8, hm8, hS8, hval8⟩
          refine ⟨some (.ref c), some (.ref D), v7, v8, v9, g8, W8, rfl, s8, hp8, hL8, hd8, n8, by have := hfewS B.length W8 (Nat.le_refl _) n8 (by rw [List.length_map] at hS8; exact hS8); omega, fun q hq => ?_, hval8⟩
          rw [hnj]
          rcases hk8 q hq with z | z
          · exact z
          · rw [List.length_map, List.drop_length] at z
            cases z
    · rintro σ Hc ⟨v5, v6, v7, v8, v9, g, W, rfl, sc, hpc, hLc, hdc, hn, hlen, hk, hval⟩
      refine ⟨_, rfl, q L Hc hL1 sc ?_⟩
      rw [hLc]
      refine congrArg (fun l => some (HO.lst l)) (cV_congr (h := fun k => (cnt st k e : Int) - (cnt st k a : Int)) fun k hk2 => ?_)
      have hz := val_zero st k (W := W) fun q hq => by
        have := hk q hq
        rw [List.length_reverse, List.length_map, hss.len, Nat.sub_self] at this
        exact Nat.le_zero.mp this
      have := hval k hk2
      omega
end
end KL
/-! ## an int in an f-string, with a specification -/
namespace Pk
open PySem PySem.Spec PyProof.Rows L2 Builtin Float
/-- the text of a number that isn't negative -/
def fieldT (f : FormatSpec) (a : Int) : Str := intField' f false [] ((Nat.toDigits 10 a.natAbs).map Char.toNat) [] 3
/-- what is asked of a specification -/
structure SpecOk (sp : Str) (f : FormatSpec) : Prop where
  parse : parseFormatSpec sp.cps.toList "int" 62 = .ok f
  ne : (sp.length == 0) = false
  asc : ((sp.cps.toList.drop 1).any (· ≥ 128) || (sp.cps.getD 0 0 ≥ 128 && !([60, 62, 61, 94] : List Nat).contains (sp.cps.getD 1 0))) = false
  ty : f.type.getD (if sp.cps.back? == some 0 then 0 else 100) = 100
  prec : f.precision = none
  noNeg : f.noNeg0 = false
  alt : f.alt = false
  width : f.width.getD 0 ≤ 100000
  size : sp.length ≤ sizeLine
section
variable {prog : Program} {w : World} {A : Around} {E : Value → Shared → Prop} {s : Shared}
theorem ff_int {a : Int} {t : Tok} {sp : Str} {f : FormatSpec} {Q : Value → Shared → Prop} (c : SpecOk sp f) (h0 : 0 ≤ a) (hd : a.natAbs.log2 < 1920) (hlen : (fieldT f a).length ≤ sizeLine)
    (h : Q (.str (fieldT f a) (s.toks + 1)) { s with toks := s.toks + 1 + 1 }) : wpAny (model prog w) A (formatField (.int a t) sp) Q E s := by
  obtain ⟨hp, hne, hasc, hty, hpr, hz, hal, hw, hsz⟩ := c
  have hng : decide (a < 0) = false := decide_eq_false (by omega)
  show wpAny _ _ (holding [.int a t] (pyFormat (.int a t) sp)) Q E s
  refine wpAny_holding ?_
  unfold pyFormat
  refine wpAny_bind (wpAny_mkStr ?_ hsz)
  refine wpAny_bind (m := callSpecial? (.int a t) (Str.ofString "__format__") [.str sp s.toks]) (wpAny_callSpecial?_slot (name := Str.ofString "__format__") (typeIs_int _ a t) PyProof.Rows.slot_int_format ?_)
  refine wpAny_call (codeAny_call_builtin PyProof.Rows.slot_int_format.plain PyProof.Rows.entry_int_format (PyProof.Rows.slot_int_format.check _ _ _ _ _ _ _ _ (typeIs_int _ a t) (PyProof.Rows.args_int_format _ _) ?_))
  unfold Builtin.«int.__format__»
  simp only [selfAndOne, noKeywords, Int.intOfSelf, asInt?, asStr?, List.isEmpty_nil, if_true, pure_bind, bind_pure, bind_assoc, hne, hasc, Bool.false_eq_true, if_false,
    show (Value.str sp s.toks == Value.none) = false from rfl]
  refine wpAny_bind (wpAny_typeNameOf (T := "str") (typeIs_str _ _ _) (by decide) fun _ => ?_)
  refine wpAny_bind (wpAny_typeNameOfCut_int ?_)
  simp only [hp, hty]
  rw [if_pos (by decide)]
  show wpAny _ _ (if _ then _ else _) _ _ _
  rw [if_neg (by simp [hpr])]
  show wpAny _ _ (if _ then _ else _) _ _ _
  rw [if_neg (by simp [hz])]
  show wpAny _ _ (if _ then _ else _) _ _ _
  rw [if_neg (by decide)]
  show wpAny _ _ (do let r ← Builtin.overDigitLimit? a; _) _ _ _
  rw [PyProof.Rows.overDigitLimit_small hd]
  refine wpAny_bind (wpAny_pure ?_)
  show wpAny _ _ (if _ then _ else _) _ _ _
  have hw' : ¬ (f.width.getD 0 > 100000) := by omega
  rw [if_neg (by simpa using hw')]
  show wpAny _ _ (retStr _) _ _ _
  unfold retStr
  refine wpAny_bind (wpAny_mkStr (wpAny_pure ?_) ?hs2)
  case hs2 =>
    rw [hng]
    simp only [hal, Bool.false_eq_true, if_false, show ((100 : Nat) == 88) = false by decide, show ((10 : Nat) == 10) = true by decide, if_true]
    clear h
    refine Eq.mp (α := (fieldT f a).length ≤ sizeLine) ?_ hlen
    kernel_rfl
  dsimp only
  refine wpAny_bind (wpAny_isInstance (typeIs_str _ _ _) isSubtype_str_str (wpAny_pure ?_))
  rw [hng]
  simp only [hal, Bool.false_eq_true, if_false, show ((100 : Nat) == 88) = false by decide, show ((10 : Nat) == 10) = true by decide, if_true]
  refine Eq.mp (α := Q (.str (fieldT f a) (s.toks + 1)) { s with toks := s.toks + 1 + 1 }) ?_ h
  kernel_rfl
end
section
variable {X : Cx}
theorem pe_fmtS {e : Expr} {te : TE} {sp : Str} {f : FormatSpec} {p1 p2 pos : Pos} (c : SpecOk sp f) (he : PE X e te) :
    PE X (.FormattedValue e (-1) (some (.JoinedStr [.Constant (.str sp) 0 p2] p1)) pos) (fun σ H Q => te σ H fun x H1 => ∃ a : Int, x = .int a ∧ 0 ≤ a ∧ a.natAbs.log2 < 1920 ∧ (fieldT f a).length ≤ sizeLine ∧ Q (.str (fieldT f a)) H1) := by
  refine ⟨fun pins s σ H Q I h => ?_⟩
  refine wpAny_FormattedValue_spec (thn (he.run pins s σ H _ I h) fun v s1 hv => ?_)
  obtain ⟨x, H1, I1, r1, a, rfl, h0, hd, hl, q⟩ := hv
  obtain ⟨t, rfl⟩ := r1
  refine thn ((pe_joined1 pe_str).run pins s1 σ H1 (fun y H2 => y = .str sp ∧ H2 = H1) I1 ⟨rfl, rfl⟩) fun v2 s2 hv2 => ?_
  obtain ⟨y, H2, I2, r2, rfl, rfl⟩ := hv2
  obtain ⟨t2, rfl⟩ := r2
  exact ⟨sp, t2, rfl, ff_int c h0 hd hl ⟨.str (fieldT f a), H2, I2.tok _, ⟨_, rfl⟩, q⟩⟩
end
/-- {x:>4} and {x:>26,} -/
theorem spec4 : SpecOk ">4" { align := 62, width := some 4 } := ⟨by rfl, by rfl, by decide +kernel, by rfl, rfl, rfl, rfl, by decide, by decide +kernel⟩
theorem spec26 : SpecOk ">26," { align := 62, width := some 26, grouping := some ',' } := ⟨by rfl, by rfl, by decide +kernel, by rfl, rfl, rfl, rfl, by decide, by decide +kernel⟩
end Pk
namespace KL
open PySem PySem.Spec PyProof.Rows L2 Pk He
/-- figures in threes -/
def grp : Nat → List Nat → List Nat → List Nat
  | 0, w, fo => w ++ fo
  | m + 1, w, fo => if 3 < w.length then grp m (w.take (w.length - 3)) (44 :: (w.drop (w.length - 3) ++ fo)) else w ++ fo
def figs (n : Int) : List Nat := (Nat.toDigits 10 n.natAbs).map Char.toNat
theorem figs_len {n : Int} (h : 0 ≤ n) (h2 : n < 1000000000000000000) : 1 ≤ (figs n).length ∧ (figs n).length ≤ 18 := by
  unfold figs
  rw [List.length_map]
  refine ⟨tDigits_len_ge _ _, digits10_le (by decide) ?_⟩
  have : (10 : Nat) ^ 18 = 1000000000000000000 := by decide
  omega
theorem log_small {n : Int} (h : 0 ≤ n) (h2 : n < 1000000000000000000) : n.natAbs.log2 < 1920 := by
  have h3 : n.natAbs < 2 ^ 1920 := Nat.lt_of_lt_of_le (show n.natAbs < 1000000000000000000 by omega) (by decide +kernel)
  by_cases e : n.natAbs = 0
  · rw [e]
    decide
  · exact (Nat.log2_lt e).mpr h3
def padN (n : Nat) (l : List Nat) : List Nat := List.replicate (n - l.length) 32 ++ l
theorem pad26_of : ∀ ds : List Nat, 1 ≤ ds.length → ds.length ≤ 18 → intField' { align := 62, width := some 26, grouping := some ',' } false [] ds [] 3 = sL (padN 26 (grp 7 ds []))
  | [], h, _ => absurd h (by decide)
  | [_], _, _ => by kernel_rfl
  | [_, _], _, _ => by kernel_rfl
  | [_, _, _], _, _ => by kernel_rfl
  | [_, _, _, _], _, _ => by kernel_rfl
  | [_, _, _, _, _], _, _ => by kernel_rfl
  | [_, _, _, _, _, _], _, _ => by kernel_rfl
  | [_, _, _, _, _, _, _], _, _ => by kernel_rfl
  | [_, _, _, _, _, _, _, _], _, _ => by kernel_rfl
  | [_, _, _, _, _, _, _, _, _], _, _ => by kernel_rfl
  | [_, _, _, _, _, _, _, _, _, _], _, _ => by kernel_rfl
  | [_, _, _, _, _, _, _, _, _, _, _], _, _ => by kernel_rfl
  | [_, _, _, _, _, _, _, _, _, _, _, _], _, _ => by kernel_rfl
  | [_, _, _, _, _, _, _, _, _, _, _, _, _], _, _ => by kernel_rfl
  | [_, _, _, _, _, _, _, _, _, _, _, _, _, _], _, _ => by kernel_rfl
  | [_, _, _, _, _, _, _, _, _, _, _, _, _, _, _], _, _ => by kernel_rfl
  | [_, _, _, _, _, _, _, _, _, _, _, _, _, _, _, _], _, _ => by kernel_rfl
  | [_, _, _, _, _, _, _, _, _, _, _, _, _, _, _, _, _], _, _ => by kernel_rfl
  | [_, _, _, _, _, _, _, _, _, _, _, _, _, _, _, _, _, _], _, _ => by kernel_rfl
  | _ :: _ :: _ :: _ :: _ :: _ :: _ :: _ :: _ :: _ :: _ :: _ :: _ :: _ :: _ :: _ :: _ :: _ :: _ :: _, _, h => absurd h (by simp)
theorem pad4_of : ∀ ds : List Nat, 1 ≤ ds.length → ds.length ≤ 4 → intField' { align := 62, width := some 4 } false [] ds [] 3 = sL (padN 4 ds)
  | [], h, _ => absurd h (by decide)
  | [_], _, _ => by kernel_rfl
  | [_, _], _, _ => by kernel_rfl
  | [_, _, _], _, _ => by kernel_rfl
  | [_, _, _, _], _, _ => by kernel_rfl
  | _ :: _ :: _ :: _ :: _ :: _, _, h => absurd h (by simp)
theorem grp_len : ∀ ds : List Nat, ds.length ≤ 18 → (grp 7 ds []).length ≤ 25 := fun ds h => by
  have k2 : ∀ (m : Nat) (w fo : List Nat), w.length ≤ 3 * m → (grp m w fo).length + 1 ≤ w.length + fo.length + m + (if m = 0 then 1 else 0) := by
    intro m
    induction m with
    | zero => intro w fo h; show (w ++ fo).length + 1 ≤ _; rw [List.length_append]; simp
    | succ m ih =>
      intro w fo h
      show (if _ then _ else _ : List Nat).length + 1 ≤ _
      split
      · have := ih (w.take (w.length - 3)) (44 :: (w.drop (w.length - 3) ++ fo)) (by rw [List.length_take]; omega)
        rw [List.length_take, List.length_cons, List.length_append, List.length_drop] at this
        have hm : m ≠ 0 := by omega
        rw [if_neg hm] at this
        rw [if_neg (Nat.succ_ne_zero m)]
        omega
      · rw [List.length_append, if_neg (Nat.succ_ne_zero m)]
        omega
  have := k2 7 ds [] (by omega)
  simp at this
  omega
theorem fld26 {n : Int} (h : 0 ≤ n) (h2 : n < 1000000000000000000) : fieldT { align := 62, width := some 26, grouping := some ',' } n = sL (padN 26 (grp 7 (figs n) [])) := pad26_of _ (figs_len h h2).1 (figs_len h h2).2
theorem figs4 {n : Int} (h : 0 ≤ n) (h2 : n < 10000) : 1 ≤ (figs n).length ∧ (figs n).length ≤ 4 := by
  unfold figs
  rw [List.length_map]
  refine ⟨tDigits_len_ge _ _, digits10_le (by decide) ?_⟩
  have : (10 : Nat) ^ 4 = 10000 := by decide
  omega
theorem fld4 {n : Int} (h : 0 ≤ n) (h2 : n < 10000) : fieldT { align := 62, width := some 4 } n = sL (padN 4 (figs n)) := pad4_of _ (figs4 h h2).1 (figs4 h h2).2
/-- a row of the table -/
def rowL (k c l : Nat) : List Nat := padN 4 (figs (k : Nat)) ++ 32 :: l :: 32 :: padN 26 (grp 7 (figs (c : Nat)) [])
def tabT (st : List Stp) : Str := Txt.join "\n" ((List.range (nk st)).map fun k => sL (rowL k (cnt st k (sz st)) (ltr st k)))
def spTable (K : Fr) : Sp := fun vs H Q _ => ∃ (x : Addr) (st : List Stp), vs = [.ref x] ∧ TA_ K H x st ∧ sz st < 1000000000000000000 ∧ ∀ H2, Same H H2 → Q (.str (tabT st)) H2
theorem fits {l : List Nat} (h : l.length ≤ 1000) : (sL l).length ≤ sizeLine := by
  rw [sL_len]
  exact Nat.le_trans h (by decide)
theorem row_js {σ : L2.St} {H : Hp} {i c l : Nat} {Q : Str → Hp → Prop} (h3 : σ[3]? = some (some (.int (i : Nat)))) (h4 : σ[4]? = some (some (.int (c : Nat)))) (h5 : σ[5]? = some (some (.str ⟨#[l]⟩))) (hi : i < 10000) (hc : c < 1000000000000000000) (q : Q (sL (rowL i c l)) H) :
    tJs [fun σ H Q => tVar 3 σ H fun x H1 => ∃ a : Int, x = .int a ∧ 0 ≤ a ∧ a.natAbs.log2 < 1920 ∧ (fieldT { align := 62, width := some 4 } a).length ≤ sizeLine ∧ Q (.str (fieldT { align := 62, width := some 4 } a)) H1, tC (.str " "), tFmt (tVar 5), tC (.str " "),
      fun σ H Q => tVar 4 σ H fun x H1 => ∃ a : Int, x = .int a ∧ 0 ≤ a ∧ a.natAbs.log2 < 1920 ∧ (fieldT { align := 62, width := some 26, grouping := some ',' } a).length ≤ sizeLine ∧ Q (.str (fieldT { align := 62, width := some 26, grouping := some ',' } a)) H1] Str.empty σ H Q := by
  have a1 : (Str.empty ++ sL (padN 4 (figs (i : Nat)))) = sL (padN 4 (figs (i : Nat))) := by
    show sL [] ++ _ = _
    rw [sL_app]
    rfl
  have hs : (" " : Str) = sL [32] := by rfl
  have hl : (⟨#[l]⟩ : Str) = sL [l] := rfl
  have hi4 := figs4 (n := (i : Nat)) (by omega) (by omega)
  have hc12 := figs_len (n := (c : Nat)) (by omega) (by omega)
  have hg := grp_len _ hc12.2
  have p4 : (padN 4 (figs (i : Nat))).length ≤ 8 := by
    unfold padN
    rw [List.length_append, List.length_replicate]
    omega
  have p26 : (padN 26 (grp 7 (figs (c : Nat)) [])).length ≤ 50 := by
    unfold padN
    rw [List.length_append, List.length_replicate]
    omega
  refine ⟨_, h3, _, rfl, by omega, log_small (by omega) (by omega), ?_, _, rfl, ?_, ?_⟩
  · rw [fld4 (by omega) (by omega)]
    exact fits (by omega)
  · rw [fld4 (by omega) (by omega), a1]
    exact fits (by omega)
  rw [fld4 (by omega) (by omega), a1]
  refine ⟨_, rfl, ?_, ?_⟩
  · rw [hs, sL_app]
    exact fits (by rw [List.length_append, List.length_singleton]; omega)
  rw [hs, sL_app]
  refine ⟨_, h5, .inl ⟨_, rfl, ?_, _, rfl, ?_, ?_⟩⟩
  · rw [hl]
    exact fits (by simp)
  · rw [hl, sL_app]
    exact fits (by simp only [List.length_append, List.length_singleton]; omega)
  rw [hl, sL_app]
  refine ⟨_, rfl, ?_, ?_⟩
  · rw [sL_app]
    exact fits (by simp only [List.length_append, List.length_singleton]; omega)
  rw [sL_app]
  refine ⟨_, h4, _, rfl, by omega, log_small (by omega) (by omega), ?_, _, rfl, ?_, ?_⟩
  · rw [fld26 (by omega) (by omega)]
    exact fits (by omega)
  · rw [fld26 (by omega) (by omega), sL_app]
    exact fits (by simp only [List.length_append, List.length_singleton]; omega)
  rw [fld26 (by omega) (by omega), sL_app]
  have e : padN 4 (figs (i : Nat)) ++ [32] ++ [l] ++ [32] ++ padN 26 (grp 7 (figs (c : Nat)) []) = rowL i c l := by
    unfold rowL
    simp
  show Q (sL (padN 4 (figs (i : Nat)) ++ [32] ++ [l] ++ [32] ++ padN 26 (grp 7 (figs (c : Nat)) []))) H
  rw [e]
  exact q
def tRowF : TE := fun σ H Q => ∃ i c l : Nat, σ[3]? = some (some (.int (i : Nat))) ∧ σ[4]? = some (some (.int (c : Nat))) ∧ σ[5]? = some (some (.str ⟨#[l]⟩)) ∧ i < 10000 ∧ c < 1000000000000000000 ∧ Q (.str (sL (rowL i c l))) H
theorem pe_row {X : Cx} {e3 e4 e5 : Expr} {p1 p2 p3 p4 p5 p6 p7 p8 p9 p10 : Pos} (h3 : PE X e3 (tVar 3)) (h5 : PE X e5 (tVar 5)) (h4 : PE X e4 (tVar 4)) :
    PE X (.JoinedStr [.FormattedValue e3 (-1) (some (.JoinedStr [.Constant (.str ">4") 0 p2] p1)) p3, .Constant (.str " ") 0 p4, .FormattedValue e5 (-1) none p5, .Constant (.str " ") 0 p6, .FormattedValue e4 (-1) (some (.JoinedStr [.Constant (.str ">26,") 0 p8] p7)) p9] p10) tRowF :=
  pe_imp (pe_joined (PJ.cons (pe_fmtS spec4 h3) (PJ.cons pe_str (PJ.cons (pe_fmt h5) (PJ.cons pe_str (PJ.cons (pe_fmtS spec26 h4) PJ.nil)))))) fun σ H Q ⟨i, c, l, a3, a4, a5, hi, hc, q⟩ => row_js a3 a4 a5 hi hc q
theorem rowL_len {i c l : Nat} (hi : i < 10000) (hc : c < 1000000000000000000) : (rowL i c l).length ≤ 70 := by
  have hi4 := figs4 (n := (i : Nat)) (by omega) (by omega)
  have hc12 := figs_len (n := (c : Nat)) (by omega) (by omega)
  have hg := grp_len _ hc12.2
  unfold rowL padN
  simp only [List.length_append, List.length_replicate, List.length_cons]
  omega
theorem sum_le_mul : ∀ (l : List Str) (B : Nat), (∀ x ∈ l, x.length ≤ B) → (l.map (·.length)).sum ≤ l.length * B
  | [], B, _ => Nat.zero_le _
  | a :: l, B, h => by
    rw [List.map_cons, List.sum_cons, List.length_cons, Nat.add_mul, Nat.one_mul]
    have h1 := sum_le_mul l B fun x hx => h x (List.mem_cons_of_mem _ hx)
    have h2 := h a (List.mem_cons_self ..)
    omega
theorem cnt_le_sz (st : List Stp) (k : Nat) : Pk.cnt st k (sz st) ≤ sz st := by
  unfold Pk.cnt
  refine Nat.le_trans List.countP_le_length ?_
  rw [List.length_take]
  exact Nat.min_le_left _ _
theorem tab_fits {st : List Stp} (h : nk st ≤ 600) (hsz : sz st < 1000000000000000000) : (((List.range (nk st)).map fun k => sL (rowL k (cnt st k (sz st)) (ltr st k))).map (·.length)).sum + ((List.range (nk st)).map fun k => sL (rowL k (cnt st k (sz st)) (ltr st k))).length * (Str.ofString "\n").length ≤ 16777216 := by
  have h1 := sum_le_mul ((List.range (nk st)).map fun k => sL (rowL k (cnt st k (sz st)) (ltr st k))) 70 fun x hx => by
    obtain ⟨k, hk, rfl⟩ := List.mem_map.mp hx
    rw [List.mem_range] at hk
    rw [sL_len]
    exact rowL_len (by omega) (Nat.lt_of_le_of_lt (cnt_le_sz st k) hsz)
  have hn : (Str.ofString "\n").length = 1 := by decide +kernel
  rw [hn]
  rw [List.length_map, List.length_range] at h1 ⊢
  omega
end KL
namespace KL
open PySem PySem.Spec PyProof.Rows L2 Pk He
section
variable {P : Program} {w : World} {K : Fr} {mg : Str → Option Value} {base : Heap} {f : Addr}
-- hint: f'{key:>4} {letter} {many:>26,}' => (pe_row (pv 3) (pv 5) (pv 4))
theorem ok_key_table (D : Df K "key_table" "key_table" s_key_table (ga K "key_table")) (T : Tc w K mg) (G_key_counts : Kp P w K mg base 4 (ga K "key_counts") (spCounts K)) (G_Text_size : Kp P w K mg base 1 (pgA K (CT K) "size") (spSize K)) (G_Text_typed_keys : Kp P w K mg base 1 (pgA K (CT K) "typed_keys") (spTyped K)) : Kp P w K mg base 12 (ga K "key_table") (spTable K) := by
  refine kp_of D sc_key_table (fun _ _ _ _ _ _ us hl => match us, hl with | [_], _ => rfl) ?_ (fun cdv A outer s H vs Q E hr h => ?_)
  · rintro vs H Q E ⟨x, st, rfl, _⟩
    rfl
  · obtain ⟨x, st, rfl, tx, hsz, q⟩ := h
    have hnk9 : nk st ≤ 600 := by
      have h1 := nk_le tx.good
      have h2 := tx.few
      omega
    refine ⟨_, (pss_cons (ps_set (i := 1) sc_key_table.nd rfl (Or.inl rfl) (pk_call G_key_counts (hr.mono (by omega)) T.gCounts (pa_cons (pv 0) (pa_cons pe_int (pa_cons (pe_op op_sub (pk_prop (pv 0) T.clT T.pSize G_Text_size (hr.mono (by omega))) pe_int) pa_nil))))) (pss_cons (ps_set (i := 2) sc_key_table.nd rfl (Or.inl rfl) (pe_lst pa_nil)) (pss_cons (ps_for PassesOwn.never rfl (pi_enumX (by rfl) T.enu (pa_cons (pv 1) pa_nil)) (pg_tup rfl (pgs_cons (pg_name (i := 3) sc_key_table.nd rfl (Or.inl rfl)) (pgs_cons (pg_name (i := 4) sc_key_table.nd rfl (Or.inl rfl)) pgs_nil))) (pss_cons (ps_set (i := 5) sc_key_table.nd rfl (Or.inl rfl) (pe_ix (ixS K) (pk_prop (pv 0) T.clT T.pTyped G_Text_typed_keys (hr.mono (by omega))) (pv 3) (fun _ _ => rfl))) (pss_one (ps_expr (pe_bm PySem.F.plainAttrs_list PySem.F.slot_list_append PySem.F.type_list_append mt_append (pv 2) (pa_cons (pe_row (pv 3) (pv 5) (pv 4)) pa_nil)))))) (pss_one (ps_ret (pe_joinK K pe_str (pv 2))))))), ?_⟩
    have hsz0 : ((sz st : Int) - 1 + 1).toNat = sz st := by omega
    have hc0 : ∀ k, Pk.cnt st k (Int.toNat 0) = 0 := fun k => by
      unfold Pk.cnt
      simp
    obtain ⟨dx_x, ts_x, sp_x, as_x, ss_x, hx_x, hts_x, hst_x, hsp_x, hss_x⟩ := tx.obj
    have hty_x := typed_small tx
    have hg_x := tx.good
    refine ⟨_, rfl, _, rfl, _, _, _, rfl, hx_x, _, _, rfl, tx, _, _, rfl, rfl, _, _, _, _, rfl, tx, (by omega), (by omega), (by omega), fun l H2 n s1 e => ?_⟩
    have ne_x_l := ne_of_none hx_x n
    refine ⟨(by (show 0 ≤ _; decide)), fun p n1 => ?_⟩
    have ne_x_p := ne_of_none (s1 _ _ hx_x) n1
    have ne_l_p := ne_of_none e n1
    refine ⟨_, rfl, ?_⟩
    generalize hσ : List.set _ _ _ = σ1
    simp only [L2.start, List.set_cons_zero, List.set_cons_succ, List.map_cons, List.map_nil, List.length_cons, List.length_nil, List.replicate_succ, List.replicate_zero, List.cons_append, List.nil_append, Nat.reduceAdd, Nat.reduceSub] at hσ
    subst hσ
    have hcV : (cV (nk st) fun k => ((Pk.cnt st k ((sz st : Int) - 1 + 1).toNat : Nat) : Int) - ((Pk.cnt st k (Int.toNat 0) : Nat) : Int)) = nV ((List.range (nk st)).map fun k => cnt st k (sz st)) := by
      unfold cV nV
      rw [List.map_map]
      refine List.map_congr_left fun k _ => ?_
      show V.int (_ - ((Pk.cnt st k (Int.toNat 0) : Nat) : Int)) = _
      rw [hsz0, hc0 k]
      simp
    rw [hcV] at e
    have s2 : Same H2 (upd H2 p (.lst [])) := same_upd n1
    have e_p : (upd H2 p (.lst [])) p = some (.lst []) := upd_same
    generalize upd H2 p (.lst []) = H3 at s2 e_p ⊢
    refine ⟨.lst l, _, rfl, SqL.of (s2 _ _ e), ?_⟩
    refine for_it (walk_enumX (K := K) (S := .lst l) (xs := nV ((List.range (nk st)).map fun k => cnt st k (sz st)))) (fun i σ HB => ∃ (v3 v4 v5 : Option V), σ = [some (.ref x), some (.ref l), some (.ref p), v3, v4, v5] ∧ But p H3 HB ∧ HB p = some (.lst (((List.range i).map fun k => sL (rowL k (cnt st k (sz st)) (ltr st k))).map V.str))) ⟨none, none, none, rfl, But.refl _ _, e_p⟩ ?_ ?_ ?_
    · rintro i σ HB _ ⟨v3, v4, v5, _, bB, _⟩
      exact SqL.of (bB _ _ ne_l_p (s2 _ _ e))
    · rintro i v σ HB HC hi ⟨v3, v4, v5, rfl, bB, eB⟩ ⟨T0, u1, u2, rfl, hT0, rfl, ev1, ev2⟩
      cases ev1
      rw [nV_len, List.length_map, List.length_range] at hi
      have ev2 : (nV ((List.range (nk st)).map fun k => cnt st k (sz st)))[i]? = some u2 := ev2
      have hu2 : u2 = .int (cnt st i (sz st) : Nat) := by
        unfold nV at ev2
        rw [List.map_map, List.getElem?_map, List.getElem?_range hi] at ev2
        exact (Option.some.inj ev2).symm
      subst hu2
      have txB := text_butL e_p bB (tx.same (s1.trans s2))
      have hcl : Pk.cnt st i (sz st) < 1000000000000000000 := by
        refine Nat.lt_of_le_of_lt ?_ hsz
        unfold Pk.cnt
        refine Nat.le_trans List.countP_le_length ?_
        rw [List.length_take]
        exact Nat.min_le_left _ _
      have hil : ((List.range i).map fun k => sL (rowL k (Pk.cnt st k (sz st)) (ltr st k))).length = i := by
        rw [List.length_map, List.length_range]
      generalize hE : upd HB T0 _ = H1
      have s3 : Same HB H1 := hE ▸ same_upd hT0
      have e_T0 := (congrFun hE T0).symm.trans upd_same
      clear hE
      refine ⟨_, _, rfl, (SqT.of e_T0), rfl, _, _, rfl, _, _, rfl, rfl, _, rfl, _, _, _, rfl, (s3 _ _ (bB _ _ ne_x_p (s2 _ _ (s1 _ _ hx_x)))), _, _, rfl, (TextAt.same txB s3), _, rfl, (.inr (.inr ⟨_, _, _, rfl, rfl, (by exact small_ok (by omega)), (at_typedI (by omega) (by omega)), _, rfl, (.inl ⟨rfl, ⟨_, (SqL.of (s3 _ _ eB))⟩⟩), _, _, _, rfl, rfl, rfl, (by omega), (by omega), _, _, _, rfl, rfl, (s3 _ _ eB), (by exact small_ok (by simp only [cV_len, nV_len, List.length_append, List.length_map, List.length_take, List.length_drop, List.length_range, sL_len, typed_len, lts_len, kvL_len]; omega)), ?_⟩))⟩
      have ne_x_T0 := ne_of_none ((but_new (s1.trans s2) bB (s1.free n1)) _ _ hx_x) hT0
      have ne_l_T0 := ne_of_none ((but_new s2 bB n1) _ _ e) hT0
      have ne_p_T0 := ne_of_none eB hT0
      generalize hE : upd H1 p _ = H11
      have b : But p H1 H11 := hE ▸ but_upd
      have s4 : Same H2 H11 := hE ▸ same_own ((but_new s2 bB n1).trans s3) n1
      have s5 : Same H H11 := hE ▸ same_own ((but_new (s1.trans s2) bB (s1.free n1)).trans s3) (s1.free n1)
      have e_p1 := (congrFun hE p).symm.trans upd_same
      clear hE
      generalize hσ : List.set _ _ _ = σ1
      simp only [L2.start, List.set_cons_zero, List.set_cons_succ, List.map_cons, List.map_nil, List.length_cons, List.length_nil, List.replicate_succ, List.replicate_zero, List.cons_append, List.nil_append, Nat.reduceAdd, Nat.reduceSub] at hσ
      subst hσ
      refine ⟨_, _, _, rfl, ((bB.trans (Same.but s3)).trans b), ?_⟩
      rw [e_p1, List.range_succ, List.map_append, List.map_append]
      rfl
    · rintro σ HB ⟨v3, v4, v5, rfl, bB, eB⟩
      rw [show (nV ((List.range (nk st)).map fun k => cnt st k (sz st))).length = nk st by rw [nV_len, List.length_map, List.length_range]] at eB
      have htab : tabT st = Txt.join "\n" ((List.range (nk st)).map fun k => sL (rowL k (cnt st k (sz st)) (ltr st k))) := rfl
      have hjl := tab_fits hnk9 hsz
      have sB : Same H HB := but_new (s1.trans s2) bB (s1.free n1)
      have q := q HB sB
      rw [htab] at q
      refine ⟨⟨_, rfl⟩, _, rfl, _, _, _, rfl, rfl, (.inl (SqL.of eB)), (by omega), ?_⟩
      exact q
end
end KL
namespace KL
open PySem PySem.Spec PyProof.Rows L2 Pk He
/-! ### steps as data -/
def stD : Stp → PyData
  | .wr w => .tuple [.str "write", .str (sL w)]
  | .pa f l t => .tuple [.str "paste", .int (f : Nat), .int (l : Nat), .int (t : Nat)]
def spStepsP (K : Fr) : Sp := fun vs H Q _ => ∃ (x : Addr) (st : List Stp), vs = [.ref x] ∧ TA_ K H x st ∧ ∀ (ts : Addr) (as : List Addr), SqT K H ts (as.map V.ref) → StepsAt K H as st → Q (.ref ts) H
def spGet (K : Fr) : Sp := fun vs H Q _ => ∃ (x : Addr) (p : Nat) (st : List Stp), vs = [.ref x, .int p] ∧ TA_ K H x st ∧ p < sz st ∧ ∀ (k c : Nat) H2, Same H H2 → (ex st)[p]? = some k → (typed st)[k]? = some c → Q (.str (sL [c])) H2
def hasV (st : List Stp) : V → Bool
  | .str z => (match z.cps.toList with
    | [c] => isLet c && decide (c ∈ typed st)
    | _ => false)
  | _ => false
def spHas (K : Fr) : Sp := fun vs H Q _ => ∃ (x : Addr) (v : V) (st : List Stp), vs = [.ref x, v] ∧ TA_ K H x st ∧ flatV v = true ∧ fitV v ∧ Q (.bl (hasV st v)) H
section
variable {P : Program} {w : World} {K : Fr} {mg : Str → Option Value} {base : Heap} {f : Addr}
theorem scStepsP : FnScope ["self"] ["self"] (defScope sStepsP) := ⟨rfl, rfl, rfl, by decide +kernel, rfl, by decide +kernel, by decide +kernel⟩
theorem ok_stepsp (D : Df K "steps" "Text.steps" sStepsP f) (T : Tc w K mg) : Kp P w K mg base 1 f (spStepsP K) := by
  refine kp_of D scStepsP (fun _ _ _ _ _ _ us hl => match us, hl with | [_], _ => rfl) ?_ (fun cdv A outer s H vs Q E hr h => ?_)
  · rintro vs H Q E ⟨x, st, rfl, _⟩
    rfl
  · obtain ⟨x, st, rfl, t, q⟩ := h
    obtain ⟨dx, ts, sp, as, ss, hx, hts, hst, _⟩ := t.obj
    exact ⟨_, (pss_one (ps_ret (pe_fld (pv 0) rfl))), _, rfl, x, _, dx, _, _, rfl, hx, T.clT, T.nT1, rfl, q ts as hts hst⟩
theorem scGet : FnScope ["self", "at"] ["self", "at"] (defScope sGet) := ⟨rfl, rfl, rfl, by decide +kernel, rfl, by decide +kernel, by decide +kernel⟩
theorem ok_get (D : Df K "__getitem__" "Text.__getitem__" sGet f) (T : Tc w K mg) (GC : Kp P w K mg base 2 (ma K (CT K) "_check_place") (spCheck K)) (GK : Kp P w K mg base 1 (ga K "key_at") (spKeyAt K)) : Kp P w K mg base 3 f (spGet K) := by
  obtain ⟨fdC, psC, FC, bC, kpC⟩ := GC
  refine kp_of D scGet (fun _ _ _ _ _ _ us hl => match us, hl with | [_, _], _ => rfl) ?_ (fun cdv A outer s H vs Q E hr h => ?_)
  · rintro vs H Q E ⟨x, p, st, rfl, _⟩
    rfl
  · obtain ⟨x, p, st, rfl, t, hp, q⟩ := h
    obtain ⟨dx, ts, sp, as, ss, hx, _, _, hsp, hss⟩ := t.obj
    have hz := typed_small t
    refine ⟨_, (pss_cons (ps_expr (pe_meth (pv 0) T.clT T.mCheck FC (hr.mono (by decide)) bC .nil pass0 (pa_cons (pv 1) pa_nil))) (pss_one (ps_ret (pe_item_str (pe_fld (pv 0) rfl) (pk_call GK (hr.mono (by decide)) T.gKeyAt (pa_cons (pe_fld (pv 0) rfl) (pa_cons (pv 1) pa_nil))) (fun _ _ => rfl))))), ?_⟩
    refine ⟨_, rfl, x, dx, _, rfl, hx, lk_check _ _ _, _, rfl, x, p, st, rfl, t, hp, ?_⟩
    refine ⟨_, rfl, x, _, dx, _, _, rfl, hx, T.clT, T.nT4, rfl, _, rfl, x, _, dx, _, _, rfl, hx, T.clT, T.nT2, rfl, _, rfl, sp, p, ss, st, rfl, hsp, hss, t.good, hp, fun k H2 s2 hk => ?_⟩
    have hkn := ex_lt st k (List.mem_of_getElem? hk)
    obtain ⟨c, hc⟩ : ∃ c, (typed st)[k]? = some c := ⟨(typed st)[k]'(by rw [typed_len]; exact hkn), List.getElem?_eq_getElem _⟩
    rw [sL_len, typed_len] at hz
    refine ⟨_, _, c, rfl, rfl, by omega, by omega, by rw [sL_len, typed_len]; omega, ?_, q k c H2 s2 hk hc⟩
    rw [Int.toNat_natCast, ← Array.getElem?_toList]
    exact hc
theorem scHas : FnScope ["self", "x"] ["self", "x"] (defScope sHas) := ⟨rfl, rfl, rfl, by decide +kernel, rfl, by decide +kernel, by decide +kernel⟩
theorem ok_has (D : Df K "__contains__" "Text.__contains__" sHas f) (T : Tc w K mg) (GL : Kp P w K mg base 1 (ga K "is_letter") spIsLetter) : Kp P w K mg base 2 f (spHas K) := by
  refine kp_of D scHas (fun _ _ _ _ _ _ us hl => match us, hl with | [_, _], _ => rfl) ?_ (fun cdv A outer s H vs Q E hr h => ?_)
  · rintro vs H Q E ⟨x, v, st, rfl, _⟩
    rfl
  · obtain ⟨x, v, st, rfl, t, fl, ft, q⟩ := h
    obtain ⟨dx, ts, sp, as, ss, hx, _, _, hsp, hss⟩ := t.obj
    refine ⟨_, (pss_one (ps_ret (pe_and (pk_call GL (hr.mono (by decide)) T.gIsLetter (pa_cons (pv 1) pa_nil)) (pe_one (pe_cmpR op_in_sign (pv 1) (pe_fld (pv 0) rfl) rfl))))), ?_⟩
    refine ⟨_, rfl, v, rfl, fl, ft, _, rfl, ?_⟩
    have hno : isLetV v ≠ true → hasV st v = false := fun h => by
      cases v with
      | str z =>
        unfold hasV
        unfold isLetV at h
        simp only at h ⊢
        split
        · rename_i c e
          rw [e] at h
          simp only at h
          rw [Bool.eq_false_iff.mpr h]
          rfl
        · rfl
      | _ => rfl
    refine ite2 (fun h1 => ?_) fun h1 => ?_
    · cases v with
      | str z =>
        unfold isLetV at h1
        simp only at h1
        split at h1
        · rename_i c e
          have ez : z = ⟨#[c]⟩ := by
            rw [sL_of z, e]
            rfl
          refine ⟨_, rfl, _, rfl, x, _, dx, _, _, rfl, hx, T.clT, T.nT4, rfl, c, _, by rw [ez], rfl, ?_⟩
          have e2 : hasV st (.str z) = decide (c ∈ (sL (typed st)).cps.toList) := by
            show (match z.cps.toList with
              | [c] => isLet c && decide (c ∈ typed st)
              | _ => false) = _
            rw [e]
            simp only [h1, Bool.true_and]
            rfl
          rw [← e2]
          exact q
        · cases h1
      | _ => cases h1
    · rw [hno h1] at q
      exact q
end
end KL
namespace KL
open PySem PySem.Spec PyProof.Rows L2 Pk He
/-! ### promises with ints for places -/
def spGetI (K : Fr) : Sp := fun vs H Q _ => ∃ (x : Addr) (p : Int) (st : List Stp), vs = [.ref x, .int p] ∧ TA_ K H x st ∧ 0 ≤ p ∧ p < (sz st : Nat) ∧ ∀ (k c : Nat) H2, Same H H2 → (ex st)[p.toNat]? = some k → (typed st)[k]? = some c → Q (.str (sL [c])) H2
def spCallI (K : Fr) : Sp := fun vs H Q _ => ∃ (x : Addr) (p : Int) (st : List Stp), vs = [.ref x, .int p] ∧ TA_ K H x st ∧ 0 ≤ p ∧ p < (sz st : Nat) ∧ ∀ (k : Nat) H2, Same H H2 → (ex st)[p.toNat]? = some k → Q (.int k) H2
section
variable {P : Program} {w : World} {K : Fr} {mg : Str → Option Value} {base : Heap} {f : Addr} {k : Nat}
theorem getI (G : Kp P w K mg base k f (spGet K)) : Kp P w K mg base k f (spGetI K) := by
  refine Kp.sub G fun vs H Q E h => ?_
  obtain ⟨x, p, st, rfl, t, h0, h1, q⟩ := h
  refine ⟨x, p.toNat, st, by rw [Int.toNat_of_nonneg h0], t, by omega, q⟩
theorem callI (G : Kp P w K mg base k f (spCall K)) : Kp P w K mg base k f (spCallI K) := by
  refine Kp.sub G fun vs H Q E h => ?_
  obtain ⟨x, p, st, rfl, t, h0, h1, q⟩ := h
  refine ⟨x, p.toNat, st, by rw [Int.toNat_of_nonneg h0], t, by omega, q⟩
end
end KL
namespace KL
open PySem PySem.Spec PyProof.Rows L2 Pk He
theorem stD_dp {K : Fr} {H : Hp} {a : Addr} {x : Stp} (h : SqT K H a (stV x)) : Dp K H (.ref a) (stD x) := by
  cases x with
  | wr w => exact .tup h (.cons (.str _) (.cons (.str _) .nil))
  | pa f l t => exact .tup h (.cons (.str _) (.cons (.int _) (.cons (.int _) (.cons (.int _) .nil))))
theorem steps_dpA {K : Fr} {H : Hp} : ∀ {as : List Addr} {st : List Stp}, as.length = st.length → (∀ (i : Nat) (x : Stp), st[i]? = some x → ∃ a, as[i]? = some a ∧ SqT K H a (stV x)) → DpAll K H (as.map V.ref) (st.map stD)
  | [], [], _, _ => .nil
  | [], _ :: _, h, _ => by cases h
  | _ :: _, [], h, _ => by cases h
  | a :: as, x :: st, h, k => by
    obtain ⟨b, hb, hx⟩ := k 0 x rfl
    cases hb
    exact .cons (stD_dp hx) (steps_dpA (by simpa using h) fun i y hy => k (i + 1) y hy)
theorem steps_dp {K : Fr} {H : Hp} {t : Addr} {as : List Addr} {st : List Stp} (h : SqT K H t (as.map V.ref)) (k : StepsAt K H as st) : Dp K H (.ref t) (.tuple (st.map stD)) := .tup h (steps_dpA k.len k.at_)
theorem sL_ok {l : List Nat} (h : l.all isLet = true) : PyData.strOk (sL l) = true := by
  show (sL l).cps.all (· < 0x110000) = true
  rw [List.all_eq_true] at h
  rw [Array.all_eq_true']
  intro c hc
  have hc2 : c ∈ l := by simpa [sL] using hc
  have := h c hc2
  simp only [isLet, Bool.and_eq_true, decide_eq_true_eq] at this ⊢
  omega
theorem stD_lay {s : Nat} {x : Stp} (h : x.ok s = true) : (stD x).canLay0 = true := by
  cases x with
  | wr w =>
    simp only [Stp.ok, Bool.and_eq_true] at h
    have h1 := sL_ok h.2
    have h2 : PyData.strOk (Str.ofString "write") = true := by decide +kernel
    simp [stD, PyData.canLay0, PyData.canLayAll0, h1, h2]
  | pa f l t =>
    have h2 : PyData.strOk (Str.ofString "paste") = true := by decide +kernel
    simp [stD, PyData.canLay0, PyData.canLayAll0, h2]
theorem stD_depth (x : Stp) : (stD x).depth = 1 := by cases x <;> simp [stD, PyData.depth, PyData.depthAll]
theorem sts_lay {m : Nat} : ∀ {s : Nat} {st : List Stp}, Goes m s st → PyData.canLayAll0 (st.map stD) = true
  | _, [], _ => by simp [PyData.canLayAll0]
  | s, x :: r, h => by
    have h1 := stD_lay h.1
    have h2 := sts_lay h.2.2
    simp [PyData.canLayAll0, h1, h2]
theorem sts_depth : ∀ st : List Stp, PyData.depthAll (st.map stD) ≤ 1
  | [] => by simp [PyData.depthAll]
  | x :: r => by
    have h1 := stD_depth x
    have h2 := sts_depth r
    simp only [List.map_cons, PyData.depthAll]
    omega
theorem sts_shaped {m : Nat} {st : List Stp} (h : Goes m 0 st) : SeqAt.shaped (.tuple (st.map stD)) = true := by
  have h1 := sts_depth st
  have h2 : PyData.depth (.tuple (st.map stD)) ≤ 64 := by
    simp only [PyData.depth]
    omega
  show (PyData.canLay0 (.tuple (st.map stD)) && decide (PyData.depth (.tuple (st.map stD)) ≤ 64)) = true
  rw [decide_eq_true h2, Bool.and_true]
  simp only [PyData.canLay0]
  exact sts_lay h
theorem str_beq (a b : List Nat) : (sL a == sL b) = decide (a = b) := by
  rw [Bool.eq_iff_iff, beq_iff_eq, decide_eq_true_iff, sL_inj]
theorem stD_eqv (x y : Stp) : PyData.eqv (stD x) (stD y) = decide (x = y) := by
  cases x with
  | wr w =>
    cases y with
    | wr v => simp [stD, PyData.eqv, PyData.eqvAll, str_beq]
    | pa f l t => simp [stD, PyData.eqv, PyData.eqvAll]
  | pa f l t =>
    cases y with
    | wr v => simp [stD, PyData.eqv, PyData.eqvAll]
    | pa g m u =>
      simp only [stD, PyData.eqv, PyData.eqvAll]
      rw [Bool.eq_iff_iff]
      simp
      omega
theorem sts_eqv : ∀ a b : List Stp, PyData.eqvAll (a.map stD) (b.map stD) = decide (a = b)
  | [], [] => by simp [PyData.eqvAll]
  | [], _ :: _ => by simp [PyData.eqvAll]
  | _ :: _, [] => by simp [PyData.eqvAll]
  | x :: r, y :: s => by
    have h1 := sts_eqv r s
    have h2 := stD_eqv x y
    simp only [List.map_cons, PyData.eqvAll, h1, h2]
    rw [Bool.eq_iff_iff]
    simp
theorem stsD_eqv (a b : List Stp) : PyData.eqv (.tuple (a.map stD)) (.tuple (b.map stD)) = decide (a = b) := by
  simp only [PyData.eqv]
  exact sts_eqv a b
def spEqT (K : Fr) : Sp := fun vs H Q _ => ∃ (x : Addr) (a : List Stp), TA_ K H x a ∧ ((∃ (y : Addr) (b : List Stp), vs = [.ref x, .ref y] ∧ TA_ K H y b ∧ Q (.bl (decide (a = b))) H) ∨ ∃ (t : Addr) (xs : List V), vs = [.ref x, .ref t] ∧ SqT K H t xs ∧ Q (.bl false) H)
section
variable {P : Program} {w : World} {K : Fr} {mg : Str → Option Value} {base : Heap} {f : Addr}
theorem scEq : FnScope ["self", "other"] ["self", "other"] (defScope sEq) := ⟨rfl, rfl, rfl, by decide +kernel, rfl, by decide +kernel, by decide +kernel⟩
theorem ok_eq (D : Df K "__eq__" "Text.__eq__" sEq f) (T : Tc w K mg) : Kp P w K mg base 1 f (spEqT K) := by
  refine kp_of D scEq (fun _ _ _ _ _ _ us hl => match us, hl with | [_, _], _ => rfl) ?_ (fun cdv A outer s H vs Q E hr h => ?_)
  · rintro vs H Q E ⟨x, a, _, ⟨y, b, rfl, _⟩ | ⟨t, xs, rfl, _⟩⟩ <;> rfl
  · obtain ⟨x, a, ta, h⟩ := h
    obtain ⟨dx, ts, sp, as, ss, hx, hts, hst, _⟩ := ta.obj
    refine ⟨_, (pss_one (ps_ret (pe_and (pe_callB (CallR.or (C8.call_isC T.insT) call_isi) (by rfl) T.isi boot_isinstance (pa_cons (pv 1) (pa_cons (pe_gR T.gText) pa_nil))) (pe_one (pe_cmpR (op_eqD hr.units) (pe_fld (pv 0) rfl) (pe_fld (pv 1) rfl) (nomark _)))))), ?_⟩
    rcases h with ⟨y, b, rfl, tb, q⟩ | ⟨t, xs, rfl, ht, q⟩
    · obtain ⟨dy, ts2, sp2, as2, ss2, hy, hts2, hst2, _⟩ := tb.obj
      refine ⟨_, rfl, .inl ⟨y, dy, _, rfl, hy, true, rfl, ?_⟩⟩
      refine iteT ?_
      refine ⟨_, rfl, x, _, dx, _, _, rfl, hx, T.clT, T.nT1, rfl, _, rfl, y, _, dy, _, _, rfl, hy, T.clT, T.nT1, rfl, _, _, steps_dp hts hst, steps_dp hts2 hst2, sts_shaped ta.good, sts_shaped tb.good, ?_⟩
      rw [stsD_eqv]
      exact q
    · refine ⟨_, rfl, .inr ⟨.ref t, .ref (CT K), .type "tuple", .ref (CT K), false, rfl, .own _, sqT_ty ht, T.tupT, false, rfl, ?_⟩⟩
      exact q
end
end KL
namespace KL
open PySem PySem.Spec PyProof.Rows L2 Pk He
/-! ### the keys and letters of sums -/
theorem exF_mv (n0 : Nat) (A : List Nat) : ∀ (b : List Stp) (E : List Nat) (n : Nat), exF (A ++ E.map (n0 + ·)) (n0 + n) (b.map (mv A.length)) = A ++ (exF E n b).map (n0 + ·)
  | [], E, n => rfl
  | .wr w :: r, E, n => by
    have e : A ++ E.map (n0 + ·) ++ List.range' (n0 + n) w.length = A ++ (E ++ List.range' n w.length).map (n0 + ·) := by
      rw [List.map_append, List.map_add_range', List.append_assoc]
    show exF (A ++ E.map (n0 + ·) ++ List.range' (n0 + n) w.length) (n0 + n + w.length) (r.map (mv A.length)) = _
    rw [e, Nat.add_assoc, exF_mv n0 A r]
    rfl
  | .pa f l t :: r, E, n => by
    have e : A ++ E.map (n0 + ·) ++ (List.replicate t (((A ++ E.map (n0 + ·)).drop (f + A.length)).take (l + A.length + 1 - (f + A.length)))).flatten = A ++ (E ++ (List.replicate t ((E.drop f).take (l + 1 - f))).flatten).map (n0 + ·) := by
      rw [show l + A.length + 1 - (f + A.length) = l + 1 - f by omega, Nat.add_comm f, List.drop_length_add_append, ← List.map_drop, ← List.map_take, List.map_append, List.map_flatten, List.map_replicate, List.append_assoc]
    show exF (A ++ E.map (n0 + ·) ++ (List.replicate t (((A ++ E.map (n0 + ·)).drop (f + A.length)).take (l + A.length + 1 - (f + A.length)))).flatten) (n0 + n) (r.map (mv A.length)) = _
    rw [e, exF_mv n0 A r]
    rfl
theorem ex_plus {a : List Stp} (ha : Goes most 0 a) (b : List Stp) : ex (plus a b) = ex a ++ (ex b).map (nk a + ·) := by
  have hl := ex_len a ha
  have h := exF_mv (nk a) (ex a) b [] 0
  rw [hl, List.map_nil, List.append_nil, Nat.add_zero] at h
  unfold plus
  show exF [] 0 _ = _
  rw [exF_app, Nat.zero_add]
  exact h
theorem typed_mv (s : Nat) (b : List Stp) : typed (b.map (mv s)) = typed b := by
  unfold typed
  rw [List.flatMap_map]
  have e : (fun x => (mv s x).ty) = Stp.ty := by funext x; exact mv_ty s x
  rw [e]
theorem typed_plus (a b : List Stp) : typed (plus a b) = typed a ++ typed b := by
  unfold plus
  rw [typed_app, typed_mv]
theorem nk_plus (a b : List Stp) : nk (plus a b) = nk a + nk b := by
  unfold plus
  rw [nk_app, nk_mv]
theorem len_plus (a b : List Stp) : (plus a b).length = a.length + b.length := by
  unfold plus
  rw [List.length_append, List.length_map]
theorem ltr_plus1 {a b : List Stp} {k : Nat} (h : k < nk a) : ltr (plus a b) k = ltr a k := by
  unfold ltr
  rw [typed_plus, List.getD_eq_getElem?_getD, List.getD_eq_getElem?_getD, List.getElem?_append_left (by rw [typed_len]; exact h)]
theorem ltr_plus2 (a b : List Stp) (k : Nat) : ltr (plus a b) (nk a + k) = ltr b k := by
  unfold ltr
  rw [typed_plus, List.getD_eq_getElem?_getD, List.getD_eq_getElem?_getD, List.getElem?_append_right (by rw [typed_len]; omega), typed_len, Nat.add_sub_cancel_left]
theorem lts_plus {a : List Stp} (ha : Goes most 0 a) (b : List Stp) : lts (plus a b) = lts a ++ lts b := by
  unfold lts
  rw [ex_plus ha, List.map_append, List.map_map]
  congr 1
  · exact List.map_congr_left fun k hk => ltr_plus1 (ex_lt a k hk)
  · exact List.map_congr_left fun k _ => ltr_plus2 a b k
theorem ins_ne {K : Fr} {S : Addr × List Int} {H : Hp} {r p : Addr} {o : HO} (h : RowAt K S H r) (hp : H p = some o) (hn : ∀ xs, o ≠ .lst xs := by intro _ z; cases z) : p ≠ r := fun e => by
  obtain ⟨xs, hx⟩ := h.lst
  rw [e, hx] at hp
  exact hn xs (Option.some.inj hp).symm
theorem spans_row {K : Fr} {S : Addr × List Int} {H H2 : Hp} {r : Addr} {ss : List Addr} {st : List Stp} (h : RowAt K S H r) (b : But r H H2) (t : SpansAt (CS K) H ss st) : SpansAt (CS K) H2 ss st :=
  ⟨t.len, fun i x hx => let ⟨a, dx, h1, h2⟩ := t.at_ i x hx; ⟨a, dx, h1, b _ _ (ins_ne h h2) h2⟩⟩
theorem text_ne {K : Fr} {S : Addr × List Int} {H : Hp} {r x : Addr} {st : List Stp} (h : RowAt K S H r) (t : TA_ K H x st) : x ≠ r := by
  obtain ⟨dx, ts, sp, as, ss, hx, _⟩ := t.obj
  exact ins_ne h hx
theorem text_nk {K : Fr} {H : Hp} {x : Addr} {st : List Stp} (t : TA_ K H x st) : nk st ≤ 600 := by
  have h1 := nk_le t.good
  have h2 := t.few
  omega
theorem okV_nV (l : List Nat) : (nV l).all okV = true := by
  rw [List.all_eq_true]
  intro x hx
  obtain ⟨i, _, rfl⟩ := List.mem_map.mp hx
  rfl
theorem nV_app (a b : List Nat) : nV a ++ nV b = nV (a ++ b) := by simp [nV]
theorem okV_cut {xs : List V} {lo hi : Option Int} (h : xs.all okV = true) : (cutV xs lo hi).all okV = true := by
  rw [List.all_eq_true] at h ⊢
  intro x hx
  unfold cutV at hx
  exact h x (List.mem_of_mem_drop (List.mem_of_mem_take hx))
theorem cut_takeN (l : List Nat) (k : Nat) : cutV (nV l) none (some (k : Int)) = nV (l.take k) := by
  unfold cutV
  rw [HT.sIx_nat, HT.sIx_none, List.drop_zero, Nat.sub_zero, nV_len]
  unfold nV
  rw [← List.map_take]
  congr 1
  rw [List.take_eq_take_iff]
  omega
theorem nV_get {l : List Nat} {i : Nat} (h : i < l.length) : (nV l)[i]? = some (.int (l.getD i 0 : Nat)) := by
  unfold nV
  rw [List.getElem?_map, List.getD_eq_getElem?_getD, List.getElem?_eq_getElem h]
  rfl
theorem nV_app1 (l : List Nat) (m : Nat) : nV l ++ [V.int (m : Nat)] = nV (l ++ [m]) := by simp [nV]
theorem nV_maps (l : List Nat) (g : Nat → Nat) : (List.range l.length).map (fun i => V.int ((g (l.getD i 0) : Nat))) = nV (l.map g) := by
  unfold nV
  rw [List.map_map]
  refine List.ext_getElem (by simp) fun i h1 h2 => ?_
  simp only [List.length_map, List.length_range] at h1
  simp [List.getD_eq_getElem?_getD, List.getElem?_eq_getElem h1]
/-! ### multiples -/
def timesA (a : List Stp) (n : Nat) : List Stp := if n = 1 ∨ a = [] then a else timesL a n
theorem ex_times {a : List Stp} (ha : Goes most 0 a) {n : Nat} (hn : 1 ≤ n) : ex (timesA a n) = (List.replicate n (ex a)).flatten := by
  unfold timesA
  by_cases h : n = 1 ∨ a = []
  · rw [if_pos h]
    rcases h with rfl | rfl
    · simp
    · simp [ex, exF]
  · rw [if_neg h]
    have h1 : ¬ n = 1 := fun z => h (.inl z)
    have h2 : a ≠ [] := fun z => h (.inr z)
    have h3 := sz_pos ha h2
    have hl := ex_len a ha
    unfold timesL
    rw [ex_snoc]
    show ex a ++ (List.replicate (n - 1) (((ex a).drop 0).take (sz a - 1 + 1 - 0))).flatten = _
    rw [List.drop_zero, List.take_of_length_le (by omega)]
    obtain ⟨m, rfl⟩ : ∃ m, n = m + 1 := ⟨n - 1, by omega⟩
    rw [Nat.add_sub_cancel, List.replicate_succ, List.flatten_cons]
theorem typed_times (a : List Stp) (n : Nat) : typed (timesA a n) = typed a := by
  unfold timesA
  split
  · rfl
  · unfold timesL
    rw [typed_app]
    show typed a ++ [] = _
    rw [List.append_nil]
theorem nk_times (a : List Stp) (n : Nat) : nk (timesA a n) = nk a := by rw [← typed_len, typed_times, typed_len]
theorem sz_timesA {a : List Stp} (ha : Goes most 0 a) {n : Nat} (hn : 1 ≤ n) : sz (timesA a n) = n * sz a := by
  unfold timesA
  by_cases h : n = 1 ∨ a = []
  · rw [if_pos h]
    rcases h with rfl | rfl
    · omega
    · show 0 = n * 0
      omega
  · rw [if_neg h]
    exact sz_times ha (fun z => h (.inr z)) (by have : ¬ n = 1 := fun z => h (.inl z); omega)
theorem len_times (a : List Stp) (n : Nat) : (timesA a n).length ≤ a.length + 1 := by
  unfold timesA
  split
  · omega
  · unfold timesL
    rw [List.length_append]
    exact Nat.le_refl _
theorem ltr_times (a : List Stp) (n k : Nat) : ltr (timesA a n) k = ltr a k := by unfold ltr; rw [typed_times]
theorem lts_times {a : List Stp} (ha : Goes most 0 a) {n : Nat} (hn : 1 ≤ n) : lts (timesA a n) = (List.replicate n (lts a)).flatten := by
  unfold lts
  rw [ex_times ha hn, List.map_flatten, List.map_replicate]
  have : ltr (timesA a n) = ltr a := by funext k; exact ltr_times a n k
  rw [this]
/-! ### promises of the law's helpers, with ints -/
def spEqI (K : Fr) : Sp := fun vs H Q _ => ∃ (x y : Addr) (a b : List Stp), vs = [.ref x, .ref y] ∧ TA_ K H x a ∧ TA_ K H y b ∧ Q (.bl (decide (a = b))) H
def spMulI (K : Fr) : Sp := fun vs H Q _ => ∃ (x : Addr) (n : Int) (a : List Stp), vs = [.ref x, .int n] ∧ 1 ≤ n ∧ n ≤ 1000000000 ∧ TA_ K H x a ∧ n * (sz a : Int) ≤ (most : Nat) ∧ a.length < 30 ∧
  ∀ z H2, Same H H2 → TA_ K H2 z (timesA a n.toNat) → Q (.ref z) H2
section
variable {P : Program} {w : World} {K : Fr} {mg : Str → Option Value} {base : Heap} {f : Addr} {k : Nat}
theorem eqI (G : Kp P w K mg base k f (spEqT K)) : Kp P w K mg base k f (spEqI K) := by
  refine Kp.sub G fun vs H Q E h => ?_
  obtain ⟨x, y, a, b, rfl, t, t2, q⟩ := h
  exact ⟨x, a, t, .inl ⟨y, b, rfl, t2, q⟩⟩
theorem mulI (G : Kp P w K mg base k f (spMul K)) : Kp P w K mg base k f (spMulI K) := by
  refine Kp.sub G fun vs H Q E h => ?_
  obtain ⟨x, n, a, rfl, h1, h2, t, h3, h4, q⟩ := h
  refine ⟨x, n.toNat, a, by rw [Int.toNat_of_nonneg (by omega)], by omega, by omega, t, fun hc => ?_, fun hn hne => ⟨?_, h4, fun z H2 hz s t2 => ?_⟩⟩
  · refine q x H (Same.refl _) ?_
    unfold timesA
    rw [if_pos hc]
    exact t
  · have : ((n.toNat * sz a : Nat) : Int) = n * (sz a : Int) := by rw [Int.natCast_mul, Int.toNat_of_nonneg (by omega)]
    omega
  · refine q z H2 s ?_
    unfold timesA
    rw [if_neg (by rintro (z | z); · omega
                   · exact hne z)]
    exact t2
/-- Text() -/
theorem pe_text0 {X : Cx} {x : Str} {p pos : Pos} (csct : CS X.K ≠ CT X.K) (M : Mk X.K (CT X.K) f) (F : FnR X.prog X.w X.K X.mg X.base CX0 k f (spInit5 X.K)) (hr : Room (k + 1) X.A) (hm : X.mg x = some (.ref (CT X.K))) (hg : Gl X x := by rfl) (hdb : (x == ("__debug__" : Str)) = false := by decide) :
    PE X (.Call (.Name x p) [] [] pos) (fun _ H Q => ∀ x H2, H x = none → Same H H2 → TA_ X.K H2 x [] → Q (.ref x) H2) :=
  pe_imp (pe_makeR0 M F hr hg hm pass0 hdb) fun σ H Q h => make_text (as := []) csct StepsAt.nil trivial (by decide) h
/-- the law's row, new -/
theorem row_new {H H1 : Hp} {scr r : Addr} {ns : List Int} (hs : SqL K H scr (ns.map V.int)) (hr : H r = none) (s : Same H H1) (e : H1 r = some (.lst [.ref scr, .int 0, .int 0, .int 0])) : RowAt K (scr, ns) H1 r :=
  ⟨0, 0, 0, e, Same.seq s hs, by decide, by decide, by decide, by decide, fun H2 o h1 => sqL_far hs hr h1⟩
def spLaw (K : Fr) : Sp := fun vs H Q _ => ∃ (scr : Addr) (ns : List Int), vs = [.ref scr] ∧ SqL K H scr (ns.map V.int) ∧ ∀ H2, Q (.bl true) H2
/-- texts at addresses -/
structure TxsAt (K : Fr) (H : Hp) (xs : List Addr) (ts : List (List Stp)) : Prop where
  len : xs.length = ts.length
  at_ : ∀ (i : Nat) (st : List Stp), ts[i]? = some st → ∃ x, xs[i]? = some x ∧ TA_ K H x st
theorem TxsAt.nil {H : Hp} : TxsAt K H [] [] := ⟨rfl, fun i st h => by simp at h⟩
theorem TxsAt.same {H H2 : Hp} {xs : List Addr} {ts : List (List Stp)} (h : TxsAt K H xs ts) (s : Same H H2) : TxsAt K H2 xs ts := ⟨h.len, fun i st hi => let ⟨x, h1, h2⟩ := h.at_ i st hi; ⟨x, h1, h2.same s⟩⟩
theorem TxsAt.butL {H H2 : Hp} {r : Addr} {ys : List V} {xs : List Addr} {ts : List (List Stp)} (h : TxsAt K H xs ts) (hr : H r = some (.lst ys)) (b : But r H H2) : TxsAt K H2 xs ts := ⟨h.len, fun i st hi => let ⟨x, h1, h2⟩ := h.at_ i st hi; ⟨x, h1, text_butL hr b h2⟩⟩
theorem TxsAt.row {S : Addr × List Int} {H H2 : Hp} {r : Addr} {xs : List Addr} {ts : List (List Stp)} (h : TxsAt K H xs ts) (row : RowAt K S H r) (b : But r H H2) : TxsAt K H2 xs ts := let ⟨_, hx⟩ := row.lst; h.butL hx b
theorem TxsAt.snoc {H : Hp} {xs : List Addr} {ts : List (List Stp)} {x : Addr} {st : List Stp} (h : TxsAt K H xs ts) (hx : TA_ K H x st) : TxsAt K H (xs ++ [x]) (ts ++ [st]) := by
  refine ⟨by simp [h.len], fun i y hy => ?_⟩
  by_cases hi : i < ts.length
  · rw [List.getElem?_append_left hi] at hy
    obtain ⟨a, h1, h2⟩ := h.at_ i y hy
    exact ⟨a, by rw [List.getElem?_append_left (by rw [h.len]; exact hi)]; exact h1, h2⟩
  · rw [List.getElem?_append_right (by omega)] at hy
    have hi0 : i - ts.length = 0 := by
      have := (List.getElem?_eq_some_iff.mp hy).1
      simp at this
      omega
    rw [hi0] at hy
    have e : st = y := by simpa using hy
    subst e
    exact ⟨x, by rw [List.getElem?_append_right (by rw [h.len]; omega), h.len, hi0]; rfl, hx⟩
/-- a dict (read or locked) is written: texts and the row stand -/
def isD : HO → Bool
  | .dK _ => true
  | .frz _ (.dK _) => true
  | _ => false
theorem text_butD {H H2 : Hp} {l x : Addr} {o : HO} {st : List Stp} (hl : H l = some o) (ho : isD o = true) (b : But l H H2) (h : TA_ K H x st) : TA_ K H2 x st := by
  have ne : ∀ {q : Addr} {u : HO}, H q = some u → isD u = false → q ≠ l := fun {q u} h1 h2 e => by
    rw [e, hl] at h1
    cases h1
    rw [ho] at h2
    cases h2
  have sq : ∀ {q : Addr} {xs : List V}, SqT K H q xs → SqT K H2 q xs := fun {q xs} h => by
    rcases h with (h | ⟨u, h⟩) | h
    · exact .inl (.inl (b _ _ (ne h rfl) h))
    · exact .inl (.inr ⟨u, b _ _ (ne h rfl) h⟩)
    · exact .inr h
  obtain ⟨dx, ts, sp, as, ss, h1, h2, h3, h4, h5⟩ := h.obj
  exact ⟨h.good, h.few, dx, ts, sp, as, ss, b _ _ (ne h1 rfl) h1, sq h2, ⟨h3.len, fun i y hy => let ⟨a, e1, e2⟩ := h3.at_ i y hy; ⟨a, e1, sq e2⟩⟩, sq h4, ⟨h5.len, fun i y hy => let ⟨a, d, e1, e2⟩ := h5.at_ i y hy; ⟨a, d, e1, b _ _ (ne e2 rfl) e2⟩⟩⟩
theorem RowAt.butD {S : Addr × List Int} {H H2 : Hp} {l r : Addr} {o : HO} (hl : H l = some o) (ho : isD o = true) (b : But l H H2) (h : RowAt K S H r) : RowAt K S H2 r := by
  have ne : ∀ {q : Addr} {u : HO}, H q = some u → isD u = false → q ≠ l := fun {q u} h1 h2 e => by
    rw [e, hl] at h1
    cases h1
    rw [ho] at h2
    cases h2
  obtain ⟨i, sd, hd, b1, b2, b3⟩ := h
  refine ⟨i, sd, hd, b _ _ (ne b1 rfl) b1, ?_, b3⟩
  rcases b2 with (h | ⟨u, h⟩) | h
  · exact .inl (.inl (b _ _ (ne h rfl) h))
  · exact .inl (.inr ⟨u, b _ _ (ne h rfl) h⟩)
  · exact .inr h
theorem txs3 {H : Hp} {xs : List Addr} {ts : List (List Stp)} (h : TxsAt K H xs ts) (hl : xs.length = 3) : ∃ x1 x2 x3 a b c, xs = [x1, x2, x3] ∧ ts = [a, b, c] ∧ TA_ K H x1 a ∧ TA_ K H x2 b ∧ TA_ K H x3 c := by
  have hl2 := h.len
  match xs, ts, hl, hl2, h with
  | [x1, x2, x3], [a, b, c], _, _, h =>
    obtain ⟨y1, e1, t1⟩ := h.at_ 0 a rfl
    obtain ⟨y2, e2, t2⟩ := h.at_ 1 b rfl
    obtain ⟨y3, e3, t3⟩ := h.at_ 2 c rfl
    cases e1
    cases e2
    cases e3
    exact ⟨x1, x2, x3, a, b, c, rfl, rfl, t1, t2, t3⟩
end
end KL
namespace KL
open PySem PySem.Spec PyProof.Rows L2 Pk He
def spNumVal (K : Fr) : Sp := fun vs H Q _ => ∃ n : Nat, vs = [.int (n : Nat)] ∧ n < 10000000000000000000 ∧ ∀ (l : Addr) H2, H l = none → Same H H2 → H2 l = some (.lst (nV (numB n))) → Q (.ref l) H2
def spChk (K : Fr) : Sp := fun vs H Q _ => ∃ (v : V) (l : List Nat), vs = [v] ∧ ((∃ p, v = .ref p ∧ H p = some (.lst (nV l))) ∨ v = .byt (bA l)) ∧ l.length ≤ 100000 ∧ isB l = true ∧ ∀ H2, Same H H2 → Q (.int (chk l : Nat)) H2
def spPack (K : Fr) : Sp := fun vs H Q _ => ∃ (p : Addr) (l : List Nat), vs = [.ref p] ∧ H p = some (.lst (nV l)) ∧ l.length ≤ 100000 ∧ isB l = true ∧ ∀ H2, Same H H2 → Q (.byt (bA l)) H2
def spStepVal (K : Fr) : Sp := fun vs H Q _ => ∃ (a : Addr) (y : Stp) (s : Nat), vs = [.ref a] ∧ SqT K H a (stV y) ∧ y.ok s = true ∧ s ≤ most ∧ ∀ (l : Addr) H2, H l = none → Same H H2 → H2 l = some (.lst (nV (encS y))) → Q (.ref l) H2
def spEncode (K : Fr) : Sp := fun vs H Q _ => ∃ (x : Addr) (st : List Stp), vs = [.ref x] ∧ TA_ K H x st ∧ ∀ H2, Same H H2 → Q (.byt (bA (encB st))) H2
section
variable {P : Program} {w : World} {K : Fr} {mg : Str → Option Value} {base : Heap} {f : Addr}
theorem ok_number_values (D : Df K "_number_values" "_number_values" s_number_values (ga K "_number_values")) (T : Tc w K mg) : Kp P w K mg base 1 (ga K "_number_values") (spNumVal K) := by
  refine kp_of D sc_number_values (fun _ _ _ _ _ _ us hl => match us, hl with | [_], _ => rfl) ?_ (fun cdv A outer s H vs Q E hr h => ?_)
  · rintro vs H Q E ⟨n, rfl, _⟩
    rfl
  · obtain ⟨n, rfl, hn, q⟩ := h
    refine ⟨_, (pss_cons (ps_set (i := 1) sc_number_values.nd rfl (Or.inl rfl) (pe_lst pa_nil)) (pss_cons (ps_while PassesOwn.never (pt_cmpR op_ge (pv 0) (pe_gIx T.c_GROUP) (nomark _)) (pss_cons (ps_asg (pe_callB call_divmodW (by rfl) T.dm b_divmod (pa_cons (pv 0) (pa_cons (pe_gIx T.c_GROUP) pa_nil))) (pg_tup rfl (pgs_cons (pg_name (i := 0) sc_number_values.nd rfl (Or.inl rfl)) (pgs_cons (pg_name (i := 2) sc_number_values.nd rfl (Or.inl rfl)) pgs_nil)))) (pss_one (ps_expr (pe_bm PySem.F.plainAttrs_list PySem.F.slot_list_append PySem.F.type_list_append mt_append (pv 1) (pa_cons (pe_op (addA K) (pv 2) (pe_gIx T.c_GROUP)) pa_nil)))))) (pss_one (ps_ret (pe_lst (StX.pa_star (pv 1) (pa_cons (pv 0) pa_nil))))))), ?_⟩
    refine ⟨(by (show 0 ≤ _; decide)), fun p n1 => ?_⟩
    refine ⟨fun m σ HB => ∃ (vs : List Nat) (v2 : Option V), σ = [some (.int (m : Nat)), some (.ref p), v2] ∧ Same H HB ∧ HB p = some (.lst (nV vs)) ∧ vs ++ numB m = numB n ∧ m ≤ n ∧ vs.length ≤ 100, ⟨n, [], none, rfl, same_upd n1, upd_same, rfl, Nat.le_refl _, Nat.zero_le _⟩, ?_⟩
    rintro m σ HB ⟨vs, v2, rfl, sB, eB, hnb, hmn, hvl⟩
    refine ⟨_, rfl, _, _, rfl, rfl, _, rfl, ?_⟩
    refine iB (fun h1 => ?_) fun h1 => ?_
    · have h1 : 128 ≤ m := by omega
      rw [numB_ge h1] at hnb
      have hvsl : (nV vs).length < sizeLine := by rw [nV_len]; exact small_lt (by omega)
      refine ⟨fun σ' H' => ∃ (vs2 : List Nat) (v2 : Option V), σ' = [some (.int (m / 128 : Nat)), some (.ref p), v2] ∧ Same H H' ∧ H' p = some (.lst (nV vs2)) ∧ vs2 ++ numB (m / 128) = numB n ∧ vs2.length = vs.length + 1, fun σ' H' ⟨vs2, v2, a1, a2, a3, a4, a5⟩ => ⟨m / 128, by omega, vs2, v2, a1, a2, a3, a4, by omega, ?_⟩, ?_⟩
      · have h4 := congrArg List.length a4
        have h5 := numB_len 9 (n := n) (by omega)
        rw [List.length_append] at h4
        omega
      · refine ⟨_, rfl, _, _, rfl, (by exact divp (by omega) (by omega)), fun p1 n2 => ?_⟩
        have ne_p_p1 := ne_of_none eB n2
        generalize hE : upd HB p1 _ = H1
        have s1 : Same HB H1 := hE ▸ same_upd n2
        have e_p1 := (congrFun hE p1).symm.trans upd_same
        clear hE
        refine ⟨_, _, rfl, (SqT.of e_p1), rfl, _, _, rfl, _, _, rfl, rfl, _, rfl, (.inl ⟨rfl, ⟨_, (SqL.of (s1 _ _ eB))⟩⟩), _, rfl, (.inl ⟨_, _, rfl, rfl, _, _, _, rfl, rfl, (s1 _ _ eB), (by omega), ?_⟩)⟩
        generalize hE : upd H1 p _ = H11
        have b : But p H1 H11 := hE ▸ but_upd
        have s2 : Same H H11 := hE ▸ same_own (sB.trans s1) n1
        have e_p := (congrFun hE p).symm.trans upd_same
        clear hE
        generalize hσ : List.set _ _ _ = σ1
        simp only [L2.start, List.set_cons_zero, List.set_cons_succ, List.map_cons, List.map_nil, List.length_cons, List.length_nil, List.replicate_succ, List.replicate_zero, List.cons_append, List.nil_append, Nat.reduceAdd, Nat.reduceSub] at hσ
        subst hσ
        refine ⟨vs ++ [m % 128 + 128], _, by rw [show ((m / 128 : Nat) : Int) = (m : Int) / 128 by omega], s2, ?_, by rw [← hnb, List.append_assoc]; rfl, by rw [List.length_append]; rfl⟩
        rw [e_p, ← nV_app1]
        show some (HO.lst (nV vs ++ [V.int ((m : Int) % 128 + 128)])) = _
        rw [show ((m : Int) % 128 + 128) = ((m % 128 + 128 : Nat) : Int) by omega]
    · have h1 : m < 128 := by omega
      rw [numB_lt h1] at hnb
      refine ⟨_, rfl, _, _, rfl, (.inr (SqL.of eB)), _, rfl, ?_, fun p1 n2 => ?_⟩
      rotate_left 1
      have ne_p_p1 := ne_of_none eB n2
      generalize hE : upd HB p1 _ = H1
      have s1 : Same HB H1 := hE ▸ same_upd n2
      have e_p1 := (congrFun hE p1).symm.trans upd_same
      clear hE
      refine q _ _ (sB.free n2) (sB.trans s1) (lst_eq e_p1 ?_)
      · rw [nV_app1, hnb]
      · rw [List.length_append, nV_len]
        exact small_ok (by show vs.length + 1 ≤ _; omega)
-- hint: pi:values => pi_lb
theorem ok_checksum_of (D : Df K "checksum_of" "checksum_of" s_checksum_of (ga K "checksum_of")) (T : Tc w K mg) : Kp P w K mg base 1 (ga K "checksum_of") (spChk K) := by
  refine kp_of D sc_checksum_of (fun _ _ _ _ _ _ us hl => match us, hl with | [_], _ => rfl) ?_ (fun cdv A outer s H vs Q E hr h => ?_)
  · rintro vs H Q E ⟨v, l, rfl, _⟩
    rfl
  · obtain ⟨v, l, rfl, hv, hl, hB, q⟩ := h
    refine ⟨_, (pss_cons (ps_set (i := 1) sc_checksum_of.nd rfl (Or.inl rfl) pe_int) (pss_cons (ps_for PassesOwn.never rfl (pi_lb (pv 0)) (pg_name (i := 2) sc_checksum_of.nd rfl (Or.inl rfl)) (pss_one (ps_asg (pe_callB call_divmodW (by rfl) T.dm b_divmod (pa_cons (pe_op (addA K) (pe_op mulB pe_int (pv 1)) (pv 2)) (pa_cons pe_int pa_nil))) (pg_tup rfl (pgs_cons (pg_name (i := 3) sc_checksum_of.nd rfl (Or.inl rfl)) (pgs_cons (pg_name (i := 1) sc_checksum_of.nd rfl (Or.inl rfl)) pgs_nil)))))) (pss_one (ps_ret (pv 1))))), ?_⟩
    rcases hv with ⟨p, rfl, hp⟩ | rfl
    · refine (.inl ⟨_, rfl, _, rfl, ⟨_, (SqL.of hp)⟩, ?_⟩)
      refine for_list (xs := nV l) (fun i σ HB => ∃ v2 v3 : Option V, σ = [some (.ref p), some (.int (chk (l.take i) : Nat)), v2, v3] ∧ Same H HB) ⟨_, _, rfl, Same.refl _⟩ ?_ ?_ ?_
      · rintro i σ HB hi ⟨v2, v3, rfl, sB⟩
        exact SqL.of (sB _ _ hp)
      · rintro i v σ HB hv ⟨v2, v3, rfl, sB⟩
        have hi : i < l.length := by
          have := (List.getElem?_eq_some_iff.mp hv).1
          rwa [nV_len] at this
        cases (nV_get hi).symm.trans hv
        have hgi : l[i]? = some (l.getD i 0) := by rw [List.getD_eq_getElem?_getD, List.getElem?_eq_getElem hi]; rfl
        have hcs : chk (l.take (i + 1)) = (7 * chk (l.take i) + l.getD i 0) % 227 := by rw [take_succ hgi, chk_snoc]
        have hc0 := chk_lt (l.take i)
        have hb9 := isB_at hB hgi
        refine ⟨_, rfl, (.inl ⟨_, _, rfl, rfl, (by exact .inl ⟨by omega, by omega⟩), _, rfl, (.inl ⟨_, _, rfl, rfl, _, _, rfl, (by exact divp (by omega) (by omega)), fun p1 n => ?_⟩)⟩)⟩
        have ne_p_p1 := ne_of_none (sB _ _ hp) n
        generalize hE : upd HB p1 _ = H1
        have s1 : Same HB H1 := hE ▸ same_upd n
        have e_p1 := (congrFun hE p1).symm.trans upd_same
        clear hE
        refine ⟨_, _, rfl, (SqT.of e_p1), rfl, _, _, rfl, _, _, rfl, rfl, ?_⟩
        generalize hσ : List.set _ _ _ = σ1
        simp only [L2.start, List.set_cons_zero, List.set_cons_succ, List.map_cons, List.map_nil, List.length_cons, List.length_nil, List.replicate_succ, List.replicate_zero, List.cons_append, List.nil_append, Nat.reduceAdd, Nat.reduceSub] at hσ
        subst hσ
        refine ⟨some (.int (l.getD i 0 : Nat)), some (.int ((7 * (chk (l.take i) : Int) + (l.getD i 0 : Nat)) / 227)), ?_, sB.trans s1⟩
        rw [hcs, show (((7 * chk (l.take i) + l.getD i 0) % 227 : Nat) : Int) = (7 * (chk (l.take i) : Int) + (l.getD i 0 : Nat)) % 227 by omega]
      · rintro σ HB ⟨v2, v3, rfl, sB⟩
        rw [nV_len, List.take_length]
        refine ⟨_, rfl, ?_⟩
        exact q _ sB
    · refine .inr ⟨_, rfl, _, rfl, ?_⟩
      refine for_byt (fun i σ HB => ∃ v2 v3 : Option V, σ = [some (.byt (bA l)), some (.int (chk (l.take i) : Nat)), v2, v3] ∧ Same H HB) ⟨_, _, rfl, Same.refl _⟩ ?_ ?_
      · rintro i c σ HB hc ⟨v2, v3, rfl, sB⟩
        obtain ⟨v, hv, hcv⟩ : ∃ v, l[i]? = some v ∧ c.toNat = v := by
          unfold bA at hc
          rw [List.getElem?_toArray, List.getElem?_map] at hc
          cases e9 : l[i]? with
          | none => rw [e9] at hc; cases hc
          | some v =>
            rw [e9] at hc
            cases hc
            exact ⟨v, rfl, b_back (isB_at hB e9)⟩
        rw [hcv]
        have hcs : chk (l.take (i + 1)) = (7 * chk (l.take i) + v) % 227 := by rw [take_succ hv, chk_snoc]
        refine ⟨_, rfl, (.inl ⟨_, _, rfl, rfl, (by exact .inl ⟨by omega, by omega⟩), _, rfl, (.inl ⟨_, _, rfl, rfl, _, _, rfl, (by exact divp (by omega) (by omega)), fun p n => ?_⟩)⟩)⟩
        generalize hE : upd HB p _ = H1
        have s1 : Same HB H1 := hE ▸ same_upd n
        have e_p := (congrFun hE p).symm.trans upd_same
        clear hE
        refine ⟨_, _, rfl, (SqT.of e_p), rfl, _, _, rfl, _, _, rfl, rfl, ?_⟩
        generalize hσ : List.set _ _ _ = σ1
        simp only [L2.start, List.set_cons_zero, List.set_cons_succ, List.map_cons, List.map_nil, List.length_cons, List.length_nil, List.replicate_succ, List.replicate_zero, List.cons_append, List.nil_append, Nat.reduceAdd, Nat.reduceSub] at hσ
        subst hσ
        refine ⟨some (.int (v : Nat)), some (.int ((7 * (chk (l.take i) : Int) + (v : Nat)) / 227)), ?_, sB.trans s1⟩
        rw [hcs, show (((7 * chk (l.take i) + v) % 227 : Nat) : Int) = (7 * (chk (l.take i) : Int) + (v : Nat)) % 227 by omega]
      · rintro σ HB ⟨v2, v3, rfl, sB⟩
        rw [bA_len, List.take_length]
        refine ⟨_, rfl, ?_⟩
        exact q _ sB
-- hint: bytes(values) => (pk_t1 (call_byOf K) T.byt b_bytes $0)
theorem ok_pack_bytes (D : Df K "pack_bytes" "pack_bytes" s_pack_bytes (ga K "pack_bytes")) (T : Tc w K mg) (G_is_number : Kp P w K mg base 1 (ga K "is_number") spIsNumber) : Kp P w K mg base 2 (ga K "pack_bytes") (spPack K) := by
  refine kp_of D sc_pack_bytes (fun _ _ _ _ _ _ us hl => match us, hl with | [_], _ => rfl) ?_ (fun cdv A outer s H vs Q E hr h => ?_)
  · rintro vs H Q E ⟨p, l, rfl, _⟩
    rfl
  · obtain ⟨p, l, rfl, hp, hl, hB, q⟩ := h
    refine ⟨_, (pss_cons (ps_if (pw_or (pt_not (pt_val (pe_isi (pv 0) T.isi T.lst b_list))) (pw_or1 (pt_not (pt_val (pk_b1 (cr_all rfl) T.all b_all (pe_lc (own := [("value", 1)]) (g := gName 1) (tt := tYes) rfl sc_pack_bytes.nd (pi_list (pv 0)) (blkOk_by (N := ["values", "value"]) (sc := defScope s_pack_bytes) (by decide +kernel)) (fun _ _ _ _ _ => (pg_name (i := 1) sc_pack_bytes.nd rfl (Or.inl rfl))) (fun _ _ _ _ _ => pts_nil) (fun _ _ _ _ _ => (pk_call G_is_number (hr.mono (by omega)) T.gIsNumber (pa_cons (pv 1) (pa_cons pe_int (pa_cons pe_int pa_nil))))))))))).pt pss_never pss_nil) (pss_one (ps_ret (pk_t1 (call_byOf K) T.byt b_bytes (pv 0))))), ?_⟩
    refine ⟨_, rfl, _, _, _, _, rfl, (.base (.lst hp)), rfl, _, rfl, ?_⟩
    refine iF (nF rfl) ?_
    refine ⟨_, rfl, _, rfl, ⟨_, (SqL.of hp)⟩, fun D1 n => ?_⟩
    have ne_p_D1 := ne_of_none hp n
    refine lc_map (walk_list (xs := nV l)) n (fun _ => V.bl true) (by rw [nV_len]; exact small_ok (by omega)) (fun H2 s2 => SqL.of (s2 _ _ hp)) ?_ ?_
    · rintro i v H3 H4 N hi s2 ⟨rfl, hu⟩ hN
      rw [nV_len] at hi
      cases (nV_get hi).symm.trans hu
      have hb9 := isB_at hB (show l[i]? = some (l.getD i 0) by rw [List.getD_eq_getElem?_getD, List.getElem?_eq_getElem hi]; rfl)
      have h9 : isNum (.int (l.getD i 0 : Nat)) 0 255 = true := by
        show (decide (0 ≤ ((l.getD i 0 : Nat) : Int)) && decide (((l.getD i 0 : Nat) : Int) ≤ 255)) = true
        rw [decide_eq_true (by omega), decide_eq_true (by omega)]
        rfl
      refine ⟨rfl, _, rfl, _, _, _, rfl, rfl, ?_⟩
      refine qBl (hN _ (Same.refl _)) ?_
      exact h9.symm
    · intro H3 s3 hD3
      rw [nV_len] at hD3
      have hD4 : H3 D1 = some (.lst (((List.range l.length).map fun _ => true).map V.bl)) := by
        rw [hD3, List.map_map]
        rfl
      clear hD3
      refine ⟨_, _, rfl, (SqL.of hD4), _, rfl, ?_⟩
      refine iF (nF (by simp)) ?_
      refine ⟨_, rfl, _, _, rfl, (SqL.of (s3 _ _ hp)), hB, ?_⟩
      exact q _ s3
-- hint: LETTERS.index(letter) => (pe_idxSK K $o $args)
-- hint: pi:step[1] => pi_str
-- hint: pi:step[1:] => pi_tup
theorem ok_step_values (D : Df K "_step_values" "_step_values" s_step_values (ga K "_step_values")) (T : Tc w K mg) (G_number_values : Kp P w K mg base 1 (ga K "_number_values") (spNumVal K)) : Kp P w K mg base 3 (ga K "_step_values") (spStepVal K) := by
  refine kp_of D sc_step_values (fun _ _ _ _ _ _ us hl => match us, hl with | [_], _ => rfl) ?_ (fun cdv A outer s H vs Q E hr h => ?_)
  · rintro vs H Q E ⟨a, y, s, rfl, _⟩
    rfl
  · obtain ⟨a, y, s, rfl, ha, hok, hs, q⟩ := h
    refine ⟨_, (pss_cons (ps_if (pt_cmpR (eqB K hr.units) (pe_ix (ixS K) (pv 0) pe_int (fun _ _ => rfl)) pe_str (nomark _)) (pss_one (ps_ret (pe_lst (pa_cons (pe_gIx T.c_WRITES) (pa_cons (pk_b1 (lenA K) T.len b_len (pe_ix (ixS K) (pv 0) pe_int (fun _ _ => rfl))) (StX.pa_star (pe_lc (own := [("letter", 3)]) (g := gName 3) (tt := tYes) rfl sc_step_values.nd (pi_str (pe_ix (ixS K) (pv 0) pe_int (fun _ _ => rfl))) (blkOk_by (N := ["step", "values", "number", "letter"]) (sc := defScope s_step_values) (by decide +kernel)) (fun _ _ _ _ _ => (pg_name (i := 3) sc_step_values.nd rfl (Or.inl rfl))) (fun _ _ _ _ _ => pts_nil) (fun _ _ _ _ _ => (pe_idxSK K (pe_gSx T.letters) (pa_cons (pv 3) pa_nil)))) pa_nil)))))) pss_nil) (pss_cons (ps_set (i := 1) sc_step_values.nd rfl (Or.inl rfl) (pe_lst (pa_cons (pe_gIx T.c_PASTES) pa_nil))) (pss_cons (ps_for PassesOwn.never rfl (pi_tup (pe_slice (slA K) (pv 0) (po_some pe_int) po_none)) (pg_name (i := 2) sc_step_values.nd rfl (Or.inl rfl)) (pss_one (ps_expr (pe_bm PySem.F.plainAttrs_list PySem.F.slot_list_extend PySem.F.type_list_extend mt_extend (pv 1) (pa_cons (pk_call G_number_values (hr.mono (by omega)) T.g_number_values (pa_cons (pv 2) pa_nil)) pa_nil))))) (pss_one (ps_ret (pv 1)))))), ?_⟩
    cases y with
    | wr wd =>
      have hok2 := hok
      simp only [Stp.ok, Bool.and_eq_true, decide_eq_true_eq] at hok2
      have hwl : (sL wd).length ≤ sizeLine := by rw [sL_len]; exact small_ok (by omega)
      have hLet : PySem.Str.ofString "abcdefghijklmnopqrstuvwxyz" = sL (List.range' 97 26) := (sL_of _).trans (by rw [letters_are])
      refine ⟨_, rfl, (.inr (.inl ⟨_, _, _, _, rfl, rfl, ha, rfl, (.inl ⟨rfl, _, rfl, ?_⟩)⟩))⟩
      refine iT (sT rfl) ?_
      refine ⟨_, rfl, (.inr (.inl ⟨_, _, _, _, rfl, rfl, ha, rfl, (.inl ⟨_, rfl, (by omega), _, rfl, (.inr (.inl ⟨_, _, _, _, rfl, rfl, ha, rfl, _, rfl, fun D1 n => ?_⟩))⟩)⟩))⟩
      have hwc : (sL wd).cps.size = wd.length := by simp [sL]
      refine lc_map (walk_str (z := sL wd)) (by assumption) (fun i => V.int ((wd.getD i 0 - 97 : Nat))) (by rw [hwc]; exact small_ok (by omega)) (fun _ _ => trivial) ?_ ?_
      · rintro i v H3 H4 N hi s2 ⟨rfl, c, hc, rfl⟩ hN
        have hci : wd[i]? = some c := by
          unfold sL at hc
          rw [List.getElem?_toArray] at hc
          exact hc
        have hlc := List.all_eq_true.mp hok2.2 c (List.mem_of_getElem? hci)
        have hgi : wd.getD i 0 = c := by rw [List.getD_eq_getElem?_getD, hci]; rfl
        rw [hgi] at hN
        unfold isLet at hlc
        simp only [Bool.and_eq_true, decide_eq_true_eq] at hlc
        rw [hLet]
        refine ⟨rfl, rfl, _, rfl, ?_⟩
        refine ⟨List.range' 97 26, c, c - 97, rfl, rfl, ?_, ?_, ?_⟩
        · rw [List.getElem?_range' (by omega)]
          exact congrArg some (by omega)
        · intro j hj z
          rw [List.getElem?_range' (by omega)] at z
          injection z with z
          omega
        · exact hN _ (Same.refl _)
      · intro H3 s3 hD3
        rw [hwc] at hD3
        have hmm : (List.range wd.length).map (fun i => V.int (wd.getD i 0 - 97 : Nat)) = nV (wd.map (· - 97)) := nV_maps wd (· - 97)
        rw [hmm] at hD3
        have hwz : (sL wd).length = wd.length := sL_len wd
        refine ⟨_, _, rfl, (.inr (SqL.of hD3)), ?_, fun p n1 => ?_⟩
        rotate_left 1
        have ne_D1_p := ne_of_none hD3 n1
        generalize hE : upd H3 p _ = H1
        have s1 : Same H3 H1 := hE ▸ same_upd n1
        have e_p := (congrFun hE p).symm.trans upd_same
        clear hE
        refine q _ _ (s3.free n1) (s3.trans s1) (lst_eq e_p ?_)
        · rw [hwz, List.append_nil]
          rfl
        · rw [List.append_nil]
          show (nV _).length + 1 + 1 ≤ _
          rw [nV_len, List.length_map]
          exact small_ok (by omega)
    | pa f0 l0 t0 =>
      have hok2 := hok
      simp only [Stp.ok, Bool.and_eq_true, decide_eq_true_eq] at hok2
      refine ⟨_, rfl, (.inr (.inl ⟨_, _, _, _, rfl, rfl, ha, rfl, (.inl ⟨rfl, _, rfl, ?_⟩)⟩))⟩
      refine iF (by decide +kernel) ?_
      refine ⟨(by (show 1 ≤ _; decide)), fun p n => ?_⟩
      generalize hE : upd H p _ = H1
      have s1 : Same H H1 := hE ▸ same_upd n
      have e_p := (congrFun hE p).symm.trans upd_same
      clear hE
      refine ⟨_, rfl, _, rfl, ?_⟩
      refine .inr (.inl ⟨a, _, rfl, same_sqT (by assumption) ha, (by show ¬ (HT.sIx 4 0 (some 1) = 0 ∧ HT.sIx 4 4 none = 4); decide), fun p9 hp9 => ?_⟩)
      have s9 : Same H1 (upd H1 p9 (.tup [V.int (f0 : Nat), V.int (l0 : Nat), V.int (t0 : Nat)])) := same_upd hp9
      have e_p9 : (upd H1 p9 (.tup [V.int (f0 : Nat), V.int (l0 : Nat), V.int (t0 : Nat)])) p9 = some (.tup [V.int (f0 : Nat), V.int (l0 : Nat), V.int (t0 : Nat)]) := upd_same
      refine ⟨p9, rfl, ⟨_, SqT.of e_p9⟩, ?_⟩
      have hp1 := s9 _ _ (by assumption : H1 p = some (.lst [V.int 1]))
      refine for_tup (xs := [V.int (f0 : Nat), V.int (l0 : Nat), V.int (t0 : Nat)]) (fun i σ HB => ∃ (v2 v3 : Option V), σ = [some (.ref a), some (.ref p), v2, v3] ∧ Same H HB ∧ But p (upd H1 p9 (.tup [V.int (f0 : Nat), V.int (l0 : Nat), V.int (t0 : Nat)])) HB ∧ HB p = some (.lst (nV (1 :: (([f0, l0, t0].take i).flatMap numB))))) ⟨_, _, rfl, (by assumption : Same H H1).trans s9, But.refl _ _, hp1⟩ ?_ ?_ ?_
      · rintro i σ HB hi ⟨v2, v3, rfl, sB, bB, eB⟩
        exact SqT.of (bB _ _ (ne_of e_p9 hp1 (by intro z; cases z)) e_p9)
      · rintro i v σ HB hv ⟨v2, v3, rfl, sB, bB, eB⟩
        have hmost : most = 1000000000000000000 := rfl
        obtain ⟨n9, hn9, rfl⟩ : ∃ n9, [f0, l0, t0][i]? = some n9 ∧ v = .int (n9 : Nat) := by
          match i, hv with
          | 0, hv => exact ⟨f0, rfl, (Option.some.inj hv).symm⟩
          | 1, hv => exact ⟨l0, rfl, (Option.some.inj hv).symm⟩
          | 2, hv => exact ⟨t0, rfl, (Option.some.inj hv).symm⟩
        have hn10 : n9 < 10000000000000000000 := by
          have := List.mem_of_getElem? hn9
          simp at this
          omega
        have hfm : ([f0, l0, t0].take (i + 1)).flatMap numB = ([f0, l0, t0].take i).flatMap numB ++ numB n9 := by
          rw [take_succ hn9, List.flatMap_append]
          simp
        have hfl : (([f0, l0, t0].take i).flatMap numB).length ≤ 40 := by
          have h1 := numB_len 9 (n := f0) (by omega)
          have h2 := numB_len 9 (n := l0) (by omega)
          have h3 := numB_len 9 (n := t0) (by omega)
          match i, hv with
          | 0, _ => simp
          | 1, _ => simp; omega
          | 2, _ => simp; omega
        have hnl := numB_len 9 (n := n9) (by omega)
        generalize hE : upd H1 p9 _ = H11
        rw [hE] at bB
        rw [hE] at hp1
        rw [hE] at e_p9
        rw [hE] at s9
        have s2 : Same H1 H11 := hE ▸ same_upd hp9
        have e_p91 := (congrFun hE p9).symm.trans upd_same
        clear hE
        refine ⟨_, rfl, (.inl ⟨rfl, ⟨_, (SqL.of eB)⟩⟩), _, rfl, _, rfl, (by omega), fun l H2 n1 s3 e => ?_⟩
        have ne_p_l := ne_of_none eB n1
        refine ⟨_, _, _, _, rfl, rfl, (s3 _ _ eB), e, ?_, ?_⟩
        rotate_left 1
        generalize hE : upd H2 p _ = H12
        have b : But p H2 H12 := hE ▸ but_upd
        have s4 : Same H H12 := hE ▸ same_own ((but_new (s1.trans s2) bB n).trans s3) n
        have e_p1 := (congrFun hE p).symm.trans upd_same
        clear hE
        refine ⟨_, _, rfl, s4, ((bB.trans (Same.but s3)).trans b), ?_⟩
        · rw [e_p1, hfm, nV_app]
          rfl
        · rw [nV_len, nV_len]
          exact small_ok (by show _ + 1 + _ ≤ _; omega)
      · rintro σ HB ⟨v2, v3, rfl, sB, bB, eB⟩
        refine ⟨_, rfl, ?_⟩
        have ne_p_p9 := ne_of_none e_p hp9
        refine q _ _ n (but_new (s1.trans s9) bB n) (lst_eq eB ?_)
        simp [encS]
-- hint: pi:text.steps => pi_tup
theorem ok_encode_text (D : Df K "encode_text" "encode_text" s_encode_text (ga K "encode_text")) (T : Tc w K mg) (G_Text_steps : Kp P w K mg base 1 (pgA K (CT K) "steps") (spStepsP K)) (G_step_values : Kp P w K mg base 3 (ga K "_step_values") (spStepVal K)) (G_pack_bytes : Kp P w K mg base 2 (ga K "pack_bytes") (spPack K)) (G_checksum_of : Kp P w K mg base 1 (ga K "checksum_of") (spChk K)) : Kp P w K mg base 5 (ga K "encode_text") (spEncode K) := by
  refine kp_of D sc_encode_text (fun _ _ _ _ _ _ us hl => match us, hl with | [_], _ => rfl) ?_ (fun cdv A outer s H vs Q E hr h => ?_)
  · rintro vs H Q E ⟨x, st, rfl, _⟩
    rfl
  · obtain ⟨x, st, rfl, tx, q⟩ := h
    obtain ⟨dx, ts, sp, as, ss, hx, hts, hst, hsp, hss⟩ := tx.obj
    have few := tx.few
    have good := tx.good
    refine ⟨_, (pss_cons (ps_set (i := 1) sc_encode_text.nd rfl (Or.inl rfl) (pe_lst (pa_cons (pe_gIx T.c_MARK) (pa_cons (pk_b1 (lenA K) T.len b_len (pk_prop (pv 0) T.clT T.pSteps G_Text_steps (hr.mono (by omega)))) pa_nil)))) (pss_cons (ps_for PassesOwn.never rfl (pi_tup (pk_prop (pv 0) T.clT T.pSteps G_Text_steps (hr.mono (by omega)))) (pg_name (i := 2) sc_encode_text.nd rfl (Or.inl rfl)) (pss_one (ps_expr (pe_bm PySem.F.plainAttrs_list PySem.F.slot_list_extend PySem.F.type_list_extend mt_extend (pv 1) (pa_cons (pk_call G_step_values (hr.mono (by omega)) T.g_step_values (pa_cons (pv 2) pa_nil)) pa_nil))))) (pss_one (ps_ret (pk_call G_pack_bytes (hr.mono (by omega)) T.g_pack_bytes (pa_cons (pe_lst (StX.pa_star (pv 1) (pa_cons (pk_call G_checksum_of (hr.mono (by omega)) T.g_checksum_of (pa_cons (pv 1) pa_nil)) pa_nil))) pa_nil)))))), ?_⟩
    refine ⟨_, rfl, _, _, _, rfl, hx, _, _, rfl, tx, fun ts1 as1 h h1 => ?_⟩
    refine (.inr (.inl ⟨_, _, rfl, (.inr h), (by (show 2 ≤ _; decide)), fun p n => ?_⟩))
    have ne_x_p := ne_of_none hx n
    generalize hE : upd H p _ = H1
    have s1 : Same H H1 := hE ▸ same_upd n
    have e_p := (congrFun hE p).symm.trans upd_same
    clear hE
    refine ⟨_, rfl, _, _, _, rfl, (s1 _ _ hx), _, _, rfl, (TextAt.same tx s1), fun ts2 as2 h2 h3 => ?_⟩
    refine ⟨_, rfl, ⟨_, (same_sqT (Same.refl _) h2)⟩, ?_⟩
    have hal1 : ((as1.map V.ref).length : Int) = (st.length : Nat) := by rw [List.length_map, h1.len]
    rw [hal1] at e_p
    have hn2 : (as2.map V.ref).length = st.length := by rw [List.length_map, h3.len]
    have hfl : ∀ i, ((st.take i).flatMap encS).length ≤ 900 := fun i => by
      have : ∀ (n : Nat), n ≤ st.length → ((st.take n).flatMap encS).length ≤ 30 * n := by
        intro n hn
        induction n with
        | zero => simp
        | succ n ih =>
          have e9 : st[n]? = some (st[n]) := List.getElem?_eq_getElem (by omega)
          have hsz := sz_most (goes_take good n)
          have hl9 := encS_len (goes_at good e9).1 hsz
          rw [take_succ e9, List.flatMap_append, List.length_append]
          have := ih (by omega)
          simp only [List.flatMap_cons, List.flatMap_nil, List.append_nil]
          omega
      by_cases h : i ≤ st.length
      · have := this i h
        omega
      · rw [List.take_of_length_le (by omega)]
        have := this st.length (Nat.le_refl _)
        rw [List.take_length] at this
        omega
    refine for_tup (xs := as2.map V.ref) (fun i σ HB => ∃ v2 : Option V, σ = [some (.ref x), some (.ref p), v2] ∧ Same H HB ∧ But p H1 HB ∧ HB p = some (.lst (nV (80 :: st.length :: (st.take i).flatMap encS)))) ⟨_, rfl, s1, But.refl _ _, e_p⟩ ?_ ?_ ?_
    · rintro i σ HB hi ⟨v2, rfl, sB, bB, eB⟩
      exact sqT_butL e_p bB h2
    · rintro i v σ HB hv ⟨v2, rfl, sB, bB, eB⟩
      have hi : i < st.length := by
        have := (List.getElem?_eq_some_iff.mp hv).1
        rwa [hn2] at this
      have e9 : st[i]? = some (st[i]) := List.getElem?_eq_getElem hi
      obtain ⟨b, hb, eb⟩ := h3.at_ i _ e9
      cases (map_get hb).symm.trans hv
      obtain ⟨ok9, lim9⟩ := goes_at good e9
      have hsz := sz_most (goes_take good i)
      have ebB := sqT_butL e_p bB eb
      have hl9 := encS_len ok9 hsz
      have hfl9 := hfl i
      have hfm : (st.take (i + 1)).flatMap encS = (st.take i).flatMap encS ++ encS (st[i]) := by
        rw [take_succ e9, List.flatMap_append]
        simp
      generalize st[i] = y9 at e9 eb ok9 lim9 ebB hl9 hfm
      refine ⟨_, rfl, (.inl ⟨rfl, ⟨_, (SqL.of eB)⟩⟩), _, rfl, _, _, _, rfl, ebB, ok9, (by omega), fun l H2 n1 s2 e => ?_⟩
      have ne_x_l := ne_of_none ((but_new s1 bB n) _ _ hx) n1
      have ne_p_l := ne_of_none eB n1
      refine ⟨_, _, _, _, rfl, rfl, (s2 _ _ eB), e, ?_, ?_⟩
      rotate_left 1
      generalize hE : upd H2 p _ = H11
      have b1 : But p H2 H11 := hE ▸ but_upd
      have s3 : Same H H11 := hE ▸ same_own ((but_new s1 bB n).trans s2) n
      have e_p1 := (congrFun hE p).symm.trans upd_same
      clear hE
      refine ⟨_, rfl, s3, ((bB.trans (Same.but s2)).trans b1), ?_⟩
      · rw [e_p1, hfm, nV_app]
        rfl
      · rw [nV_len, nV_len]
        exact small_ok (by show _ + 1 + 1 + _ ≤ _; omega)
    · rintro σ HB ⟨v2, rfl, sB, bB, eB⟩
      rw [hn2, List.take_length] at eB
      have eB2 : HB p = some (.lst (nV (encH st))) := eB
      have hiB := encH_isB good few
      have hiB2 := encB_isB good few
      have hfl9 := hfl st.length
      rw [List.take_length] at hfl9
      have hel : (encH st).length ≤ 902 := by show (_ : Nat) + 1 + 1 ≤ _; omega
      refine ⟨_, rfl, _, _, rfl, (.inr (SqL.of eB2)), _, rfl, _, _, rfl, (.inl ⟨_, ⟨rfl, eB2⟩⟩), (by omega), hiB, fun H2 s2 => ?_⟩
      refine ⟨?_, fun p1 n1 => ?_⟩
      rotate_left 1
      have ne_x_p1 := ne_of_none (((but_new s1 bB n).trans s2) _ _ hx) n1
      have ne_p_p1 := ne_of_none (s2 _ _ eB2) n1
      generalize hE : upd H2 p1 _ = H11
      have s3 : Same H2 H11 := hE ▸ same_upd n1
      have e_p1 := (congrFun hE p1).symm.trans upd_same
      clear hE
      refine ⟨_, _, rfl, ?_, ?_, hiB2, fun H21 s4 => ?_⟩
      rotate_left 2
      exact q _ ((((but_new s1 bB n).trans s2).trans s3).trans s4)
      · rw [nV_app1, nV_len, List.length_append]
        exact small_ok (by show _ + 1 ≤ _; omega)
      · rw [nV_app1] at e_p1
        exact e_p1
      · unfold encB
        rw [List.length_append]
        show _ + 1 ≤ _
        omega
end
end KL
namespace KL
open PySem PySem.Spec PyProof.Rows L2 Pk He
def spUnpack (K : Fr) : Sp := fun vs H Q _ => ∃ l : List Nat, vs = [.byt (bA l)] ∧ l.length ≤ 100000 ∧ isB l = true ∧ ∀ (p : Addr) H2, H p = none → Same H H2 → H2 p = some (.lst (nV l)) → Q (.ref p) H2
section
variable {P : Program} {w : World} {K : Fr} {mg : Str → Option Value} {base : Heap} {f : Addr}
-- hint: list(data) => (pk_t1 (call_lstBy rfl) T.lst b_list $0)
theorem ok_unpack_bytes (D : Df K "unpack_bytes" "unpack_bytes" s_unpack_bytes (ga K "unpack_bytes")) (T : Tc w K mg) : Kp P w K mg base 1 (ga K "unpack_bytes") (spUnpack K) := by
  refine kp_of D sc_unpack_bytes (fun _ _ _ _ _ _ us hl => match us, hl with | [_], _ => rfl) ?_ (fun cdv A outer s H vs Q E hr h => ?_)
  · rintro vs H Q E ⟨l, rfl, _⟩
    rfl
  · obtain ⟨l, rfl, hl, hB, q⟩ := h
    refine ⟨_, (pss_one (ps_ret (pk_t1 (call_lstBy rfl) T.lst b_list (pv 0)))), ?_⟩
    refine ⟨_, rfl, _, rfl, (by omega), hB, fun q1 n => ?_⟩
    generalize hE : upd H q1 _ = H1
    have s1 : Same H H1 := hE ▸ same_upd n
    have e_q1 := (congrFun hE q1).symm.trans upd_same
    clear hE
    exact q _ _ n s1 e_q1
end
end KL
namespace KL
open PySem PySem.Spec PyProof.Rows L2 Pk He
/-- Text( *x) -/
theorem pe_textS {X : Cx} {x : Str} {e : Expr} {te : TE} {p pos sp_ : Pos} {k : Nat} {f : Addr} (csct : CS X.K ≠ CT X.K) (M : Mk X.K (CT X.K) f) (F : FnR X.prog X.w X.K X.mg X.base CX0 k f (spInit5 X.K)) (hr : Room (k + 1) X.A) (hm : X.mg x = some (.ref (CT X.K))) (he : PE X e te) (hg : Gl X x := by rfl) (hd : (x == ("__debug__" : Str)) = false := by decide)
    (hst : starEach [.Starred e sp_] X.env = [(true, eval e X.env)] := by rfl) : PE X (.Call (.Name x p) [.Starred e sp_] [] pos) (fun σ H Q => te σ H fun y H1 => ∃ a as st, y = V.ref a ∧ (SqT X.K H1 a (as.map V.ref) ∨ SqL X.K H1 a (as.map V.ref)) ∧ StepsAt X.K H1 as st ∧ Goes most 0 st ∧ st.length ≤ 30 ∧
      ∀ z H2, H1 z = none → Same H1 H2 → TA_ X.K H2 z st → Q (.ref z) H2) := ⟨fun pins s σ H Q I h => by
  refine wpAny_Call_Name_kw (ld_glob I hg hm ?_ hd)
  refine PySem.W.callWith_S (h₀ := X.base) I.ok.mod.kin M.kp (thn (he.run pins s σ H _ I h) fun v s1 ⟨y, H1, I1, ry, a, as, st, ey, hxs, hsa, good, few, q⟩ => ?_) hst
  subst ey
  cases ry
  exact StX.star_any I1 hxs fun us s2 I2 rv => ⟨I2.kIn, StX.run_makeR M F hr pass0 I2 rv (make_text csct hsa good few q)⟩⟩
end KL
namespace KL
open PySem PySem.Spec PyProof.Rows L2 Pk He
open TL (numL)
def scFmt : Scope := { kind := .function, names := [(".0", .local), ("step", .local)], isGenerator := false, isCoroutine := false, more := [] }
def spFigs (K : Fr) : Sp := fun vs H Q _ => ∃ n : Nat, vs = [.str (sL (numL n))] ∧ n < 1000000000000000000 ∧ ∀ H2, Same H H2 → Q (.bl true) H2
def kindS : Stp → Str
  | .wr _ => "write"
  | .pa _ _ _ => "paste"
def spRight (K : Fr) : Sp := fun vs H Q _ => ∃ (k : Str) (y : Stp) (s : Nat) (w : List Nat) (i : Nat), vs = [.str k, .str (sL w)] ∧ k = kindS y ∧ y.ok s = true ∧ s ≤ most ∧ (rowW y)[i + 1]? = some w ∧ ∀ H2, Same H H2 → Q (.bl true) H2
def spRowOf (K : Fr) : Sp := fun vs H Q _ => ∃ (i : Nat) (p : Addr) (y : Stp) (s : Nat), vs = [.int (i : Nat), .ref p] ∧ H p = some (.lst ((rowW y).map fun w => V.str (sL w))) ∧ y.ok s = true ∧ s ≤ most ∧ ∀ (t : Addr) H2, H t = none → Same H H2 → SqT K H2 t (stV y) → Q (.ref t) H2
def spFormat (K : Fr) : Sp := fun vs H Q _ => ∃ (x : Addr) (st : List Stp), vs = [.ref x] ∧ TA_ K H x st ∧ ∀ H2, Same H H2 → Q (.str (rowsT st)) H2
def spParse (K : Fr) : Sp := fun vs H Q _ => ∃ st : List Stp, vs = [.str (rowsT st)] ∧ Goes most 0 st ∧ st.length ≤ 30 ∧ ∀ (x : Addr) H2, H x = none → Same H H2 → TA_ K H2 x st → Q (.ref x) H2
theorem fig_in {c : Nat} (h1 : 48 ≤ c) (h2 : c ≤ 57) : decide (c ∈ (Str.ofString "0123456789").cps.toList) = true := by
  have e : (Str.ofString "0123456789").cps.toList = [48, 49, 50, 51, 52, 53, 54, 55, 56, 57] := by decide +kernel
  rw [e]
  refine decide_eq_true ?_
  simp only [List.mem_cons, List.not_mem_nil, or_false]
  omega
theorem parts_at {y : Stp} {s j : Nat} {v : V} (ok : y.ok s = true) (hs : s ≤ most) (hv : (stV y)[j]? = some v) : v = .str (sL ((rowW y).getD j [])) ∨ ∃ n : Nat, v = .int (n : Nat) ∧ n < 1000000000000000000 ∧ sL ((rowW y).getD j []) = toString ((n : Nat) : Int) := by
  have hmost : most = 1000000000000000000 := rfl
  cases y with
  | wr wd =>
    match j, hv with
    | 0, hv => exact .inl ((Option.some.inj hv).symm.trans (congrArg V.str wr_sL))
    | 1, hv => exact .inl (Option.some.inj hv).symm
    | j + 2, hv => simp [stV] at hv
  | pa f0 l0 t0 =>
    simp only [Stp.ok, Bool.and_eq_true, decide_eq_true_eq] at ok
    match j, hv with
    | 0, hv => exact .inl ((Option.some.inj hv).symm.trans (congrArg V.str pa_sL))
    | 1, hv => exact .inr ⟨f0, (Option.some.inj hv).symm, by omega, (num_sL f0).symm⟩
    | 2, hv => exact .inr ⟨l0, (Option.some.inj hv).symm, by omega, (num_sL l0).symm⟩
    | 3, hv => exact .inr ⟨t0, (Option.some.inj hv).symm, by omega, (num_sL t0).symm⟩
    | j + 4, hv => simp [stV] at hv
theorem stV_rowW (y : Stp) : (stV y).length = (rowW y).length := by cases y <;> rfl
theorem rng_getD {α β : Type} (l : List α) (d : α) (g : α → β) : (List.range l.length).map (fun i => g (l.getD i d)) = l.map g := by
  refine List.ext_getElem (by simp) fun i h1 h2 => ?_
  rw [List.length_map, List.length_range] at h1
  simp [List.getD_eq_getElem?_getD, List.getElem?_eq_getElem h1]
theorem sum_le9 {k : Nat} : ∀ {l : List Nat}, (∀ x ∈ l, x ≤ k) → l.sum ≤ l.length * k
  | [], _ => Nat.zero_le _
  | a :: r, h => by
    have h1 := h a (List.mem_cons_self ..)
    have h2 := sum_le9 (l := r) fun x hx => h x (List.mem_cons_of_mem _ hx)
    rw [List.sum_cons, List.length_cons, Nat.add_mul]
    omega
theorem pi_tupK {X : Cx} (K : Fr) {tg l : Expr} {tl : TE} (hl : PE X l tl) (h : X.K = K := by rfl) : PI X tg l (iTup K tl) := by
  subst h
  exact pi_tup hl
section
variable {P : Program} {w : World} {K : Fr} {mg : Str → Option Value} {base : Heap} {f : Addr}
-- hint: pi:text.steps => pi_tup
-- hint: pi:step => pi_tupK K
-- hint: sc:[str(part) for part in step] => scFmt
-- hint: str(part) => (pk_t1 call_strB T.str b_str $0)
theorem ok_format_text (D : Df K "format_text" "format_text" s_format_text (ga K "format_text")) (T : Tc w K mg) (G_Text_steps : Kp P w K mg base 1 (pgA K (CT K) "steps") (spStepsP K)) : Kp P w K mg base 5 (ga K "format_text") (spFormat K) := by
  refine kp_of D sc_format_text (fun _ _ _ _ _ _ us hl => match us, hl with | [_], _ => rfl) ?_ (fun cdv A outer s H vs Q E hr h => ?_)
  · rintro vs H Q E ⟨x, st, rfl, _⟩
    rfl
  · obtain ⟨x, st, rfl, tx, q⟩ := h
    obtain ⟨dx, ts, sp, as, ss, hx, hts, hst, hsp, hss⟩ := tx.obj
    have few := tx.few
    have good := tx.good
    refine ⟨_, (pss_one (ps_ret (pe_joinK K pe_str (pe_lc (own := [("step", 1)]) (g := gName 1) (tt := tYes) rfl sc_format_text.nd (pi_tup (pk_prop (pv 0) T.clT T.pSteps G_Text_steps (hr.mono (by omega)))) (blkOk_by (N := ["text", "step", "part"]) (sc := defScope s_format_text) (by decide +kernel)) (fun _ _ _ _ _ => (pg_name (i := 1) sc_format_text.nd rfl (Or.inl rfl))) (fun _ _ _ _ _ => pts_nil) (fun _ _ _ _ _ => (pe_joinK K pe_str (pe_lc (own := [("part", 2)]) (g := gName 2) (tt := tYes) rfl sc_format_text.nd (pi_tupK K (pv 1)) (blkOk_by (N := ["text", "step", "part"]) (sc := scFmt) (by decide +kernel)) (fun _ _ _ _ _ => (pg_name (i := 2) sc_format_text.nd rfl (Or.inl rfl))) (fun _ _ _ _ _ => pts_nil) (fun _ _ _ _ _ => (pk_t1 call_strB T.str b_str (pv 2)))))))))), ?_⟩
    refine ⟨⟨_, rfl⟩, _, rfl, _, _, _, rfl, hx, _, _, rfl, tx, fun ts1 as1 h h1 => ?_⟩
    refine ⟨_, rfl, ⟨_, (same_sqT (Same.refl _) h)⟩, fun D1 n => ?_⟩
    have ne_x_D1 := ne_of_none hx n
    have hn1 : (as1.map V.ref).length = st.length := by rw [List.length_map, h1.len]
    refine lc_map (walk_tup (xs := as1.map V.ref)) (by assumption) (fun i => V.str (rowT (st.getD i (.wr [])))) (by rw [hn1]; exact small_ok (by omega)) (fun H2 s2 => same_sqT s2 h) ?_ ?_
    · rintro i v H3 H4 N hi s2 ⟨rfl, hu⟩ hN
      rw [hn1] at hi
      have e9 : st[i]? = some (st.getD i (.wr [])) := by rw [List.getD_eq_getElem?_getD, List.getElem?_eq_getElem hi]; rfl
      obtain ⟨b, hb, eb⟩ := h1.at_ i _ e9
      cases (map_get hb).symm.trans hu
      obtain ⟨ok9, lim9⟩ := goes_at good e9
      have hsz := sz_most (goes_take good i)
      generalize st.getD i (.wr []) = y9 at e9 eb ok9 lim9 hN
      have eb4 := same_sqT s2 eb
      clear eb
      refine ⟨rfl, ⟨_, rfl⟩, _, rfl, _, rfl, ⟨_, eb4⟩, fun D2 n1 => ?_⟩
      have ne_x_D2 := ne_of_none (s2 _ _ hx) n1
      refine lc_map (walk_tup (xs := stV y9)) (by assumption) (fun j => V.str (sL ((rowW y9).getD j []))) (by rw [stV_rowW]; exact small_ok (Nat.le_trans (rowW_len y9) (by omega))) (fun H2 s2 => same_sqT s2 eb4) ?_ ?_
      · rintro j v H5 H6 N2 hj s5 ⟨rfl, hv⟩ hN2
        rcases parts_at ok9 hsz hv with rfl | ⟨n9, rfl, hn9, e10⟩
        · refine ⟨rfl, _, rfl, (.inr ⟨_, rfl, ?_⟩)⟩
          exact hN2 _ (Same.refl _)
        · rw [e10] at hN2
          have hlb := log_big (n := n9) (by omega)
          refine ⟨rfl, _, rfl, (.inl ⟨_, rfl, (by omega), ?_⟩)⟩
          exact hN2 _ (Same.refl _)
      · intro H5 s5 hD5
        rw [stV_rowW, rng_getD (rowW y9) [] fun w9 => V.str (sL w9)] at hD5
        skip
        refine ⟨_, D2, (rowW y9).map sL, rfl, rfl, .inl (SqL.of (by rw [hD5, List.map_map]; rfl)), ?_, ?_⟩
        · have h7 := sum_le9 (k := 20) (l := ((rowW y9).map sL).map (·.length)) fun x hx => by
            obtain ⟨z, hz, rfl⟩ := List.mem_map.mp hx
            obtain ⟨p9, hp9, rfl⟩ := List.mem_map.mp hz
            have := word_len ok9 hsz p9 hp9
            show (sL p9).length ≤ 20
            rw [sL_len]
            exact this
          have h8 := rowW_len y9
          have h9 : Str.length " " = 1 := by decide +kernel
          rw [List.length_map, List.length_map] at h7
          rw [List.length_map, h9]
          omega
        · rw [join_sL 32 _ sp_sL]
          exact hN H5 s5
    · intro H3 s3 hD3
      rw [hn1, rng_getD st (.wr []) fun y9 => V.str (rowT y9)] at hD3
      skip
      refine ⟨_, D1, st.map rowT, rfl, rfl, .inl (SqL.of (by rw [hD3, List.map_map]; rfl)), ?_, ?_⟩
      · have h7 := sum_le9 (k := 84) (l := (st.map rowT).map (·.length)) fun x hx => by
          obtain ⟨z, hz, rfl⟩ := List.mem_map.mp hx
          obtain ⟨y9, hy9, rfl⟩ := List.mem_map.mp hz
          obtain ⟨i9, hi9⟩ := List.mem_iff_getElem?.mp hy9
          show (sL (rowL2 y9)).length ≤ 84
          rw [sL_len]
          exact row_len (goes_at good hi9).1 (sz_most (goes_take good i9))
        have h9 : Str.length "\n" = 1 := by decide +kernel
        rw [List.length_map, List.length_map] at h7
        rw [List.length_map, h9]
        omega
      · have e11 : st.map rowT = (st.map rowL2).map sL := by rw [List.map_map]; rfl
        rw [e11, join_sL 10 _ nl_sL]
        exact q H3 s3
-- hint: pi:word => pi_str
theorem ok_is_figures (D : Df K "_is_figures" "_is_figures" s_is_figures (ga K "_is_figures")) (T : Tc w K mg) : Kp P w K mg base 1 (ga K "_is_figures") (spFigs K) := by
  refine kp_of D sc_is_figures (fun _ _ _ _ _ _ us hl => match us, hl with | [_], _ => rfl) ?_ (fun cdv A outer s H vs Q E hr h => ?_)
  · rintro vs H Q E ⟨n, rfl, _⟩
    rfl
  · obtain ⟨n, rfl, hn, q⟩ := h
    obtain ⟨hf1, hf2, hf3, hf4⟩ := figs_ok hn
    obtain ⟨c, hc⟩ : ∃ c, (numL n)[0]? = some c := ⟨_, List.getElem?_eq_getElem (by omega)⟩
    have hc0 : atI (sL (numL n)).cps.toList 0 = some c := atI_nat (j := 0) hc
    have hln : (sL (numL n)).length = (numL n).length := sL_len _
    have hlz : (sL (numL n)).length ≤ sizeLine := by rw [sL_len]; exact small_ok (by omega)
    refine ⟨_, (pss_cons (ps_if (pw_or (pt_not (pt_chain op_le op_le pe_int (pk_b1 (lenA K) T.len b_len (pv 0)) (pe_gIx T.c_MOST_FIGURES))) (pw_or1 (pw_and (pt_cmpR (eqB K hr.units) (pe_ix (ixS K) (pv 0) pe_int (fun _ _ => rfl)) pe_str (nomark _)) (pw_and1 (pt_cmpR (neB K hr.units) (pv 0) pe_str (nomark _)))).pt)).pt (pss_one (ps_ret pe_bl)) pss_nil) (pss_one (ps_ret (pk_b1 (cr_all rfl) T.all b_all (pe_lc (own := [("sign", 1)]) (g := gName 1) (tt := tYes) rfl sc_is_figures.nd (pi_str (pv 0)) (blkOk_by (N := ["word", "sign"]) (sc := defScope s_is_figures) (by decide +kernel)) (fun _ _ _ _ _ => (pg_name (i := 1) sc_is_figures.nd rfl (Or.inl rfl))) (fun _ _ _ _ _ => pts_nil) (fun _ _ _ _ _ => (pe_cmpR (inA K) (pv 1) (pe_gSx T.c_FIGURES) rfl))))))), ?_⟩
    refine ⟨_, rfl, (.inl ⟨_, rfl, (by omega), _, _, rfl, rfl, _, rfl, ?_⟩)⟩
    refine iT (dT (by omega)) ?_
    refine ⟨_, _, rfl, rfl, _, rfl, ?_⟩
    refine iF (nF (dT (by omega))) ?_
    refine ⟨_, rfl, (.inr (.inr ⟨_, _, _, rfl, rfl, (by omega), hc0, (.inl ⟨rfl, _, rfl, ?_⟩)⟩))⟩
    refine iB (fun h1 => ?_) fun h1 => ?_
    · have h2 : c = 48 := by
        have h3 : (⟨#[c]⟩ : Str) = Str.ofString "0" := V.str.inj h1
        have h4 : sL [c] = sL [48] := h3.trans (by decide +kernel)
        have := sL_inj.mp h4
        simpa using this
      have h5 := hf3 (by rw [hc, h2])
      refine ⟨_, rfl, (.inl ⟨rfl, _, rfl, ?_⟩)⟩
      refine iF (by rw [h5]; decide +kernel) ?_
      refine ⟨_, rfl, _, rfl, fun D1 n1 => ?_⟩
      refine lc_map (walk_str (z := sL (numL n))) (by assumption) (fun _ => V.bl true) (by show (sL (numL n)).length ≤ _; exact hlz) (fun _ _ => trivial) ?_ ?_
      · rintro i v H3 H4 N hi s2 ⟨rfl, c9, hc9, rfl⟩ hN
        have h9 := hf4 c9 (by
          rw [List.getElem?_toArray] at hc9
          exact List.mem_of_getElem? hc9)
        refine ⟨rfl, _, rfl, (.inr ⟨_, _, rfl, rfl, ?_⟩)⟩
        refine qBl (hN _ (Same.refl _)) ?_
        rw [if_neg (by decide), fig_in h9.1 h9.2]
      · intro H3 s3 hD3
        skip
        refine ⟨_, (List.range (sL (numL n)).cps.size).map fun _ => true, rfl, SqL.of (by rw [hD3, List.map_map]; rfl), ?_⟩
        rw [show ((List.range (sL (numL n)).cps.size).map fun _ => true).all id = true by simp]
        exact q H3 s3
    · refine iF rfl ?_
      refine ⟨_, rfl, _, rfl, fun D1 n1 => ?_⟩
      refine lc_map (walk_str (z := sL (numL n))) (by assumption) (fun _ => V.bl true) (by show (sL (numL n)).length ≤ _; exact hlz) (fun _ _ => trivial) ?_ ?_
      · rintro i v H3 H4 N hi s2 ⟨rfl, c9, hc9, rfl⟩ hN
        have h9 := hf4 c9 (by
          rw [List.getElem?_toArray] at hc9
          exact List.mem_of_getElem? hc9)
        refine ⟨rfl, _, rfl, (.inr ⟨_, _, rfl, rfl, ?_⟩)⟩
        refine qBl (hN _ (Same.refl _)) ?_
        rw [if_neg (by decide), fig_in h9.1 h9.2]
      · intro H3 s3 hD3
        skip
        refine ⟨_, (List.range (sL (numL n)).cps.size).map fun _ => true, rfl, SqL.of (by rw [hD3, List.map_map]; rfl), ?_⟩
        rw [show ((List.range (sL (numL n)).cps.size).map fun _ => true).all id = true by simp]
        exact q H3 s3
theorem ok_is_right (D : Df K "_is_right" "_is_right" s_is_right (ga K "_is_right")) (T : Tc w K mg) (G_is_word : Kp P w K mg base 1 (ga K "is_word") spIsWord) (G_is_figures : Kp P w K mg base 1 (ga K "_is_figures") (spFigs K)) : Kp P w K mg base 2 (ga K "_is_right") (spRight K) := by
  refine kp_of D sc_is_right (fun _ _ _ _ _ _ us hl => match us, hl with | [_, _], _ => rfl) ?_ (fun cdv A outer s H vs Q E hr h => ?_)
  · rintro vs H Q E ⟨k, y, s, w, i, rfl, _⟩
    rfl
  · obtain ⟨k, y, s, w, i, rfl, rfl, ok, hs, hw, q⟩ := h
    refine ⟨_, (pss_one (ps_ret (pe_ifExp (pt_cmpR (eqB K hr.units) (pv 0) pe_str (nomark _)) (pk_call G_is_word (hr.mono (by omega)) T.gIsWord (pa_cons (pv 1) pa_nil)) (pk_call G_is_figures (hr.mono (by omega)) T.g_is_figures (pa_cons (pv 1) pa_nil))))), ?_⟩
    have hmost : most = 1000000000000000000 := rfl
    cases y with
    | wr wd =>
      have hi : i = 0 := by
        have := (List.getElem?_eq_some_iff.mp hw).1
        simp [rowW] at this
        omega
      subst hi
      cases hw
      simp only [Stp.ok, Bool.and_eq_true, decide_eq_true_eq] at ok
      have hfit : fitV (.str (sL w)) := by
        show (sL w).length ≤ sizeLine
        rw [sL_len]
        exact small_ok (by omega)
      refine ⟨_, rfl, (.inl ⟨rfl, _, rfl, ?_⟩)⟩
      refine iT (sT rfl) ?_
      refine ⟨_, rfl, _, rfl, rfl, hfit, fun H2 s1 => ?_⟩
      refine qBl (q _ s1) ?_
      show true = (decide (1 ≤ (sL w).length) && decide ((sL w).length ≤ 20) && (sL w).cps.toList.all isLet)
      rw [sL_len, decide_eq_true ok.1.1, decide_eq_true ok.1.2]
      symm
      simpa [sL] using ok.2
    | pa f0 l0 t0 =>
      simp only [Stp.ok, Bool.and_eq_true, decide_eq_true_eq] at ok
      obtain ⟨n, rfl, hn⟩ : ∃ n, w = numL n ∧ n < 1000000000000000000 := by
        match i, hw with
        | 0, hw => exact ⟨f0, (Option.some.inj hw).symm, by omega⟩
        | 1, hw => exact ⟨l0, (Option.some.inj hw).symm, by omega⟩
        | 2, hw => exact ⟨t0, (Option.some.inj hw).symm, by omega⟩
        | i + 3, hw => simp [rowW] at hw
      have hkw : decide (V.str "paste" = V.str "write") = false := by decide +kernel
      refine ⟨_, rfl, (.inl ⟨rfl, _, rfl, ?_⟩)⟩
      refine iF hkw ?_
      refine ⟨_, rfl, _, rfl, (by omega), fun H2 s1 => ?_⟩
      exact q _ s1
-- hint: ROW_LENGTHS => =(pe_gR T.g_ROW_LENGTHS)
-- hint: kind not in ROW_LENGTHS => (op_kNotIn T.k_ROW_LENGTHS)
-- hint: ROW_LENGTHS[kind] => (ix_kI T.k_ROW_LENGTHS)
-- hint: int(words[1]) => (pk_t1 call_int_str T.int b_int $0)
-- hint: int(words[2]) => (pk_t1 call_int_str T.int b_int $0)
-- hint: int(words[3]) => (pk_t1 call_int_str T.int b_int $0)
theorem ok_parsed_row (D : Df K "_parsed_row" "_parsed_row" s_parsed_row (ga K "_parsed_row")) (T : Tc w K mg) (G_is_right : Kp P w K mg base 2 (ga K "_is_right") (spRight K)) : Kp P w K mg base 3 (ga K "_parsed_row") (spRowOf K) := by
  refine kp_of D sc_parsed_row (fun _ _ _ _ _ _ us hl => match us, hl with | [_, _], _ => rfl) ?_ (fun cdv A outer s H vs Q E hr h => ?_)
  · rintro vs H Q E ⟨i, p, y, s, rfl, _⟩
    rfl
  · obtain ⟨i, p, y, s, rfl, hp, ok, hs, q⟩ := h
    refine ⟨_, (pss_cons (ps_set (i := 2) sc_parsed_row.nd rfl (Or.inl rfl) (pe_ix (ixS K) (pv 1) pe_int (fun _ _ => rfl))) (pss_cons (ps_if (pt_cmpR (op_kNotIn T.k_ROW_LENGTHS) (pv 2) (pe_gR T.g_ROW_LENGTHS) rfl) pss_never pss_nil) (pss_cons (ps_set (i := 3) sc_parsed_row.nd rfl (Or.inl rfl) (pe_ix (ix_kI T.k_ROW_LENGTHS) (pe_gR T.g_ROW_LENGTHS) (pv 2) (fun _ _ => rfl))) (pss_cons (ps_for PassesOwn.never rfl (pi_range2 (by rfl) T.rng (pa_cons pe_int (pa_cons (pv 3) pa_nil))) (pg_name (i := 4) sc_parsed_row.nd rfl (Or.inl rfl)) (pss_one (ps_if (pw_or (pt_cmpR op_ge (pv 4) (pk_b1 (lenA K) T.len b_len (pv 1)) (nomark _)) (pw_or1 (pt_not (pt_val (pk_call G_is_right (hr.mono (by omega)) T.g_is_right (pa_cons (pv 2) (pa_cons (pe_ix (ixS K) (pv 1) (pv 4) (fun _ _ => rfl)) pa_nil))))))).pt pss_never pss_nil))) (pss_cons (ps_if (pt_cmpR op_gt (pk_b1 (lenA K) T.len b_len (pv 1)) (pv 3) (nomark _)) pss_never pss_nil) (pss_cons (ps_if (pt_cmpR (eqB K hr.units) (pv 2) pe_str (nomark _)) (pss_one (ps_ret (pe_tup (pa_cons (pv 2) (pa_cons (pe_ix (ixS K) (pv 1) pe_int (fun _ _ => rfl)) pa_nil))))) pss_nil) (pss_one (ps_ret (pe_tup (pa_cons (pv 2) (pa_cons (pk_t1 call_int_str T.int b_int (pe_ix (ixS K) (pv 1) pe_int (fun _ _ => rfl))) (pa_cons (pk_t1 call_int_str T.int b_int (pe_ix (ixS K) (pv 1) pe_int (fun _ _ => rfl))) (pa_cons (pk_t1 call_int_str T.int b_int (pe_ix (ixS K) (pv 1) pe_int (fun _ _ => rfl))) pa_nil))))))))))))), ?_⟩
    have hmost : most = 1000000000000000000 := rfl
    cases y with
    | wr wd =>
      have hp2 : H p = some (.lst [V.str "write", V.str (sL wd)]) := by
        rw [hp, wr_sL]
        rfl
      clear hp
      have hw1 : (rowW (.wr wd))[0 + 1]? = some wd := rfl
      have hk9 : (Str.ofString "write") = kindS (.wr wd) := rfl
      refine ⟨_, rfl, (.inl ⟨_, _, _, _, rfl, rfl, (SqL.of hp2), rfl, _, rfl, ?_⟩)⟩
      refine ⟨_, 2, rfl, rfl, .head _, ?_⟩
      refine ⟨_, rfl, ?_⟩
      refine iF rfl ?_
      refine ⟨_, rfl, ?_⟩
      refine ⟨_, 2, rfl, rfl, .head _, ?_⟩
      refine ⟨_, rfl, _, _, rfl, ⟨(by omega), ⟨(by omega), ⟨(by omega), (by omega)⟩⟩⟩, ?_⟩
      generalize hσ : List.set _ _ _ = σ1
      simp only [L2.start, List.set_cons_zero, List.set_cons_succ, List.map_cons, List.map_nil, List.length_cons, List.length_nil, List.replicate_succ, List.replicate_zero, List.cons_append, List.nil_append, Nat.reduceAdd, Nat.reduceSub] at hσ
      subst hσ
      refine for_range (lo := 1) (n := 1) (fun j σ HB => ∃ v4 : Option V, σ = [some (.int (i : Nat)), some (.ref p), some (.str "write"), some (.int 2), v4] ∧ Same H HB) ⟨_, rfl, Same.refl _⟩ ?_ ?_
      · rintro j σ HB hj ⟨v4, rfl, sB⟩
        have hj0 : j = 0 := by omega
        subst hj0
        refine ⟨_, rfl, _, rfl, (.inr (.inl ⟨_, _, rfl, (.inl (SqL.of (sB _ _ hp2))), _, _, rfl, rfl, _, rfl, ?_⟩))⟩
        refine iF (decide_eq_false (by show ¬ ((2 : Int) ≤ 1 + 0); omega)) ?_
        refine ⟨_, rfl, _, rfl, _, rfl, (.inl ⟨_, _, _, _, rfl, rfl, (SqL.of (sB _ _ hp2)), rfl, _, _, _, _, _, rfl, hk9, ok, (by omega), hw1, fun H2 s1 => ?_⟩)⟩
        refine ⟨_, rfl, ?_⟩
        refine iF (nF rfl) ?_
        refine ⟨_, rfl, ?_⟩
        exact (sB.trans s1)
      · rintro σ HB ⟨v4, rfl, sB⟩
        refine ⟨_, rfl, (.inr (.inl ⟨_, _, rfl, (.inl (SqL.of (sB _ _ hp2))), _, rfl, _, _, rfl, rfl, _, rfl, ?_⟩))⟩
        refine iF (decide_eq_false (by show ¬ ((2 : Int) < 2); omega)) ?_
        refine ⟨_, rfl, (.inl ⟨rfl, _, rfl, ?_⟩)⟩
        refine iT (sT rfl) ?_
        refine ⟨_, rfl, _, rfl, (.inl ⟨_, _, _, _, rfl, rfl, (SqL.of (sB _ _ hp2)), rfl, (by (show 2 ≤ _; decide)), fun p1 n => ?_⟩)⟩
        have ne_p_p1 := ne_of_none (sB _ _ hp2) n
        generalize hE : upd HB p1 _ = H1
        have s1 : Same HB H1 := hE ▸ same_upd n
        have e_p1 := (congrFun hE p1).symm.trans upd_same
        clear hE
        exact q _ _ (sB.free n) (sB.trans s1) (SqT.of e_p1)
    | pa f0 l0 t0 =>
      have hp2 : H p = some (.lst [V.str "paste", V.str (sL (numL f0)), V.str (sL (numL l0)), V.str (sL (numL t0))]) := by
        rw [hp, pa_sL]
        rfl
      clear hp
      have ok2 := ok
      simp only [Stp.ok, Bool.and_eq_true, decide_eq_true_eq] at ok2
      have hk9 : (Str.ofString "paste") = kindS (.pa f0 l0 t0) := rfl
      refine ⟨_, rfl, (.inl ⟨_, _, _, _, rfl, rfl, (SqL.of hp2), rfl, _, rfl, ?_⟩)⟩
      refine ⟨_, 4, rfl, rfl, .tail _ (.head _), ?_⟩
      refine ⟨_, rfl, ?_⟩
      refine iF rfl ?_
      refine ⟨_, rfl, ?_⟩
      refine ⟨_, 4, rfl, rfl, .tail _ (.head _), ?_⟩
      refine ⟨_, rfl, _, _, rfl, ⟨(by omega), ⟨(by omega), ⟨(by omega), (by omega)⟩⟩⟩, ?_⟩
      generalize hσ : List.set _ _ _ = σ1
      simp only [L2.start, List.set_cons_zero, List.set_cons_succ, List.map_cons, List.map_nil, List.length_cons, List.length_nil, List.replicate_succ, List.replicate_zero, List.cons_append, List.nil_append, Nat.reduceAdd, Nat.reduceSub] at hσ
      subst hσ
      refine for_range (lo := 1) (n := 3) (fun j σ HB => ∃ v4 : Option V, σ = [some (.int (i : Nat)), some (.ref p), some (.str "paste"), some (.int 4), v4] ∧ Same H HB) ⟨_, rfl, Same.refl _⟩ ?_ ?_
      · rintro j σ HB hj ⟨v4, rfl, sB⟩
        obtain ⟨n9, hw9, hn9⟩ : ∃ n9 : Nat, (rowW (.pa f0 l0 t0))[j + 1]? = some (numL n9) ∧ n9 < 1000000000000000000 := by
          match j, hj with
          | 0, _ => exact ⟨f0, rfl, by omega⟩
          | 1, _ => exact ⟨l0, rfl, by omega⟩
          | 2, _ => exact ⟨t0, rfl, by omega⟩
        have hat9 : atI [V.str "paste", V.str (sL (numL f0)), V.str (sL (numL l0)), V.str (sL (numL t0))] (1 + (j : Int)) = some (.str (sL (numL n9))) := by
          match j, hj, hw9 with
          | 0, _, hw9 => rw [← Option.some.inj (show some (numL f0) = some (numL n9) from hw9)]; exact atI_nat (j := 1) rfl
          | 1, _, hw9 => rw [← Option.some.inj (show some (numL l0) = some (numL n9) from hw9)]; exact atI_nat (j := 2) rfl
          | 2, _, hw9 => rw [← Option.some.inj (show some (numL t0) = some (numL n9) from hw9)]; exact atI_nat (j := 3) rfl
        refine ⟨_, rfl, _, rfl, (.inr (.inl ⟨_, _, rfl, (.inl (SqL.of (sB _ _ hp2))), _, _, rfl, rfl, _, rfl, ?_⟩))⟩
        refine iF (decide_eq_false (by show ¬ ((4 : Int) ≤ 1 + (j : Int)); omega)) ?_
        refine ⟨_, rfl, _, rfl, _, rfl, (.inl ⟨_, _, _, _, rfl, rfl, (SqL.of (sB _ _ hp2)), hat9, _, _, _, _, _, rfl, hk9, ok, (by omega), hw9, fun H2 s1 => ?_⟩)⟩
        refine ⟨_, rfl, ?_⟩
        refine iF (nF rfl) ?_
        refine ⟨_, rfl, ?_⟩
        exact (sB.trans s1)
      · rintro σ HB ⟨v4, rfl, sB⟩
        have hi1 := int_sL (n := f0) (by omega)
        have hi2 := int_sL (n := l0) (by omega)
        have hi3 := int_sL (n := t0) (by omega)
        have hl1 : (sL (numL f0)).length ≤ 640 := by rw [sL_len]; have := (figs_ok (n := f0) (by omega)).2.1; omega
        have hl2 : (sL (numL l0)).length ≤ 640 := by rw [sL_len]; have := (figs_ok (n := l0) (by omega)).2.1; omega
        have hl3 : (sL (numL t0)).length ≤ 640 := by rw [sL_len]; have := (figs_ok (n := t0) (by omega)).2.1; omega
        have hkw : decide (V.str "paste" = V.str "write") = false := by decide +kernel
        refine ⟨_, rfl, (.inr (.inl ⟨_, _, rfl, (.inl (SqL.of (sB _ _ hp2))), _, rfl, _, _, rfl, rfl, _, rfl, ?_⟩))⟩
        refine iF (decide_eq_false (by show ¬ ((4 : Int) < 4); omega)) ?_
        refine ⟨_, rfl, (.inl ⟨rfl, _, rfl, ?_⟩)⟩
        refine iF hkw ?_
        refine ⟨_, rfl, _, rfl, (.inl ⟨_, _, _, _, rfl, rfl, (SqL.of (sB _ _ hp2)), rfl, _, _, rfl, hi1, (by omega), _, rfl, (.inl ⟨_, _, _, _, rfl, rfl, (SqL.of (sB _ _ hp2)), rfl, _, _, rfl, hi2, (by omega), _, rfl, (.inl ⟨_, _, _, _, rfl, rfl, (SqL.of (sB _ _ hp2)), rfl, _, _, rfl, hi3, (by omega), (by (show 4 ≤ _; decide)), fun p1 n => ?_⟩)⟩)⟩)⟩
        have ne_p_p1 := ne_of_none (sB _ _ hp2) n
        generalize hE : upd HB p1 _ = H1
        have s1 : Same HB H1 := hE ▸ same_upd n
        have e_p1 := (congrFun hE p1).symm.trans upd_same
        clear hE
        exact q _ _ (sB.free n) (sB.trans s1) (SqT.of e_p1)
theorem ok_parse_text (D : Df K "parse_text" "parse_text" s_parse_text (ga K "parse_text")) (T : Tc w K mg) (G_parsed_row : Kp P w K mg base 3 (ga K "_parsed_row") (spRowOf K)) (G_Text_init : FnR P w K mg base CX0 5 (ma K (CT K) "__init__") (spInit5 K)) : Kp P w K mg base 7 (ga K "parse_text") (spParse K) := by
  refine kp_of D sc_parse_text (fun _ _ _ _ _ _ us hl => match us, hl with | [_], _ => rfl) ?_ (fun cdv A outer s H vs Q E hr h => ?_)
  · rintro vs H Q E ⟨st, rfl, _⟩
    rfl
  · obtain ⟨st, rfl, good, few, q⟩ := h
    refine ⟨_, (pss_cons (ps_if (pt_not (pt_val (pe_isi (pv 0) T.isi T.str b_str))) pss_never pss_nil) (pss_cons (ps_if (pt_cmpR (eqB K hr.units) (pv 0) pe_str (nomark _)) (pss_one (ps_ret (pe_text0 T.csct T.mkT G_Text_init (hr.mono (by omega)) T.gText))) pss_nil) (pss_cons (ps_setLc (i := 1) (own := [("at", 2), ("row", 3)]) (g := gTup K 2 (gCons (gName 2) (gCons (gName 3) (gNil)))) (tt := tYes) rfl sc_parse_text.nd rfl rfl (sw_true rfl rfl rfl (by decide +kernel)) (pi_enumX (by rfl) T.enu (pa_cons (pe_split (pv 0) pe_str) pa_nil)) (blkOk_by (N := ["rows", "steps", "at", "row"]) (sc := defScope s_parse_text) (by decide +kernel)) (fun _ _ _ _ _ => (pg_tup rfl (pgs_cons (pg_name (i := 2) sc_parse_text.nd rfl (Or.inl rfl)) (pgs_cons (pg_name (i := 3) sc_parse_text.nd rfl (Or.inl rfl)) pgs_nil)))) (fun _ _ _ _ _ => pts_nil) (fun _ _ _ _ _ => (pk_call G_parsed_row (hr.mono (by omega)) T.g_parsed_row (pa_cons (pv 2) (pa_cons (pe_split (pv 3) pe_str) pa_nil))))) (pss_one (ps_ret (pe_textS T.csct T.mkT G_Text_init (hr.mono (by omega)) T.gText (pv 1))))))), ?_⟩
    refine ⟨_, rfl, _, _, _, _, rfl, (.base (.str _)), rfl, _, rfl, ?_⟩
    refine iF (nF rfl) ?_
    refine ⟨_, rfl, (.inl ⟨rfl, _, rfl, ?_⟩)⟩
    refine iB (fun h1 => ?_) fun h1 => ?_
    · have h2 : st = [] := by
        refine Decidable.byContradiction fun hne => rows_ne hne ?_
        have h3 : rowsT st = Str.ofString "" := V.str.inj h1
        have h4 : sL (rowsL st) = sL [] := h3.trans (by decide +kernel)
        exact sL_inj.mp h4
      subst h2
      refine fun x H2 n s1 t => ?_
      obtain ⟨dx_x, ts_x, sp_x, as_x, ss_x, hx_x, hts_x, hst_x, hsp_x, hss_x⟩ := t.obj
      have hty_x := typed_small t
      have hnk_x := text_nk t
      have hg_x := t.good
      exact q _ _ n s1 (TextAt.same t (Same.refl _))
    · have h2 : st ≠ [] := fun z => h1 (by rw [z]; decide +kernel)
      have hrl := rows_len good few
      have hln : (rowsT st).length = (rowsL st).length := sL_len _
      have hlz : (rowsT st).length + 2 ≤ sizeLine := by rw [hln]; exact small_ok (by omega)
      have hsp := split_rows good h2
      rw [← nl_sL] at hsp
      refine ⟨_, rfl, ⟨_, rfl⟩, _, _, rfl, rfl, rfl, (by omega), fun p n => ?_⟩
      generalize hE : upd H p _ = H1
      have s1 : Same H H1 := hE ▸ same_upd n
      have e_p := (congrFun hE p).symm.trans upd_same
      clear hE
      rw [hsp] at e_p
      refine ⟨.lst p, (st.map rowT).map V.str, rfl, SqL.of e_p, fun D hD => ?_⟩
      have hn1 : ((st.map rowT).map V.str).length = st.length := by rw [List.length_map, List.length_map]
      refine lc_it (walk_enumX (K := K) (S := .lst p) (xs := (st.map rowT).map V.str)) (fun i H2 => Same H1 H2 ∧ ∃ as, H2 D = some (.lst (as.map V.ref)) ∧ StepsAt K H2 as (st.take i)) ⟨same_upd hD, [], upd_same, StepsAt.nil⟩ (fun i H2 _ p => SqL.of (p.1 _ _ e_p)) ?_ ?_
      · rintro i v H2 H3 hi ⟨s2, as, hD2, hst⟩ ⟨T0, v1, v2, rfl, hT0, rfl, ev1, ev2⟩
        cases ev1
        rw [hn1] at hi
        obtain ⟨y, hy⟩ : ∃ y, st[i]? = some y := ⟨_, List.getElem?_eq_getElem hi⟩
        have ev3 : v2 = .str (rowT y) := by
          have ev2 : ((st.map rowT).map V.str)[i]? = some v2 := ev2
          rw [List.getElem?_map, List.getElem?_map, hy] at ev2
          exact (Option.some.inj ev2).symm
        subst ev3
        obtain ⟨ok, lim⟩ := goes_at good hy
        have hsz := sz_most (goes_take good i)
        have hrow := row_len ok hsz
        have hrl9 : (rowT y).length + 2 ≤ sizeLine := by
          have : (rowT y).length = (rowL2 y).length := sL_len _
          rw [this]
          exact small_ok (by omega)
        have hsp9 := split_row ok
        rw [← sp_sL] at hsp9
        generalize hE : upd H2 T0 _ = H11
        have s3 : Same H2 H11 := hE ▸ same_upd hT0
        have e_T0 := (congrFun hE T0).symm.trans upd_same
        clear hE
        refine ⟨_, _, rfl, (SqT.of e_T0), rfl, _, _, rfl, _, _, rfl, rfl, rfl, ?_⟩
        have ne_p_T0 := ne_of_none (s2 _ _ e_p) hT0
        have ne_D_T0 := ne_of_none hD2 hT0
        refine yes_go ?_
        have hal : (as.map V.ref).length < sizeLine := by
          rw [List.length_map, hst.len, List.length_take]
          exact small_lt (by omega)
        refine ⟨_, rfl, _, rfl, ⟨_, rfl⟩, _, _, rfl, rfl, rfl, (by omega), fun p1 n1 => ?_⟩
        have ne_p_p1 := ne_of_none ((s2.trans s3) _ _ e_p) n1
        have ne_D_p1 := ne_of_none (s3 _ _ hD2) n1
        generalize hE : upd H11 p1 _ = H12
        have s4 : Same H11 H12 := hE ▸ same_upd n1
        have e_p1 := (congrFun hE p1).symm.trans upd_same
        clear hE
        refine ⟨_, _, _, _, rfl, ?_, ok, (by omega), fun t H21 n2 s5 h => ?_⟩
        rotate_left 1
        have ne_p_t := ne_of_none (((s2.trans s3).trans s4) _ _ e_p) n2
        have ne_D_t := ne_of_none ((s3.trans s4) _ _ hD2) n2
        have ne_p1_t := ne_of_none e_p1 n2
        refine ⟨_, (s5 _ _ (s4 _ _ (s3 _ _ hD2))), (by omega), (same_own (((s2.trans s3).trans s4).trans s5) hD), ?_⟩
        generalize hE : upd H21 D _ = H13
        have b : But D H21 H13 := hE ▸ but_upd
        have s6 : Same H1 H13 := hE ▸ same_own (((s2.trans s3).trans s4).trans s5) hD
        have s7 : Same H H13 := hE ▸ same_own ((((s1.trans s2).trans s3).trans s4).trans s5) (s1.free hD)
        have e_D := (congrFun hE D).symm.trans upd_same
        clear hE
        · have hD3 : H21 D = some (.lst (as.map V.ref)) := by
            exact (s5 _ _ (s4 _ _ (s3 _ _ hD2)))
          refine ⟨as ++ [t], by rw [e_D, List.map_append]; rfl, ?_⟩
          rw [take_succ hy]
          have sX : Same H2 H21 := by
            exact ((s3.trans s4).trans s5)
          exact (steps_butL hD3 b (hst.same sX)).snoc (sqT_butL hD3 b h)
        · rw [e_p1, hsp9, List.map_map]
          rfl
      · rintro H2 ⟨s2, as, hD2, hst⟩
        rw [hn1, List.take_length] at hst
        refine ⟨_, rfl, _, _, _, rfl, (.inr (SqL.of hD2)), (StepsAt.same hst (Same.refl _)), good, (by omega), fun z H21 n1 s3 t => ?_⟩
        have ne_p_z := ne_of_none (s2 _ _ e_p) n1
        have ne_D_z := ne_of_none hD2 n1
        obtain ⟨dx_z, ts_z, sp_z, as_z, ss_z, hx_z, hts_z, hst_z, hsp_z, hss_z⟩ := t.obj
        have hty_z := typed_small t
        have hnk_z := text_nk t
        have hg_z := t.good
        exact q _ _ ((s1.trans s2).free n1) ((s1.trans s2).trans s3) (TextAt.same t (Same.refl _))
end
end KL
namespace KL
open PySem PySem.Spec PyProof.Rows L2 Pk He
abbrev CBs (K : Fr) : Addr := ga K "ByteSource"
def bsF (l : List Nat) (i : Nat) : List (Str × V) := [("_data", .byt (bA l)), ("offset", .int (i : Nat))]
theorem put_b1 (a : V) : putF "_data" a ([] : List (Str × V)) = ([("_data", a)] : List (Str × V)) := rfl
theorem put_b2 (a b : V) : putF "offset" b ([("_data", a)] : List (Str × V)) = ([("_data", a), ("offset", b)] : List (Str × V)) := (putF_new (f := "offset") (ns := ["_data"]) rfl (by decide +kernel)).trans rfl
theorem put_b3 (l : List Nat) (i : Nat) (b : V) : putF "offset" b (bsF l i) = ([("_data", .byt (bA l)), ("offset", b)] : List (Str × V)) := rfl
theorem butN_ {e p : Addr} {H H1 H2 : Hp} (b : But e H H1) (n : H p = none) (b2 : But p H1 H2) : But e H H2 := fun x o hx h => b2 x o (fun z => by subst z; rw [n] at h; cases h) (b x o hx h)
theorem butF_ {e p : Addr} {H H1 : Hp} (b : But e H H1) (n : H1 p = none) (ne : e ≠ p) : H p = none := by
  cases h : H p with
  | none => rfl
  | some o => exact absurd (b p o ne.symm h) (by rw [n]; intro z; cases z)
theorem encF_len {st : List Stp} (good : Goes most 0 st) (few : st.length ≤ 30) (i : Nat) : ((st.take i).flatMap encS).length ≤ 900 := by
  have h0 : ∀ (n : Nat), n ≤ st.length → ((st.take n).flatMap encS).length ≤ 30 * n := by
    intro n hn
    induction n with
    | zero => simp
    | succ n ih =>
      have e9 : st[n]? = some (st[n]) := List.getElem?_eq_getElem (by omega)
      have hsz := sz_most (goes_take good n)
      have hl9 := encS_len (goes_at good e9).1 hsz
      rw [take_succ e9, List.flatMap_append, List.length_append]
      have := ih (by omega)
      simp only [List.flatMap_cons, List.flatMap_nil, List.append_nil]
      omega
  by_cases h : i ≤ st.length
  · have := h0 i h
    omega
  · rw [List.take_of_length_le (by omega)]
    have := h0 st.length (Nat.le_refl _)
    rw [List.take_length] at this
    omega
theorem encB_drop (st : List Stp) (k : Nat) : (encB st).drop (0 + 1 + 1 + k) = (st.flatMap encS ++ [chk (encH st)]).drop k := by
  rw [show 0 + 1 + 1 + k = k + 1 + 1 by omega]
  rfl
theorem encB_dropJ {st : List Stp} {j : Nat} {y : Stp} (hy : st[j]? = some y) : (encB st).drop (0 + 1 + 1 + ((st.take j).flatMap encS).length) = encS y ++ ((st.drop (j + 1)).flatMap encS ++ [chk (encH st)]) := by
  have hj := (List.getElem?_eq_some_iff.mp hy).1
  have h1 : st.flatMap encS = (st.take j).flatMap encS ++ (encS y ++ (st.drop (j + 1)).flatMap encS) := by
    have h2 : st.drop j = y :: st.drop (j + 1) := by
      rw [List.drop_eq_getElem_cons hj]
      rw [(List.getElem?_eq_some_iff.mp hy).2]
    have h3 := congrArg (List.flatMap encS) (List.take_append_drop j st)
    rw [List.flatMap_append, h2, List.flatMap_cons] at h3
    exact h3.symm
  rw [encB_drop]
  generalize chk (encH st) = c
  rw [h1, List.append_assoc, List.drop_left, List.append_assoc]
theorem encB_take (st : List Stp) : (encB st).take (0 + 1 + 1 + (st.flatMap encS).length) = encH st := by
  have h : (encH st).length = 0 + 1 + 1 + (st.flatMap encS).length := by
    show (st.flatMap encS).length + 1 + 1 = _
    omega
  rw [← h]
  exact List.take_left
theorem encB_last (st : List Stp) : (encB st)[0 + 1 + 1 + (st.flatMap encS).length]? = some (chk (encH st)) := by
  have h : (encH st).length = 0 + 1 + 1 + (st.flatMap encS).length := by
    show (st.flatMap encS).length + 1 + 1 = _
    omega
  rw [← h]
  unfold encB
  rw [List.getElem?_append_right (Nat.le_refl _), Nat.sub_self]
  rfl
def spBsInit (K : Fr) : Sp := fun vs H Q _ => ∃ (e dx : Addr) (l : List Nat), vs = [.ref e, .byt (bA l)] ∧ H e = some (.ins (CBs K) dx []) ∧ ∀ H2, But e H H2 → H2 e = some (.ins (CBs K) dx (bsF l 0)) → Q .non H2
def spNextB (K : Fr) : Sp := fun vs H Q _ => ∃ (e dx : Addr) (l : List Nat) (i n : Nat) (lo hi : Int), vs = [.ref e, .int lo, .int hi] ∧ H e = some (.ins (CBs K) dx (bsF l i)) ∧ l.length ≤ 100000 ∧ isB l = true ∧ l[i]? = some n ∧ lo ≤ (n : Int) ∧ (n : Int) ≤ hi ∧ ∀ H2, But e H H2 → H2 e = some (.ins (CBs K) dx (bsF l (i + 1))) → Q (.int (n : Nat)) H2
def spNextN (K : Fr) : Sp := fun vs H Q _ => ∃ (e dx : Addr) (l post : List Nat) (i n : Nat) (lo hi : Int), vs = [.ref e, .int lo, .int hi] ∧ H e = some (.ins (CBs K) dx (bsF l i)) ∧ l.length ≤ 100000 ∧ isB l = true ∧ l.drop i = numB n ++ post ∧ lo ≤ (n : Int) ∧ (n : Int) ≤ hi ∧ n ≤ most ∧ ∀ H2, But e H H2 → H2 e = some (.ins (CBs K) dx (bsF l (i + (numB n).length))) → Q (.int (n : Nat)) H2
def spBsChk (K : Fr) : Sp := fun vs H Q _ => ∃ (e dx : Addr) (l : List Nat) (i : Nat), vs = [.ref e] ∧ H e = some (.ins (CBs K) dx (bsF l i)) ∧ l.length ≤ 100000 ∧ isB l = true ∧ i ≤ l.length ∧ ∀ H2, Same H H2 → Q (.int (chk (l.take i) : Nat)) H2
def spNextStep (K : Fr) : Sp := fun vs H Q _ => ∃ (e dx : Addr) (l post : List Nat) (i s : Nat) (y : Stp), vs = [.ref e, .int (s : Nat)] ∧ H e = some (.ins (CBs K) dx (bsF l i)) ∧ l.length ≤ 100000 ∧ isB l = true ∧ l.drop i = encS y ++ post ∧ y.ok s = true ∧ s ≤ most ∧ ∀ (t : Addr) H2, But e H H2 → H2 e = some (.ins (CBs K) dx (bsF l (i + (encS y).length))) → SqT K H2 t (stV y) → Q (.ref t) H2
def spDecode (K : Fr) : Sp := fun vs H Q _ => ∃ st : List Stp, vs = [.byt (bA (encB st))] ∧ Goes most 0 st ∧ st.length ≤ 30 ∧ ∀ (x : Addr) H2, H x = none → Same H H2 → TA_ K H2 x st → Q (.ref x) H2
section
variable {P : Program} {w : World} {K : Fr} {mg : Str → Option Value} {base : Heap} {f : Addr}
theorem ok_ByteSource_init (D : Df K "__init__" "ByteSource.__init__" s_ByteSource_init (ma K (ga K "ByteSource") "__init__")) (T : Tc w K mg) : Kp P w K mg base 1 (ma K (ga K "ByteSource") "__init__") (spBsInit K) := by
  refine kp_of D sc_ByteSource_init (fun _ _ _ _ _ _ us hl => match us, hl with | [_, _], _ => rfl) ?_ (fun cdv A outer s H vs Q E hr h => ?_)
  · rintro vs H Q E ⟨e, dx, l, rfl, _⟩
    rfl
  · obtain ⟨e, dx, l, rfl, he, q⟩ := h
    refine ⟨_, (pss_cons (ps_fld (pv 0) (pv 1) rfl) (pss_one (ps_fld (pv 0) pe_int rfl))), ?_⟩
    refine ⟨_, rfl, _, rfl, _, _, _, _, rfl, he, T.clByteSource, T.n_ByteSource_data, (by (show 0 < _; decide)), ?_⟩
    rw [put_b1]
    generalize hE : upd H e _ = H1
    have b : But e H H1 := hE ▸ but_upd
    have e_e := (congrFun hE e).symm.trans upd_same
    clear hE
    refine ⟨_, rfl, _, _, _, _, rfl, e_e, T.clByteSource, T.n_ByteSource_offset, (by (show 1 < _; decide)), ?_⟩
    rw [put_b2]
    generalize hE : upd H1 e _ = H11
    have b1 : But e H1 H11 := hE ▸ but_upd
    have e_e1 := (congrFun hE e).symm.trans upd_same
    clear hE
    exact q _ (b.trans b1) e_e1
-- hint: self._data[self.offset] => ixB
-- hint: self._data[self.offset - 1] => ixB
-- hint: len(self._data) => (pk_b1 call_lenBy T.len b_len $0)
theorem ok_ByteSource_next_byte (D : Df K "next_byte" "ByteSource.next_byte" s_ByteSource_next_byte (ma K (ga K "ByteSource") "next_byte")) (T : Tc w K mg) : Kp P w K mg base 1 (ma K (ga K "ByteSource") "next_byte") (spNextB K) := by
  refine kp_of D sc_ByteSource_next_byte (fun _ _ _ _ _ _ us hl => match us, hl with | [_, _, _], _ => rfl) ?_ (fun cdv A outer s H vs Q E hr h => ?_)
  · rintro vs H Q E ⟨e, dx, l, i, n, lo, hi, rfl, _⟩
    rfl
  · obtain ⟨e, dx, l, i, n, lo, hi, rfl, he, few, hB, hi9, h1, h2, q⟩ := h
    have hil := (List.getElem?_eq_some_iff.mp hi9).1
    refine ⟨_, (pss_cons (ps_if (pw_or (pt_cmpR (eqB K hr.units) (fldK K (pv 0)) (pk_b1 call_lenBy T.len b_len (fldK K (pv 0))) (nomark _)) (pw_or1 (pt_not (pt_chain op_le op_le (pv 1) (pe_ixB (fldK K (pv 0)) (fldK K (pv 0)) (fun _ _ => rfl)) (pv 2))))).pt pss_never pss_nil) (pss_cons (ps_fld (pv 0) (pe_op (addA K) (fldK K (pv 0)) pe_int) rfl) (pss_one (ps_ret (pe_ixB (fldK K (pv 0)) (pe_op op_sub (fldK K (pv 0)) pe_int) (fun _ _ => rfl)))))), ?_⟩
    refine ⟨_, rfl, _, _, _, _, _, rfl, he, T.clByteSource, T.n_ByteSource_offset, rfl, _, rfl, _, _, _, _, _, rfl, he, T.clByteSource, T.n_ByteSource_data, rfl, _, rfl, (by omega), (.inl ⟨rfl, _, rfl, ?_⟩)⟩
    refine iF (vF (by omega)) ?_
    refine ⟨_, rfl, _, rfl, _, _, _, _, _, rfl, he, T.clByteSource, T.n_ByteSource_data, rfl, _, rfl, _, _, _, _, _, rfl, he, T.clByteSource, T.n_ByteSource_offset, rfl, _, _, _, rfl, rfl, (by omega), hB, hi9, _, _, rfl, rfl, _, rfl, ?_⟩
    refine iT (dT (by omega)) ?_
    refine ⟨_, rfl, _, _, rfl, rfl, _, rfl, ?_⟩
    refine iF (nF (dT (by omega))) ?_
    refine ⟨_, rfl, _, _, _, _, _, rfl, he, T.clByteSource, T.n_ByteSource_offset, rfl, (.inl ⟨_, _, rfl, rfl, _, rfl, _, _, _, _, rfl, he, T.clByteSource, T.n_ByteSource_offset, (by (show 2 < _; decide)), ?_⟩)⟩
    rw [put_b3]
    generalize hE : upd H e _ = H1
    have b : But e H H1 := hE ▸ but_upd
    have e_e := (congrFun hE e).symm.trans upd_same
    clear hE
    refine ⟨_, rfl, _, _, _, _, _, rfl, e_e, T.clByteSource, T.n_ByteSource_data, rfl, _, rfl, _, _, _, _, _, rfl, e_e, T.clByteSource, T.n_ByteSource_offset, rfl, _, _, rfl, rfl, _, _, _, rfl, ?_, (by omega), hB, hi9, ?_⟩
    rotate_left 1
    exact q _ b e_e
    show V.int ((i : Int) + 1 - 1) = _
    rw [Int.add_sub_cancel]
-- hint: self._data[:self.offset] => sl_by
theorem ok_ByteSource_checksum (D : Df K "checksum" "ByteSource.checksum" s_ByteSource_checksum (ma K (ga K "ByteSource") "checksum")) (T : Tc w K mg) (G_checksum_of : Kp P w K mg base 1 (ga K "checksum_of") (spChk K)) : Kp P w K mg base 2 (ma K (ga K "ByteSource") "checksum") (spBsChk K) := by
  refine kp_of D sc_ByteSource_checksum (fun _ _ _ _ _ _ us hl => match us, hl with | [_], _ => rfl) ?_ (fun cdv A outer s H vs Q E hr h => ?_)
  · rintro vs H Q E ⟨e, dx, l, i, rfl, _⟩
    rfl
  · obtain ⟨e, dx, l, i, rfl, he, few, hB, hi, q⟩ := h
    refine ⟨_, (pss_one (ps_ret (pk_call G_checksum_of (hr.mono (by omega)) T.g_checksum_of (pa_cons (pe_slice sl_by (fldK K (pv 0)) po_none (po_some (fldK K (pv 0)))) pa_nil)))), ?_⟩
    have hB2 : isB ((l.drop 0).take (i - 0)) = true := isB_take (isB_drop hB 0) _
    refine ⟨_, rfl, _, _, _, _, _, rfl, he, T.clByteSource, T.n_ByteSource_data, rfl, _, rfl, _, _, _, _, _, rfl, he, T.clByteSource, T.n_ByteSource_offset, rfl, _, rfl, _, _, _, rfl, (by omega), (.inr ⟨rfl, rfl⟩), rfl, (by omega), (by omega), _, _, rfl, (.inr rfl), (by (simp only [cV_len, nV_len, List.length_append, List.length_map, List.length_take, List.length_drop, List.length_range, sL_len, typed_len, lts_len, kvL_len]; omega)), hB2, fun H2 s1 => ?_⟩
    exact q _ s1
-- hint: self._data[begin:self.offset] => sl_by
-- hint: list(self._data[begin:self.offset]) => (pk_t1 (call_lstBy rfl) T.lst b_list $0)
-- hint: groups[::-1] => revL
-- hint: Text.MAX_SIZE => (ClX.pe_cval $o)
theorem ok_ByteSource_next_number (D : Df K "next_number" "ByteSource.next_number" s_ByteSource_next_number (ma K (ga K "ByteSource") "next_number")) (T : Tc w K mg) (G_ByteSource_next_byte : Kp P w K mg base 1 (ma K (ga K "ByteSource") "next_byte") (spNextB K)) : Kp P w K mg base 3 (ma K (ga K "ByteSource") "next_number") (spNextN K) := by
  refine kp_of D sc_ByteSource_next_number (fun _ _ _ _ _ _ us hl => match us, hl with | [_, _, _], _ => rfl) ?_ (fun cdv A outer s H vs Q E hr h => ?_)
  · rintro vs H Q E ⟨e, dx, l, post, i, n, lo, hi, rfl, _⟩
    rfl
  · obtain ⟨e, dx, l, post, i, n, lo, hi, rfl, he, few, hB, hd, h1, h2, h3, q⟩ := h
    have hat : ∀ j, l[i + j]? = (numB n ++ post)[j]? := fun j => by rw [← hd, List.getElem?_drop]
    have hmost : most = 1000000000000000000 := rfl
    have hnl := numB_len 8 (n := n) (by omega)
    have hne := numB_ne n
    refine ⟨_, (pss_cons (ps_set (i := 3) sc_ByteSource_next_number.nd rfl (Or.inl rfl) (fldK K (pv 0))) (pss_cons (ps_while PassesOwn.never (pt_cmpR op_ge (pe_methR (pv 0) T.clByteSource T.m_ByteSource_next_byte G_ByteSource_next_byte.fnR (hr.mono (by omega)) pass0 (pa_cons pe_int (pa_cons pe_int pa_nil))) (pe_gIx T.c_GROUP) (nomark _)) (pss_one ps_pass)) (pss_cons (ps_set (i := 4) sc_ByteSource_next_number.nd rfl (Or.inl rfl) (pk_t1 (call_lstBy rfl) T.lst b_list (pe_slice sl_by (fldK K (pv 0)) (po_some (pv 3)) (po_some (fldK K (pv 0)))))) (pss_cons (ps_if (pw_and (pt_cmpR op_gt (pk_b1 (lenA K) T.len b_len (pv 4)) pe_int (nomark _)) (pw_and1 (pt_cmpR (eqB K hr.units) (pe_ix (ixS K) (pv 4) (pe_un un_neg pe_int) (fun _ _ => rfl)) pe_int (nomark _)))).pt pss_never pss_nil) (pss_cons (ps_set (i := 5) sc_ByteSource_next_number.nd rfl (Or.inl rfl) pe_int) (pss_cons (ps_for PassesOwn.never rfl (pi_list (pe_revL (pv 4))) (pg_name (i := 6) sc_ByteSource_next_number.nd rfl (Or.inl rfl)) (pss_one (ps_set (i := 5) sc_ByteSource_next_number.nd rfl (Or.inl rfl) (pe_callB (call_min2 rfl) (by rfl) T.min b_min (pa_cons (pe_op (addA K) (pe_op mulB (pv 5) (pe_gIx T.c_GROUP)) (pe_op op_and (pv 6) (pe_op op_sub (pe_gIx T.c_GROUP) pe_int))) (pa_cons (ClX.pe_cval (pe_gR T.gText)) pa_nil)))))) (pss_cons (ps_if (pt_not (pt_chain op_le op_le (pv 1) (pv 5) (pv 2))) pss_never pss_nil) (pss_one (ps_ret (pv 5)))))))))), ?_⟩
    refine ⟨_, rfl, _, _, _, _, _, rfl, he, T.clByteSource, T.n_ByteSource_offset, rfl, ?_⟩
    refine ⟨fun m σ HB => ∃ (j : Nat) (v4 v5 v6 : Option V), σ = [some (.ref e), some (.int lo), some (.int hi), some (.int (i : Nat)), v4, v5, v6] ∧ m = (numB n).length - j ∧ j < (numB n).length ∧ But e H HB ∧ HB e = some (.ins (CBs K) dx (bsF l (i + j))), ⟨_, 0, none, none, none, rfl, rfl, by omega, But.refl _ _, he⟩, ?_⟩
    rintro m σ HB ⟨j, v4, v5, v6, rfl, rfl, hj, bB, heB⟩
    obtain ⟨g, hg⟩ : ∃ g, (numB n)[j]? = some g := ⟨_, List.getElem?_eq_getElem hj⟩
    have hlg : l[i + j]? = some g := by rw [hat, List.getElem?_append_left hj]; exact hg
    have hgB := isB_at hB hlg
    have hga := numB_at hg
    refine ⟨_, rfl, _, _, _, rfl, heB, rfl, _, _, _, _, _, _, _, rfl, heB, (by omega), hB, hlg, (by omega), (by omega), fun H2 b e1 => ?_⟩
    refine ⟨_, _, rfl, rfl, _, rfl, ?_⟩
    refine iB (fun h5 => ?_) fun h5 => ?_
    · have h6 := hga.mp (by omega)
      refine ⟨fun σ' H' => ∃ (j2 : Nat) (v4 v5 v6 : Option V), σ' = [some (.ref e), some (.int lo), some (.int hi), some (.int (i : Nat)), v4, v5, v6] ∧ j2 = j + 1 ∧ But e H H' ∧ H' e = some (.ins (CBs K) dx (bsF l (i + j2))), fun σ' H' ⟨j2, v4, v5, v6, a1, a2, a3, a4⟩ => ⟨(numB n).length - j2, by omega, j2, v4, v5, v6, a1, rfl, by omega, a3, a4⟩, ?_⟩
      exact ⟨j + 1, _, _, _, rfl, rfl, bB.trans b, e1⟩
    · have h6 : (numB n).length = j + 1 := by
        have : ¬ (128 ≤ g) := by omega
        rw [hga] at this
        omega
      have hlen : i + (j + 1) ≤ l.length := by
        have := (List.getElem?_eq_some_iff.mp hlg).1
        omega
      rw [h6] at q hnl
      have htk : (l.drop i).take (i + (j + 1) - i) = numB n := by
        rw [hd, show i + (j + 1) - i = (numB n).length by omega, List.take_left]
      have hB2 : isB ((l.drop i).take (i + (j + 1) - i)) = true := isB_take (isB_drop hB i) _
      have hB3 : isB ((l.drop i).take (i + j + 1 - i)) = true := hB2
      refine ⟨_, rfl, _, _, _, _, _, rfl, e1, T.clByteSource, T.n_ByteSource_data, rfl, _, rfl, _, rfl, _, rfl, _, _, _, _, _, rfl, e1, T.clByteSource, T.n_ByteSource_offset, rfl, _, rfl, _, _, _, rfl, (by omega), (.inl rfl), rfl, (by omega), (by omega), _, rfl, (by (simp only [cV_len, nV_len, List.length_append, List.length_map, List.length_take, List.length_drop, List.length_range, sL_len, typed_len, lts_len, kvL_len]; omega)), hB3, fun q1 n1 => ?_⟩
      have ne_e_q1 := ne_of_none e1 n1
      generalize hE : upd H2 q1 _ = H1
      have s1 : Same H2 H1 := hE ▸ same_upd n1
      have e_q1 := (congrFun hE q1).symm.trans upd_same
      clear hE
      refine ⟨_, rfl, (.inr (.inl ⟨_, _, rfl, (.inl (SqL.of e_q1)), _, _, rfl, rfl, _, rfl, ?_⟩))⟩
      have htk : (l.drop i).take (i + j + 1 - i) = numB n := htk
      rw [htk] at e_q1 ⊢
      have e_q2 : H1 q1 = some (.lst (nV (numB n))) := e_q1
      clear e_q1
      have hsp : numB n = (numB n).take j ++ [g] := by
        have h7 := take_succ hg
        rw [← h6, List.take_length] at h7
        exact h7
      have hat1 : atI (nV (numB n)) (-1) = some (.int (g : Nat)) := by
        rw [hsp, ← nV_app1]
        exact atI_last
      refine iTailS (fun HC sC => ?_) fun hb tl => ?_
      · refine iteF ?_
        have e_q3 := sC _ _ e_q2
        have bC : But e H HC := (bB.trans b).trans ((Same.but s1).trans (Same.but sC))
        refine ⟨_, rfl, _, _, rfl, (SqL.of e_q3), fun p n2 => ?_⟩
        have ne_e_p := ne_of_none ((s1.trans sC) _ _ e1) n2
        have ne_q1_p := ne_of_none e_q3 n2
        generalize hE : upd HC p _ = H11
        have s2 : Same HC H11 := hE ▸ same_upd n2
        have e_p := (congrFun hE p).symm.trans upd_same
        clear hE
        generalize hσ : List.set _ _ _ = σ1
        simp only [L2.start, List.set_cons_zero, List.set_cons_succ, List.map_cons, List.map_nil, List.length_cons, List.length_nil, List.replicate_succ, List.replicate_zero, List.cons_append, List.nil_append, Nat.reduceAdd, Nat.reduceSub] at hσ
        subst hσ
        refine ⟨_, rfl, ⟨_, (SqL.of e_p)⟩, ?_⟩
        refine for_list (xs := (nV (numB n)).reverse) (fun t σ HD => ∃ v6 : Option V, σ = [some (.ref e), some (.int lo), some (.int hi), some (.int (i : Nat)), some (.ref q1), some (.int (valB ((numB n).drop ((numB n).length - t)) : Nat)), v6] ∧ Same H11 HD) ⟨_, by rw [Nat.sub_zero, List.drop_length]; rfl, Same.refl _⟩ ?_ ?_ ?_
        · rintro t σ HD ht ⟨v6, rfl, sD⟩
          exact SqL.of (sD _ _ e_p)
        · rintro t v σ HD hv ⟨v6, rfl, sD⟩
          obtain ⟨ht, hv2⟩ := rev_at hv
          rw [nV_len] at ht hv2
          cases (nV_get (l := numB n) (i := (numB n).length - 1 - t) (by omega)).symm.trans hv2
          have hgt : (numB n)[(numB n).length - 1 - t]? = some ((numB n).getD ((numB n).length - 1 - t) 0) := by
            rw [List.getD_eq_getElem?_getD, List.getElem?_eq_getElem (by omega)]
            rfl
          generalize (numB n).getD ((numB n).length - 1 - t) 0 = g9 at hgt ⊢
          have hdr : (numB n).drop ((numB n).length - (t + 1)) = g9 :: (numB n).drop ((numB n).length - t) := by
            have hl9 : (numB n).length - (t + 1) < (numB n).length := by omega
            rw [List.drop_eq_getElem_cons hl9]
            have h7 : (numB n)[(numB n).length - (t + 1)]? = some g9 := by rw [show (numB n).length - (t + 1) = (numB n).length - 1 - t by omega]; exact hgt
            rw [List.getElem?_eq_getElem hl9] at h7
            rw [Option.some.inj h7, show (numB n).length - (t + 1) + 1 = (numB n).length - t by omega]
          have hval : valB ((numB n).drop ((numB n).length - (t + 1))) = valB ((numB n).drop ((numB n).length - t)) * 128 + g9 % 128 := by rw [hdr]; rfl
          have hle := valB_drop_le (numB n) ((numB n).length - (t + 1))
          rw [valB_num] at hle
          have hle2 := valB_drop_le (numB n) ((numB n).length - t)
          rw [valB_num] at hle2
          have hba : Builtin.bitAnd (g9 : Int) (128 - 1) = ((g9 % 128 : Nat) : Int) := by
            have := Bits.bitAnd_mask (x := (g9 : Int)) 7 (by omega)
            rw [show ((2 : Int) ^ 7 - 1) = 128 - 1 by decide] at this
            rw [this, show ((2 : Int) ^ 7) = 128 by decide]
            omega
          obtain ⟨tk, hMax⟩ := T.maxSize
          refine ⟨_, rfl, (.inl ⟨_, _, rfl, rfl, (by exact .inl ⟨by omega, by omega⟩), _, rfl, _, _, rfl, rfl, _, _, rfl, rfl, (.inl ⟨_, _, rfl, rfl, ?_⟩)⟩)⟩
          refine ⟨_, _, _, _, rfl, T.rd, hMax, ?_⟩
          refine ⟨_, _, rfl, ?_⟩
          refine ⟨some (.int (g9 : Nat)), ?_, sD⟩
          have hmn : (if (1000000000000000000 : Int) < (valB ((numB n).drop ((numB n).length - t)) : Nat) * 128 + Builtin.bitAnd (g9 : Int) (128 - 1) then (1000000000000000000 : Int) else (valB ((numB n).drop ((numB n).length - t)) : Nat) * 128 + Builtin.bitAnd (g9 : Int) (128 - 1)) = (valB ((numB n).drop ((numB n).length - (t + 1))) : Nat) := by
            rw [hba, if_neg (by omega)]
            omega
          rw [hmn]
          rfl
        · rintro σ HD ⟨v6, rfl, sD⟩
          rw [List.length_reverse, nV_len, Nat.sub_self, List.drop_zero, valB_num]
          refine ⟨_, rfl, _, rfl, _, _, rfl, rfl, _, rfl, ?_⟩
          refine iT (dT (by omega)) ?_
          refine ⟨_, rfl, _, _, rfl, rfl, _, rfl, ?_⟩
          refine iF (nF (dT (by omega))) ?_
          refine ⟨_, rfl, ?_⟩
          exact q _ ((bC.trans (Same.but s2)).trans (Same.but sD)) (sD _ _ (s2 _ _ (sC _ _ (s1 _ _ e1))))
      · refine ⟨_, rfl, _, rfl, (.inl ⟨_, _, _, _, rfl, rfl, (SqL.of e_q2), hat1, (.inl ⟨rfl, _, rfl, ?_⟩)⟩)⟩
        have hg0 : ¬ ((g : Nat) : Int) = 0 := by
          have h7 := numB_last (n := n) (g := g) (by rw [h6]; exact hg) (by
            have h8 := of_decide_eq_true hb
            rw [List.length_map] at h8
            omega)
          omega
        refine iV (fun z => absurd z hg0) fun _ => ?_
        exact tl _ (Same.refl _)
theorem ok_next_step (D : Df K "_next_step" "_next_step" s_next_step (ga K "_next_step")) (T : Tc w K mg) (G_ByteSource_next_byte : Kp P w K mg base 1 (ma K (ga K "ByteSource") "next_byte") (spNextB K)) (G_ByteSource_next_number : Kp P w K mg base 3 (ma K (ga K "ByteSource") "next_number") (spNextN K)) : Kp P w K mg base 4 (ga K "_next_step") (spNextStep K) := by
  refine kp_of D sc_next_step (fun _ _ _ _ _ _ us hl => match us, hl with | [_, _], _ => rfl) ?_ (fun cdv A outer s H vs Q E hr h => ?_)
  · rintro vs H Q E ⟨e, dx, l, post, i, s, y, rfl, _⟩
    rfl
  · obtain ⟨e, dx, l, post, i, s, y, rfl, he, few, hB, hd, ok, hs, q⟩ := h
    have hmost : most = 1000000000000000000 := rfl
    have hat : ∀ j, l[i + j]? = (encS y ++ post)[j]? := fun j => by rw [← hd, List.getElem?_drop]
    refine ⟨_, (pss_cons (ps_if (pt_cmpR (eqB K hr.units) (pe_methR (pv 0) T.clByteSource T.m_ByteSource_next_byte G_ByteSource_next_byte.fnR (hr.mono (by omega)) pass0 (pa_cons (pe_gIx T.c_WRITES) (pa_cons (pe_gIx T.c_PASTES) pa_nil))) (pe_gIx T.c_WRITES) (nomark _)) (pss_cons (ps_set (i := 2) sc_next_step.nd rfl (Or.inl rfl) (pe_lst pa_nil)) (pss_cons (ps_for PassesOwn.never rfl (pi_range1 (by rfl) T.rng (pa_cons (pe_methR (pv 0) T.clByteSource T.m_ByteSource_next_byte G_ByteSource_next_byte.fnR (hr.mono (by omega)) pass0 (pa_cons pe_int (pa_cons (pe_gIx T.longest) pa_nil))) pa_nil)) (pg_name (i := 3) sc_next_step.nd rfl (Or.inl rfl)) (pss_one (ps_expr (pe_bm PySem.F.plainAttrs_list PySem.F.slot_list_append PySem.F.type_list_append mt_append (pv 2) (pa_cons (pe_ix (ixS K) (pe_gSx T.letters) (pe_methR (pv 0) T.clByteSource T.m_ByteSource_next_byte G_ByteSource_next_byte.fnR (hr.mono (by omega)) pass0 (pa_cons pe_int (pa_cons (pe_op op_sub (pk_b1 (lenA K) T.len b_len (pe_gSx T.letters)) pe_int) pa_nil))) (fun _ _ => rfl)) pa_nil))))) (pss_one (ps_ret (pe_tup (pa_cons pe_str (pa_cons (pe_joinK K pe_str (pv 2)) pa_nil))))))) pss_nil) (pss_cons (ps_set (i := 4) sc_next_step.nd rfl (Or.inl rfl) (pe_methR (pv 0) T.clByteSource T.m_ByteSource_next_number G_ByteSource_next_number.fnR (hr.mono (by omega)) pass0 (pa_cons pe_int (pa_cons (pe_op op_sub (pv 1) pe_int) pa_nil)))) (pss_cons (ps_set (i := 5) sc_next_step.nd rfl (Or.inl rfl) (pe_methR (pv 0) T.clByteSource T.m_ByteSource_next_number G_ByteSource_next_number.fnR (hr.mono (by omega)) pass0 (pa_cons (pv 4) (pa_cons (pe_op op_sub (pv 1) pe_int) pa_nil)))) (pss_one (ps_ret (pe_tup (pa_cons pe_str (pa_cons (pv 4) (pa_cons (pv 5) (pa_cons (pe_methR (pv 0) T.clByteSource T.m_ByteSource_next_number G_ByteSource_next_number.fnR (hr.mono (by omega)) pass0 (pa_cons pe_int (pa_cons (pe_gIx T.mostTimes) pa_nil))) pa_nil)))))))))), ?_⟩
    cases y with
    | wr wd =>
      have ok2 := ok
      simp only [Stp.ok, Bool.and_eq_true, decide_eq_true_eq] at ok2
      have h0 : l[i]? = some 0 := hat 0
      have h1 : l[i + 1]? = some wd.length := hat 1
      have hLet : PySem.Str.ofString "abcdefghijklmnopqrstuvwxyz" = sL (List.range' 97 26) := (sL_of _).trans (by rw [letters_are])
      have hll : (sL (List.range' 97 26)).length = 26 := rfl
      rw [hLet]
      refine ⟨_, rfl, _, _, _, rfl, he, rfl, _, _, _, _, _, _, _, rfl, he, (by omega), hB, h0, (by omega), (by omega), fun H2 b e1 => ?_⟩
      refine (.inl ⟨rfl, _, rfl, ?_⟩)
      refine iT (vT rfl) ?_
      refine ⟨(by (show 0 ≤ _; decide)), fun p n => ?_⟩
      have ne_e_p := ne_of_none e1 n
      refine ⟨_, rfl, ?_⟩
      refine ⟨_, _, _, rfl, (same_upd n _ _ e1), rfl, ?_⟩
      refine ⟨_, _, _, _, _, _, _, rfl, (same_upd n _ _ e1), (by omega), hB, h1, (by omega), (by omega), fun H21 b1 e2 => ?_⟩
      refine ⟨_, rfl, (by omega), (by omega), ?_⟩
      have np : H p = none := butF_ b n ne_e_p
      have hwm : ∀ j : Nat, (wd.take j).length ≤ 20 := fun j => Nat.le_trans (by rw [List.length_take]; exact Nat.min_le_right _ _) ok2.1.2
      refine for_range (lo := 0) (n := wd.length) (fun j σ HB => ∃ v3 : Option V, σ = [some (.ref e), some (.int (s : Nat)), some (.ref p), v3, none, none] ∧ But e H HB ∧ HB p = some (.lst ((wd.take j).map fun c => V.str (sL [c]))) ∧ HB e = some (.ins (CBs K) dx (bsF l (i + 1 + 1 + j)))) ⟨_, rfl, ?_, ?_, ?_⟩ ?_ ?_
      · exact (butN_ b np but_upd).trans b1
      · exact b1 _ _ ne_e_p.symm upd_same
      · exact e2
      · rintro j σ HB hj ⟨v3, rfl, bB, epB, eB⟩
        obtain ⟨c, hc⟩ : ∃ c, wd[j]? = some c := ⟨_, List.getElem?_eq_getElem hj⟩
        have hlc := List.all_eq_true.mp ok2.2 c (List.mem_of_getElem? hc)
        unfold isLet at hlc
        simp only [Bool.and_eq_true, decide_eq_true_eq] at hlc
        have hlj : l[i + 1 + 1 + j]? = some (c - 97) := by
          have h9 := hat (j + 1 + 1)
          rw [show i + (j + 1 + 1) = i + 1 + 1 + j by omega] at h9
          rw [h9]
          show (wd.map (· - 97) ++ post)[j]? = _
          rw [List.getElem?_append_left (by rw [List.length_map]; exact hj), List.getElem?_map, hc]
          rfl
        have hatL : atI (sL (List.range' 97 26)).cps.toList ((c - 97 : Nat) : Int) = some c := by
          refine atI_nat ?_
          show (List.range' 97 26)[c - 97]? = some c
          rw [List.getElem?_range' (by omega)]
          exact congrArg some (by omega)
        have hsz9 : ((wd.take j).map fun c => V.str (sL [c])).length < sizeLine := by
          rw [List.length_map]
          have := hwm j
          exact small_lt (by omega)
        refine ⟨_, rfl, (.inl ⟨rfl, ⟨_, (SqL.of epB)⟩⟩), _, rfl, _, _, _, rfl, eB, rfl, (.inl ⟨_, rfl, (by decide), _, _, rfl, rfl, _, _, _, _, _, _, _, rfl, eB, (by omega), hB, hlj, (by omega), (by omega), fun H22 b2 e3 => ?_⟩)⟩
        refine (.inr (.inr ⟨_, _, _, rfl, rfl, (by decide), hatL, _, _, _, rfl, rfl, (b2 _ _ ne_e_p.symm epB), (by omega), ?_⟩))
        generalize hE : upd H22 p _ = H1
        have b3 : But p H22 H1 := hE ▸ but_upd
        have e_p := (congrFun hE p).symm.trans upd_same
        clear hE
        refine ⟨_, rfl, ?_, ?_, ?_⟩
        rotate_left 2
        exact (b3 _ _ ne_e_p e3)
        · exact butN_ (bB.trans b2) np b3
        · rw [e_p, take_succ hc, List.map_append]
          rfl
      · rintro σ HB ⟨v3, rfl, bB, epB, eB⟩
        rw [List.take_length] at epB
        refine ⟨⟨_, rfl⟩, _, rfl, ?_⟩
        refine ⟨_, p, wd.map fun c => sL [c], rfl, rfl, .inl (SqL.of (by rw [epB, List.map_map]; rfl)), ?_, ?_⟩
        · rw [sum_one]
          have : (Str.length "" : Nat) = 0 := by decide +kernel
          rw [this]
          omega
        rw [join_one]
        refine ⟨(by (show 2 ≤ _; decide)), fun p1 n1 => ?_⟩
        have ne_p_p1 := ne_of_none epB n1
        have ne_e_p1 := ne_of_none eB n1
        generalize hE : upd HB p1 _ = H1
        have s1 : Same HB H1 := hE ▸ same_upd n1
        have e_p1 := (congrFun hE p1).symm.trans upd_same
        clear hE
        refine q p1 H1 (bB.trans (Same.but s1)) ?_ (SqT.of e_p1)
        rw [s1 _ _ eB]
        refine congrArg (fun k => some (HO.ins (CBs K) dx (bsF l k))) ?_
        show _ = i + ((wd.map (· - 97)).length + 1 + 1)
        rw [List.length_map]
        omega
    | pa f0 l0 t0 =>
      have ok2 := ok
      simp only [Stp.ok, Bool.and_eq_true, decide_eq_true_eq] at ok2
      have h0 : l[i]? = some 1 := hat 0
      have hd1 : l.drop (i + 1) = numB f0 ++ (numB l0 ++ (numB t0 ++ post)) := by
        rw [Nat.add_comm, ← List.drop_drop, List.drop_drop, Nat.add_comm, ← List.drop_drop, hd]
        show List.drop 1 (1 :: (numB f0 ++ (numB l0 ++ numB t0)) ++ post) = _
        simp
      have hd2 : l.drop (i + 1 + (numB f0).length) = numB l0 ++ (numB t0 ++ post) := by
        rw [← List.drop_drop, hd1, List.drop_left]
      have hd3 : l.drop (i + 1 + (numB f0).length + (numB l0).length) = numB t0 ++ post := by
        rw [← List.drop_drop, hd2, List.drop_left]
      refine ⟨_, rfl, _, _, _, rfl, he, rfl, _, _, _, _, _, _, _, rfl, he, (by omega), hB, h0, (by omega), (by omega), fun H2 b e1 => ?_⟩
      refine (.inl ⟨rfl, _, rfl, ?_⟩)
      refine iF (vF (by omega)) ?_
      refine ⟨_, rfl, _, _, _, rfl, e1, rfl, _, rfl, _, _, rfl, rfl, _, _, _, _, _, _, _, _, rfl, e1, (by omega), hB, hd1, (by omega), (by omega), (by omega), fun H21 b1 e2 => ?_⟩
      refine ⟨_, rfl, _, _, _, rfl, e2, rfl, _, rfl, _, rfl, _, _, rfl, rfl, _, _, _, _, _, _, _, _, rfl, e2, (by omega), hB, hd2, (by omega), (by omega), (by omega), fun H22 b2 e3 => ?_⟩
      refine ⟨_, rfl, _, rfl, _, rfl, _, _, _, rfl, e3, rfl, _, _, _, _, _, _, _, _, rfl, e3, (by omega), hB, hd3, (by omega), (by omega), (by omega), fun H23 b3 e4 => ?_⟩
      generalize hσ : List.set _ _ _ = σ1
      simp only [L2.start, List.set_cons_zero, List.set_cons_succ, List.map_cons, List.map_nil, List.length_cons, List.length_nil, List.replicate_succ, List.replicate_zero, List.cons_append, List.nil_append, Nat.reduceAdd, Nat.reduceSub] at hσ
      subst hσ
      refine ⟨(by (show 4 ≤ _; decide)), fun p n => ?_⟩
      have ne_e_p := ne_of_none e4 n
      generalize hE : upd H23 p _ = H1
      have s1 : Same H23 H1 := hE ▸ same_upd n
      have e_p := (congrFun hE p).symm.trans upd_same
      clear hE
      refine q p H1 (b.trans (b1.trans (b2.trans (b3.trans (Same.but s1))))) ?_ ?_
      · rw [s1 _ _ e4]
        refine congrArg (fun k => some (HO.ins (CBs K) dx (bsF l k))) ?_
        show _ = i + ((numB f0 ++ (numB l0 ++ numB t0)).length + 1)
        rw [List.length_append, List.length_append]
        omega
      · exact SqT.of e_p
-- hint: len(data) => (pk_b1 call_lenBy T.len b_len $0)
-- hint: Text.MAX_SIZE => (ClX.pe_cval $o)
theorem ok_decode_text (D : Df K "decode_text" "decode_text" s_decode_text (ga K "decode_text")) (T : Tc w K mg) (G_ByteSource_init : Kp P w K mg base 1 (ma K (ga K "ByteSource") "__init__") (spBsInit K)) (G_ByteSource_next_byte : Kp P w K mg base 1 (ma K (ga K "ByteSource") "next_byte") (spNextB K)) (G_ByteSource_checksum : Kp P w K mg base 2 (ma K (ga K "ByteSource") "checksum") (spBsChk K)) (G_next_step : Kp P w K mg base 4 (ga K "_next_step") (spNextStep K)) (G_span_of : Kp P w K mg base 3 (ga K "span_of") (spSpanOf K)) (G_Text_init : FnR P w K mg base CX0 5 (ma K (CT K) "__init__") (spInit5 K)) : Kp P w K mg base 7 (ga K "decode_text") (spDecode K) := by
  refine kp_of D sc_decode_text (fun _ _ _ _ _ _ us hl => match us, hl with | [_], _ => rfl) ?_ (fun cdv A outer s H vs Q E hr h => ?_)
  · rintro vs H Q E ⟨st, rfl, _⟩
    rfl
  · obtain ⟨st, rfl, good, few, q⟩ := h
    have hmost : most = 1000000000000000000 := rfl
    have hB := encB_isB good few
    have hfl : ∀ i, ((st.take i).flatMap encS).length ≤ 900 := fun i => encF_len good few i
    have hlb : (encB st).length = (st.flatMap encS).length + 3 := by
      unfold encB encH
      rw [List.length_append]
      rfl
    have hlen : (encB st).length ≤ 100000 := by
      have := hfl st.length
      rw [List.take_length] at this
      omega
    have h0 : (encB st)[0]? = some 80 := rfl
    have h1 : (encB st)[0 + 1]? = some st.length := rfl
    refine ⟨_, (pss_cons (ps_if (pt_not (pt_val (pe_isi (pv 0) T.isi T.byt b_bytes))) pss_never pss_nil) (pss_cons (ps_set (i := 1) sc_decode_text.nd rfl (Or.inl rfl) (StX.pe_makeR T.mkByteSource G_ByteSource_init.fnR (hr.mono (by omega)) rfl T.g_ByteSource pass0 (pa_cons (pv 0) pa_nil))) (pss_cons (ps_expr (pe_methR (pv 1) T.clByteSource T.m_ByteSource_next_byte G_ByteSource_next_byte.fnR (hr.mono (by omega)) pass0 (pa_cons (pe_gIx T.c_MARK) (pa_cons (pe_gIx T.c_MARK) pa_nil)))) (pss_cons (ps_set (i := 2) sc_decode_text.nd rfl (Or.inl rfl) (pe_lst pa_nil)) (pss_cons (ps_set (i := 3) sc_decode_text.nd rfl (Or.inl rfl) pe_int) (pss_cons (ps_for PassesOwn.never rfl (pi_range1 (by rfl) T.rng (pa_cons (pe_methR (pv 1) T.clByteSource T.m_ByteSource_next_byte G_ByteSource_next_byte.fnR (hr.mono (by omega)) pass0 (pa_cons pe_int (pa_cons (pe_gIx T.mostSteps) pa_nil))) pa_nil)) (pg_name (i := 4) sc_decode_text.nd rfl (Or.inl rfl)) (pss_cons (ps_set (i := 5) sc_decode_text.nd rfl (Or.inl rfl) (fldK K (pv 1))) (pss_cons (ps_set (i := 6) sc_decode_text.nd rfl (Or.inl rfl) (pk_call G_next_step (hr.mono (by omega)) T.g_next_step (pa_cons (pv 1) (pa_cons (pv 3) pa_nil)))) (pss_cons (ps_set (i := 3) sc_decode_text.nd rfl (Or.inl rfl) (fldK K (pk_call G_span_of (hr.mono (by omega)) T.gSpanOf (pa_cons (pv 6) (pa_cons (pv 3) (pa_cons pe_int pa_nil)))))) (pss_cons (ps_if (pt_cmpR op_gt (pv 3) (ClX.pe_cval (pe_gR T.gText)) (nomark _)) pss_never pss_nil) (pss_one (ps_expr (pe_bm PySem.F.plainAttrs_list PySem.F.slot_list_append PySem.F.type_list_append mt_append (pv 2) (pa_cons (pv 6) pa_nil))))))))) (pss_cons (ps_set (i := 7) sc_decode_text.nd rfl (Or.inl rfl) (pe_methR0 (pv 1) T.clByteSource T.m_ByteSource_checksum G_ByteSource_checksum.fnR (hr.mono (by omega)) pass0)) (pss_cons (ps_expr (pe_methR (pv 1) T.clByteSource T.m_ByteSource_next_byte G_ByteSource_next_byte.fnR (hr.mono (by omega)) pass0 (pa_cons (pv 7) (pa_cons (pv 7) pa_nil)))) (pss_cons (ps_if (pt_cmpR op_lt (fldK K (pv 1)) (pk_b1 call_lenBy T.len b_len (pv 0)) (nomark _)) pss_never pss_nil) (pss_one (ps_ret (pe_textS T.csct T.mkT G_Text_init (hr.mono (by omega)) T.gText (pv 2))))))))))))), ?_⟩
    refine ⟨_, rfl, ?_⟩
    refine ⟨_, _, _, true, rfl, .byt _, rfl, ?_⟩
    refine ⟨_, rfl, ?_⟩
    refine iF (nF rfl) ?_
    refine ⟨_, rfl, fun x dx n n1 h => ?_⟩
    generalize hE : upd H dx _ = H1
    have s1 : Same H H1 := hE ▸ same_upd n1
    have e_dx := (congrFun hE dx).symm.trans upd_same
    clear hE
    generalize hE : upd H1 x _ = H11
    have b : But x H1 H11 := hE ▸ but_upd
    have s2 : Same H H11 := hE ▸ same_own s1 n
    have e_x := (congrFun hE x).symm.trans upd_same
    clear hE
    refine ⟨_, _, _, rfl, e_x, fun H2 b1 e => ?_⟩
    refine ⟨rfl, _, rfl, _, _, _, rfl, e, rfl, _, _, _, _, _, _, _, rfl, e, (by omega), hB, rfl, (by omega), (by omega), fun H21 b2 e1 => ?_⟩
    refine ⟨(by (show 0 ≤ _; decide)), fun p n2 => ?_⟩
    have ne_x_p := ne_of_none e1 n2
    refine ⟨_, rfl, ?_⟩
    generalize hσ : List.set _ _ _ = σ1
    simp only [L2.start, List.set_cons_zero, List.set_cons_succ, List.map_cons, List.map_nil, List.length_cons, List.length_nil, List.replicate_succ, List.replicate_zero, List.cons_append, List.nil_append, Nat.reduceAdd, Nat.reduceSub] at hσ
    subst hσ
    refine ⟨_, _, _, rfl, (same_upd n2 _ _ e1), rfl, ?_⟩
    refine ⟨_, _, _, _, _, _, _, rfl, (same_upd n2 _ _ e1), (by omega), hB, rfl, (by omega), (by omega), fun H22 b3 e2 => ?_⟩
    refine ⟨_, rfl, (by omega), (by omega), ?_⟩
    have nx : H x = none := by assumption
    have np0 : H p = none := butF_ ((Same.but s2).trans (b1.trans b2)) (by assumption) ne_x_p
    refine for_range (lo := 0) (n := st.length) (fun j σ HB => ∃ (as : List Addr) (v4 v5 v6 : Option V), σ = [some (.byt (bA (encB st))), some (.ref x), some (.ref p), some (.int (sz (st.take j) : Nat)), v4, v5, v6, none] ∧ Same H HB ∧ HB p = some (.lst (as.map V.ref)) ∧ StepsAt K HB as (st.take j) ∧ HB x = some (.ins (CBs K) dx (bsF (encB st) (0 + 1 + 1 + ((st.take j).flatMap encS).length)))) ⟨[], _, _, _, rfl, ?_, ?_, StepsAt.nil, e2⟩ ?_ ?_
    · exact fun a o h => b3 a o (ne_of_none h nx) (by rw [upd_ne (ne_of_none h np0)]; exact ((Same.but s2).trans (b1.trans b2)) a o (ne_of_none h nx) h)
    · exact b3 _ _ ne_x_p.symm upd_same
    · rintro j σ HB hj ⟨as, v4, v5, v6, rfl, sB, epB, hst, exB⟩
      obtain ⟨y, hy⟩ : ∃ y, st[j]? = some y := ⟨_, List.getElem?_eq_getElem hj⟩
      obtain ⟨ok, lim⟩ := goes_at good hy
      have hsz := sz_most (goes_take good j)
      have hdr := encB_dropJ hy
      have hez : sz (st.take (j + 1)) = sz (st.take j) + y.gr := by rw [take_succ hy, sz_app, sz_cons]; rfl
      have hal : (as.map V.ref).length < sizeLine := by
        rw [List.length_map, hst.len, List.length_take]
        exact small_lt (by omega)
      refine ⟨_, rfl, _, _, _, _, _, rfl, exB, T.clByteSource, T.n_ByteSource_offset, rfl, _, rfl, _, rfl, _, _, _, _, _, _, _, rfl, exB, (by omega), hB, hdr, ok, (by omega), fun t H23 b4 e3 h2 => ?_⟩
      generalize hσ : List.set _ _ _ = σ1
      simp only [L2.start, List.set_cons_zero, List.set_cons_succ, List.map_cons, List.map_nil, List.length_cons, List.length_nil, List.replicate_succ, List.replicate_zero, List.cons_append, List.nil_append, Nat.reduceAdd, Nat.reduceSub] at hσ
      subst hσ
      refine ⟨_, rfl, _, rfl, _, _, _, _, rfl, h2, ok, fun p1 dx1 H24 n3 s3 e4 => ?_⟩
      have ne_p_p1 := ne_of_none (b4 _ _ ne_x_p.symm epB) n3
      have ne_x_p1 := ne_of_none e3 n3
      refine ⟨_, _, _, _, _, rfl, e4, T.clS, T.nS2, (spF_end _ _ _), _, rfl, ?_⟩
      generalize hσ : List.set _ _ _ = σ1
      simp only [L2.start, List.set_cons_zero, List.set_cons_succ, List.map_cons, List.map_nil, List.length_cons, List.length_nil, List.replicate_succ, List.replicate_zero, List.cons_append, List.nil_append, Nat.reduceAdd, Nat.reduceSub] at hσ
      subst hσ
      obtain ⟨tk, hMax⟩ := T.maxSize
      refine ⟨_, _, _, _, rfl, T.rd, hMax, ?_⟩
      refine ⟨_, _, rfl, rfl, _, rfl, ?_⟩
      refine iF (dF (by omega)) ?_
      refine ⟨_, rfl, (.inl ⟨rfl, ⟨_, (SqL.of (s3 _ _ (b4 _ _ ne_x_p.symm epB)))⟩⟩), _, rfl, _, _, _, rfl, rfl, (s3 _ _ (b4 _ _ ne_x_p.symm epB)), (by omega), ?_⟩
      generalize hE : upd H24 p _ = H12
      have b5 : But p H24 H12 := hE ▸ but_upd
      have s4 : Same H H12 := hE ▸ same_own ((but_new sB b4 nx).trans s3) np0
      have e_p := (congrFun hE p).symm.trans upd_same
      clear hE
      have hfm : (st.take (j + 1)).flatMap encS = (st.take j).flatMap encS ++ encS y := by
        rw [take_succ hy, List.flatMap_append]
        simp
      refine ⟨as ++ [t], _, _, _, by rw [hez], s4, by rw [e_p, List.map_append]; rfl, ?_, ?_⟩
      · rw [take_succ hy]
        have epD := s3 _ _ (b4 _ _ ne_x_p.symm epB)
        exact (steps_butL epD b5 ((steps_but exB b4 hst).same s3)).snoc (sqT_butL epD b5 (same_sqT s3 h2))
      · rw [hfm, List.length_append, ← Nat.add_assoc]
        exact b5 _ _ ne_x_p (s3 _ _ e3)
    · rintro σ HB ⟨as, v4, v5, v6, rfl, sB, epB, hst, exB⟩
      rw [List.take_length] at hst exB
      have hlast := encB_last st
      have hchk := congrArg chk (encB_take st)
      have hle9 : 0 + 1 + 1 + (st.flatMap encS).length ≤ (encB st).length := by omega
      refine ⟨_, rfl, _, _, _, rfl, exB, rfl, _, _, _, _, rfl, exB, (by omega), hB, (by omega), fun H23 s3 => ?_⟩
      refine ⟨_, rfl, _, _, _, rfl, (s3 _ _ exB), rfl, _, rfl, _, rfl, _, _, _, _, _, _, _, rfl, (s3 _ _ exB), (by omega), hB, hlast, (by omega), (by omega), fun H24 b4 e3 => ?_⟩
      refine ⟨_, rfl, _, _, _, _, _, rfl, e3, T.clByteSource, T.n_ByteSource_offset, rfl, _, rfl, _, rfl, (by omega), _, _, rfl, rfl, _, rfl, ?_⟩
      refine iF (dF (by omega)) ?_
      refine ⟨_, rfl, _, _, _, rfl, (.inr (SqL.of (b4 _ _ ne_x_p.symm (s3 _ _ epB)))), ?_, good, (by omega), fun z H25 n3 s4 t => ?_⟩
      rotate_left 1
      have ne_p_z := ne_of_none (b4 _ _ ne_x_p.symm (s3 _ _ epB)) n3
      have ne_x_z := ne_of_none e3 n3
      obtain ⟨dx_z, ts_z, sp_z, as_z, ss_z, hx_z, hts_z, hst_z, hsp_z, hss_z⟩ := t.obj
      have hty_z := typed_small t
      have hnk_z := text_nk t
      have hg_z := t.good
      exact q _ _ ((but_new (sB.trans s3) b4 nx).free n3) ((but_new (sB.trans s3) b4 nx).trans s4) (TextAt.same t (Same.refl _))
      exact steps_but (s3 _ _ exB) b4 (hst.same s3)
end
end KL
namespace KL
open PySem PySem.Spec PyProof.Rows L2 Pk He
open TL (numL numL_digits numL_ne numL_free)
def isDg (c : Nat) : Bool := decide (48 ≤ c) && decide (c ≤ 57)
theorem dg_pad (n : Nat) (l : List Nat) : (padN n l).filter isDg = l.filter isDg := by
  unfold padN
  rw [List.filter_append]
  have : (List.replicate (n - l.length) 32).filter isDg = [] := by
    refine List.filter_eq_nil_iff.mpr fun c hc => ?_
    rw [(List.mem_replicate.mp hc).2]
    decide
  rw [this, List.nil_append]
theorem dg_grp : ∀ (m : Nat) (w fo : List Nat), (grp m w fo).filter isDg = w.filter isDg ++ fo.filter isDg
  | 0, w, fo => List.filter_append ..
  | m + 1, w, fo => by
    show (if _ then _ else _ : List Nat).filter isDg = _
    split
    · rw [dg_grp m, List.filter_cons_of_neg (by decide), List.filter_append, ← List.append_assoc, ← List.filter_append, List.take_append_drop]
    · exact List.filter_append ..
theorem dg_num (n : Nat) : (numL n).filter isDg = numL n := by
  refine List.filter_eq_self.mpr fun c hc => ?_
  have := numL_digits n c hc
  unfold isDg
  rw [Bool.and_eq_true, decide_eq_true_eq, decide_eq_true_eq]
  omega
theorem dg_in (c : Nat) : decide (c ∈ (Str.ofString "0123456789").cps.toList) = isDg c := by
  have e : (Str.ofString "0123456789").cps.toList = [48, 49, 50, 51, 52, 53, 54, 55, 56, 57] := by decide +kernel
  rw [e]
  unfold isDg
  by_cases h : 48 ≤ c ∧ c ≤ 57
  · rw [decide_eq_true h.1, decide_eq_true h.2]
    refine decide_eq_true ?_
    simp only [List.mem_cons, List.not_mem_nil, or_false]
    omega
  · have h2 : (decide (48 ≤ c) && decide (c ≤ 57)) = false := by
      rw [Bool.and_eq_false_iff, decide_eq_false_iff_not, decide_eq_false_iff_not]
      omega
    rw [h2]
    refine decide_eq_false ?_
    simp only [List.mem_cons, List.not_mem_nil, or_false]
    omega
theorem fig_num (n : Nat) : figs (n : Nat) = numL n := rfl
theorem dg4 (k : Nat) : (padN 4 (figs (k : Nat))).filter isDg = numL k := by rw [dg_pad, fig_num, dg_num]
theorem dg26 (c : Nat) : (padN 26 (grp 7 (figs (c : Nat)) [])).filter isDg = numL c := by rw [dg_pad, dg_grp, fig_num, dg_num]; simp
theorem pad_len {n : Nat} {l : List Nat} (h : l.length ≤ n) : (padN n l).length = n := by
  unfold padN
  rw [List.length_append, List.length_replicate]
  omega
theorem row_parts {k c l : Nat} (hk : k < 10000) (hc : c < 1000000000000000000) : (rowL k c l).length = 33 ∧ (rowL k c l)[4]? = some 32 ∧ (rowL k c l)[5]? = some l ∧ (rowL k c l)[6]? = some 32 ∧ (rowL k c l).take 4 = padN 4 (figs (k : Nat)) ∧ (rowL k c l).drop 7 = padN 26 (grp 7 (figs (c : Nat)) []) := by
  have h4 := figs4 (n := (k : Nat)) (by omega) (by omega)
  have h18 := figs_len (n := (c : Nat)) (by omega) (by omega)
  have hg := grp_len _ h18.2
  have p4 := pad_len (n := 4) h4.2
  have p26 := pad_len (n := 26) (l := grp 7 (figs (c : Nat)) []) (by omega)
  unfold rowL
  generalize padN 4 (figs (k : Nat)) = A at p4 ⊢
  generalize padN 26 (grp 7 (figs (c : Nat)) []) = B at p26 ⊢
  match A, p4 with
  | [a, b, d, e], _ =>
    refine ⟨?_, rfl, rfl, rfl, rfl, rfl⟩
    show B.length + 1 + 1 + 1 + 1 + 1 + 1 + 1 = 33
    omega
theorem row_no10 {k c l : Nat} (hl : isLet l = true) : 10 ∉ rowL k c l := by
  have hp : ∀ (n : Nat) (w : List Nat), 10 ∉ w → 10 ∉ padN n w := fun n w h hm => by
    unfold padN at hm
    rcases List.mem_append.mp hm with h1 | h1
    · have := (List.mem_replicate.mp h1).2
      omega
    · exact h h1
  have hgr : ∀ (m : Nat) (w fo : List Nat), 10 ∉ w → 10 ∉ fo → 10 ∉ grp m w fo := by
    intro m
    induction m with
    | zero => intro w fo h1 h2 hm; rcases List.mem_append.mp hm with h | h; exact h1 h; exact h2 h
    | succ m ih =>
      intro w fo h1 h2 hm
      have hm : 10 ∈ (if 3 < w.length then grp m (w.take (w.length - 3)) (44 :: (w.drop (w.length - 3) ++ fo)) else w ++ fo) := hm
      split at hm
      · refine ih _ _ (fun h => h1 (List.mem_of_mem_take h)) (fun h => ?_) hm
        rcases List.mem_cons.mp h with h | h
        · omega
        · rcases List.mem_append.mp h with h | h
          · exact h1 (List.mem_of_mem_drop h)
          · exact h2 h
      · rcases List.mem_append.mp hm with h | h
        · exact h1 h
        · exact h2 h
  unfold isLet at hl
  simp only [Bool.and_eq_true, decide_eq_true_eq] at hl
  intro hm
  unfold rowL at hm
  rcases List.mem_append.mp hm with h | h
  · exact hp _ _ (numL_free (Or.inl (by omega))) h
  · rcases List.mem_cons.mp h with h | h
    · omega
    · rcases List.mem_cons.mp h with h | h
      · omega
      · rcases List.mem_cons.mp h with h | h
        · omega
        · exact hp _ _ (hgr _ _ _ (numL_free (Or.inl (by omega))) (by simp)) h
theorem cut_to (l : List Nat) (n : Nat) : cutS (sL l) none (some (n : Int)) = sL (l.take n) := by
  unfold cutS
  rw [sL_len, HT.sIx_none, HT.sIx_nat]
  show (⟨((l.drop 0).take (min n l.length - 0)).toArray⟩ : Str) = _
  rw [List.drop_zero, Nat.sub_zero]
  by_cases h : n ≤ l.length
  · rw [Nat.min_eq_left h]
    rfl
  · rw [Nat.min_eq_right (by omega), List.take_length]
    unfold sL
    rw [List.take_of_length_le (by omega)]
theorem cut_from (l : List Nat) (n : Nat) : cutS (sL l) (some (n : Int)) none = sL (l.drop n) := by
  unfold cutS
  rw [sL_len, HT.sIx_none, HT.sIx_nat]
  show (⟨((l.drop (min n l.length)).take (l.length - min n l.length)).toArray⟩ : Str) = _
  by_cases h : n ≤ l.length
  · rw [Nat.min_eq_left h, List.take_of_length_le (by rw [List.length_drop]; omega)]
    rfl
  · rw [Nat.min_eq_right (by omega), Nat.sub_self, List.take_zero]
    unfold sL
    rw [List.drop_of_length_le (by omega)]
theorem keeps_dg (l : List Nat) : keeps l.length (fun i => isDg (l.getD i 0)) (fun i => V.str (sL [l.getD i 0])) = (l.filter isDg).map fun c => V.str (sL [c]) := by
  have e := rng_getD l 0 id
  rw [List.map_id] at e
  unfold keeps
  conv => rhs; rw [← e, List.filter_map, List.map_map]
  rfl
def tabR (st : List Stp) : List (List Nat) := (List.range (nk st)).map fun k => rowL k (Pk.cnt st k (sz st)) (ltr st k)
theorem tabT_eq (st : List Stp) : tabT st = Txt.join (sL [10]) ((tabR st).map sL) := by
  unfold tabT tabR
  rw [List.map_map, ← nl_sL]
  rfl
theorem split_tab {st : List Stp} (hlet : (typed st).all isLet = true) (h : 0 < nk st) : Txt.split (tabT st) (sL [10]) = (tabR st).map sL := by
  rw [tabT_eq]
  refine TL.split_join (s := 10) (S := []) rfl (by decide +kernel) ?_ fun p hp => ?_
  · unfold tabR
    intro z
    have := congrArg List.length z
    rw [List.length_map, List.length_map, List.length_range] at this
    simp at this
    omega
  · obtain ⟨r, hr, rfl⟩ := List.mem_map.mp hp
    obtain ⟨k, hk, rfl⟩ := List.mem_map.mp hr
    exact row_no10 (ltr_let hlet (List.mem_range.mp hk))
theorem tabT_len {st : List Stp} (h : nk st ≤ 600) (hsz : sz st < 1000000000000000000) : (tabT st).length ≤ 100000 := by
  rw [tabT_eq, join_sL 10 _ rfl, sL_len]
  have h1 := joinL_len (S := [10]) (ps := tabR st) (k := 70) fun r hr => by
    obtain ⟨k, hk, rfl⟩ := List.mem_map.mp hr
    rw [List.mem_range] at hk
    exact rowL_len (by omega) (Nat.lt_of_le_of_lt (cnt_le_sz st k) hsz)
  have h2 : (tabR st).length = nk st := by unfold tabR; rw [List.length_map, List.length_range]
  rw [h2] at h1
  have h3 : nk st * (70 + [10].length) ≤ 600 * 71 := Nat.mul_le_mul_right 71 h
  omega
theorem nk_pos {st : List Stp} (good : Goes most 0 st) (h : 0 < sz st) : 0 < nk st := by
  match st, good, h with
  | .wr w :: r, g, _ =>
    have := g.1
    simp only [Stp.ok, Bool.and_eq_true, decide_eq_true_eq] at this
    show 0 < ((Stp.wr w :: r).map Stp.ks).sum
    rw [List.map_cons, List.sum_cons]
    show 0 < w.length + _
    omega
  | .pa f l t :: r, g, _ =>
    have := g.1
    simp only [Stp.ok, Bool.and_eq_true, decide_eq_true_eq] at this
    omega
def spIsTable (K : Fr) : Sp := fun vs H Q _ => ∃ (x : Addr) (st : List Stp), vs = [.ref x] ∧ TA_ K H x st ∧ 0 < sz st ∧ sz st < 1000000000000000000 ∧ ∀ H2, Same H H2 → Q (.bl true) H2
def spNumber (K : Fr) : Sp := fun vs H Q _ => ∃ (z : Str) (n : Nat), vs = [.str z] ∧ z.cps.toList.filter isDg = numL n ∧ n < 1000000000000000000 ∧ z.length ≤ 100 ∧ ∀ H2, Same H H2 → Q (.int (n : Nat)) H2
section
variable {P : Program} {w : World} {K : Fr} {mg : Str → Option Value} {base : Heap} {f : Addr}
-- hint: int(''.join([_law_sign for _law_sign in _law_text if _law_sign in '0123456789'])) => (pk_t1 call_int_str T.int b_int $0)
-- hint: pi:_law_text => pi_str
theorem ok_law_number (D : Df K "_law_number" "_law_number" s_law_number (ga K "_law_number")) (T : Tc w K mg) : Kp P w K mg base 1 (ga K "_law_number") (spNumber K) := by
  refine kp_of D sc_law_number (fun _ _ _ _ _ _ us hl => match us, hl with | [_], _ => rfl) ?_ (fun cdv A outer s H vs Q E hr h => ?_)
  · rintro vs H Q E ⟨z, n, rfl, _⟩
    rfl
  · obtain ⟨z, n, rfl, hf, hn, hl, q⟩ := h
    obtain ⟨l, rfl⟩ : ∃ l, z = sL l := ⟨_, sL_of z⟩
    have hf : l.filter isDg = numL n := hf
    rw [sL_len] at hl
    have hi := int_sL hn
    have hfl := (figs_ok hn).2.1
    refine ⟨_, (pss_one (ps_ret (pk_t1 call_int_str T.int b_int (pe_joinK K pe_str (pe_lc (own := [("_law_sign", 1)]) (g := gName 1) rfl sc_law_number.nd (pi_str (pv 0)) (blkOk_by (N := ["_law_text", "_law_sign"]) (sc := defScope s_law_number) (by decide +kernel)) (fun _ _ _ _ _ => (pg_name (i := 1) sc_law_number.nd rfl (Or.inl rfl))) (fun _ _ _ _ _ => (pts_one (pt_cmpR (inA K) (pv 1) pe_str rfl))) (fun _ _ _ _ _ => (pv 1))))))), ?_⟩
    refine ⟨⟨_, rfl⟩, _, rfl, _, rfl, fun D1 n1 => ?_⟩
    have hfl2 : (sL (numL n)).length ≤ 640 := by rw [sL_len]; omega
    have hwc : (sL l).cps.size = l.length := by simp [sL]
    refine lc_keep (walk_str (z := sL l)) (by assumption) (fun i => isDg (l.getD i 0)) (fun i => V.str (sL [l.getD i 0])) (by rw [hwc]; exact small_ok (by omega)) (fun _ _ => trivial) ?_ ?_
    · rintro i v H3 H4 N N0 hi s2 ⟨rfl, c, hc, rfl⟩ yes no
      have hci : l[i]? = some c := by
        unfold sL at hc
        rw [List.getElem?_toArray] at hc
        exact hc
      have hgi : l.getD i 0 = c := by rw [List.getD_eq_getElem?_getD, hci]; rfl
      rw [hgi] at yes no
      refine ⟨rfl, _, rfl, (.inr ⟨_, _, rfl, rfl, _, rfl, ?_⟩)⟩
      rw [if_neg (by decide), dg_in c]
      cases hdg : isDg c with
      | true =>
        rw [if_pos rfl]
        refine ⟨_, rfl, ?_⟩
        exact yes hdg _ (Same.refl _)
      | false =>
        rw [if_neg (by decide)]
        exact no hdg _ (Same.refl _)
    · intro H3 s3 hD3
      rw [hwc, keeps_dg, hf] at hD3
      skip
      refine ⟨_, D1, (numL n).map fun c => sL [c], rfl, rfl, .inl (SqL.of (by rw [hD3, List.map_map]; rfl)), ?_, ?_⟩
      · rw [sum_one]
        have : (Str.length "" : Nat) = 0 := by decide +kernel
        rw [this]
        omega
      rw [join_one]
      refine ⟨_, _, rfl, hi, (by omega), ?_⟩
      exact q _ s3
theorem ok_law_is_table (D : Df K "_law_is_table" "_law_is_table" s_law_is_table (ga K "_law_is_table")) (T : Tc w K mg) (G_key_table : Kp P w K mg base 12 (ga K "key_table") (spTable K)) (G_key_counts : Kp P w K mg base 4 (ga K "key_counts") (spCounts K)) (G_law_number : Kp P w K mg base 1 (ga K "_law_number") (spNumber K)) (G_Text_size : Kp P w K mg base 1 (pgA K (CT K) "size") (spSize K)) (G_Text_typed_keys : Kp P w K mg base 1 (pgA K (CT K) "typed_keys") (spTyped K)) : Kp P w K mg base 13 (ga K "_law_is_table") (spIsTable K) := by
  refine kp_of D sc_law_is_table (fun _ _ _ _ _ _ us hl => match us, hl with | [_], _ => rfl) ?_ (fun cdv A outer s H vs Q E hr h => ?_)
  · rintro vs H Q E ⟨x, st, rfl, _⟩
    rfl
  · obtain ⟨x, st, rfl, tx, h0, h1, q⟩ := h
    obtain ⟨dx, ts, sp, as, ss, hx, hts, hst, hsp, hss⟩ := tx.obj
    have few := tx.few
    have good := tx.good
    refine ⟨_, (pss_cons (ps_par (i := 1) (j := 2) rfl sc_law_is_table.nd rfl rfl (by decide) rfl rfl (pa_cons (pe_split (pk_call G_key_table (hr.mono (by omega)) T.g_key_table (pa_cons (pv 0) pa_nil)) pe_str) (pa_cons (pk_call G_key_counts (hr.mono (by omega)) T.gCounts (pa_cons (pv 0) (pa_cons pe_int (pa_cons (pe_op op_sub (pk_prop (pv 0) T.clT T.pSize G_Text_size (hr.mono (by omega))) pe_int) pa_nil)))) pa_nil)) (by rfl)) (pss_cons (ps_if (pt_cmpR (neB K hr.units) (pk_b1 (lenA K) T.len b_len (pv 1)) (pk_b1 (lenA K) T.len b_len (pk_prop (pv 0) T.clT T.pTyped G_Text_typed_keys (hr.mono (by omega)))) (nomark _)) (pss_one (ps_ret pe_bl)) pss_nil) (pss_cons (ps_for PassesOwn.never rfl (pi_range1 (by rfl) T.rng (pa_cons (pk_b1 (lenA K) T.len b_len (pv 1)) pa_nil)) (pg_name (i := 3) sc_law_is_table.nd rfl (Or.inl rfl)) (pss_cons (ps_set (i := 4) sc_law_is_table.nd rfl (Or.inl rfl) (pe_ix (ixS K) (pv 1) (pv 3) (fun _ _ => rfl))) (pss_cons (ps_if (pw_or (pt_cmpR (neB K hr.units) (pk_b1 (lenA K) T.len b_len (pv 4)) pe_int (nomark _)) (pw_or (pt_cmpR (neB K hr.units) (pe_op (addA K) (pe_ix (ixS K) (pv 4) pe_int (fun _ _ => rfl)) (pe_ix (ixS K) (pv 4) pe_int (fun _ _ => rfl))) pe_str (nomark _)) (pw_or1 (pt_cmpR (neB K hr.units) (pe_ix (ixS K) (pv 4) pe_int (fun _ _ => rfl)) (pe_ix (ixS K) (pk_prop (pv 0) T.clT T.pTyped G_Text_typed_keys (hr.mono (by omega))) (pv 3) (fun _ _ => rfl)) (nomark _))))).pt (pss_one (ps_ret pe_bl)) pss_nil) (pss_one (ps_if (pw_or (pt_cmpR (neB K hr.units) (pk_call G_law_number (hr.mono (by omega)) T.g_law_number (pa_cons (pe_slice (slA K) (pv 4) po_none (po_some pe_int)) pa_nil)) (pv 3) (nomark _)) (pw_or1 (pt_cmpR (neB K hr.units) (pk_call G_law_number (hr.mono (by omega)) T.g_law_number (pa_cons (pe_slice (slA K) (pv 4) (po_some pe_int) po_none) pa_nil)) (pe_ix (ixS K) (pv 2) (pv 3) (fun _ _ => rfl)) (nomark _)))).pt (pss_one (ps_ret pe_bl)) pss_nil))))) (pss_one (ps_ret pe_bl))))), ?_⟩
    have hnk9 : nk st ≤ 600 := by
      have h2 := nk_le good
      omega
    have hnk0 := nk_pos good h0
    have hlet := typed_let good
    have htl : (tabT st).length + 2 ≤ sizeLine := by
      have := tabT_len hnk9 h1
      exact small_ok (by omega)
    have htz : (sL (typed st)).length = nk st := by rw [sL_len, typed_len]
    have htz2 : (sL (typed st)).length ≤ sizeLine := by rw [htz]; exact small_ok (by omega)
    have hsp9 := split_tab hlet hnk0
    rw [← nl_sL] at hsp9
    have hrl : (((tabR st).map sL).map V.str).length = nk st := by
      unfold tabR
      rw [List.length_map, List.length_map, List.length_map, List.length_range]
    refine ⟨_, rfl, _, _, rfl, tx, (by omega), fun H2 s1 => ?_⟩
    refine ⟨⟨_, rfl⟩, _, _, rfl, rfl, rfl, (by omega), fun p n => ?_⟩
    have ne_x_p := ne_of_none (s1 _ _ hx) n
    generalize hE : upd H2 p _ = H1
    have s2 : Same H2 H1 := hE ▸ same_upd n
    have e_p := (congrFun hE p).symm.trans upd_same
    clear hE
    refine ⟨_, rfl, _, rfl, _, _, _, rfl, (s2 _ _ (s1 _ _ hx)), _, _, rfl, (TextAt.same tx (s1.trans s2)), _, _, rfl, rfl, _, _, _, _, rfl, (TextAt.same tx (s1.trans s2)), (by omega), (by omega), (by omega), fun l H21 n1 s3 e => ?_⟩
    have ne_x_l := ne_of_none ((s1.trans s2) _ _ hx) n1
    have ne_p_l := ne_of_none e_p n1
    refine ⟨_, _, rfl, _, rfl, (.inr (.inl ⟨_, _, rfl, (.inl (SqL.of (s3 _ _ e_p))), _, rfl, _, _, _, rfl, (s3 _ _ (s2 _ _ (s1 _ _ hx))), _, _, rfl, (TextAt.same tx ((s1.trans s2).trans s3)), (.inl ⟨_, rfl, (by omega), (.inl ⟨rfl, _, rfl, ?_⟩)⟩)⟩))⟩
    generalize hσ : List.set _ _ _ = σ1
    simp only [L2.start, List.set_cons_zero, List.set_cons_succ, List.map_cons, List.map_nil, List.length_cons, List.length_nil, List.replicate_succ, List.replicate_zero, List.cons_append, List.nil_append, Nat.reduceAdd, Nat.reduceSub] at hσ
    subst hσ
    have hsz0 : ((sz st : Int) - 1 + 1).toNat = sz st := by omega
    have hc0 : ∀ k, Pk.cnt st k (Int.toNat 0) = 0 := fun k => by
      unfold Pk.cnt
      simp
    have hcV : (cV (nk st) fun k => ((Pk.cnt st k ((sz st : Int) - 1 + 1).toNat : Nat) : Int) - ((Pk.cnt st k (Int.toNat 0) : Nat) : Int)) = nV ((List.range (nk st)).map fun k => Pk.cnt st k (sz st)) := by
      unfold cV nV
      rw [List.map_map]
      refine List.map_congr_left fun k _ => ?_
      show V.int (_ - ((Pk.cnt st k (Int.toNat 0) : Nat) : Int)) = _
      rw [hsz0, hc0 k]
      simp
    rw [hcV] at e
    rw [hsp9] at e_p ⊢
    clear hsp9 hcV hc0 htl
    refine iF (nF (by rw [hrl, htz]; exact decide_eq_true rfl)) ?_
    refine ⟨_, rfl, (.inr (.inl ⟨_, _, rfl, (.inl (SqL.of (s3 _ _ e_p))), _, rfl, (by omega), (by omega), ?_⟩))⟩
    rw [hrl]
    refine for_range (lo := 0) (n := nk st) (fun i σ HB => ∃ v3 v4 : Option V, σ = [some (.ref x), some (.ref p), some (.ref l), v3, v4] ∧ Same H21 HB) ⟨_, _, rfl, Same.refl _⟩ ?_ ?_
    · rintro i σ HB hi ⟨v3, v4, rfl, sB⟩
      have hcl : Pk.cnt st i (sz st) < 1000000000000000000 := Nat.lt_of_le_of_lt (cnt_le_sz st i) h1
      have hrow : atI (((tabR st).map sL).map V.str) (0 + (i : Int)) = some (.str (sL (rowL i (Pk.cnt st i (sz st)) (ltr st i)))) := by
        rw [Int.zero_add]
        refine atI_nat ?_
        unfold tabR
        rw [List.getElem?_map, List.getElem?_map, List.getElem?_map, List.getElem?_range hi]
        rfl
      have hcnt : atI (nV ((List.range (nk st)).map fun k => Pk.cnt st k (sz st))) (0 + (i : Int)) = some (.int (Pk.cnt st i (sz st) : Nat)) := by
        rw [Int.zero_add]
        refine atI_nat ?_
        unfold nV
        rw [List.map_map, List.getElem?_map, List.getElem?_range hi]
        rfl
      have htyp : atI (sL (typed st)).cps.toList (0 + (i : Int)) = some (ltr st i) := by
        rw [Int.zero_add]
        exact atI_nat (key_typed hi)
      obtain ⟨r33, r4, r5, r6, rt4, rd7⟩ := row_parts (k := i) (c := Pk.cnt st i (sz st)) (l := ltr st i) (by omega) hcl
      have hd4 := dg4 i
      have hd26 := dg26 (Pk.cnt st i (sz st))
      have hp4 : (padN 4 (figs (i : Nat))).length ≤ 33 := by rw [← rt4, List.length_take]; omega
      have hp26 : (padN 26 (grp 7 (figs (Pk.cnt st i (sz st) : Nat)) [])).length ≤ 33 := by rw [← rd7, List.length_drop]; omega
      rw [← rt4] at hd4 hp4
      rw [← rd7] at hd26 hp26
      generalize rowL i (Pk.cnt st i (sz st)) (ltr st i) = ln at hrow r33 r4 r5 r6 hd4 hp4 hd26 hp26
      clear rt4 rd7
      have a4 : atI (sL ln).cps.toList 4 = some 32 := atI_nat (j := 4) r4
      have a5 : atI (sL ln).cps.toList 5 = some (ltr st i) := atI_nat (j := 5) r5
      have a6 : atI (sL ln).cps.toList 6 = some 32 := atI_nat (j := 6) r6
      have a33 : (sL ln).length = 33 := by rw [sL_len, r33]
      have az : (sL ln).length ≤ sizeLine := by rw [a33]; exact small_ok (by omega)
      have hz4 : (cutS (sL ln) none (some 4)).cps.toList.filter isDg = numL i := by
        rw [show (4 : Int) = ((4 : Nat) : Int) from rfl, cut_to]
        exact hd4
      have hz7 : (cutS (sL ln) (some 7) none).cps.toList.filter isDg = numL (Pk.cnt st i (sz st)) := by
        rw [show (7 : Int) = ((7 : Nat) : Int) from rfl, cut_from]
        exact hd26
      have hl4 : (cutS (sL ln) none (some 4)).length ≤ 100 := Nat.le_trans (cutS_length _ _ _) (by rw [a33]; omega)
      have hl7 : (cutS (sL ln) (some 7) none).length ≤ 100 := Nat.le_trans (cutS_length _ _ _) (by rw [a33]; omega)
      clear hd4 hd26 hp4 hp26
      refine ⟨_, rfl, _, rfl, (.inl ⟨_, _, _, _, rfl, rfl, (SqL.of (sB _ _ (s3 _ _ e_p))), hrow, _, rfl, (.inl ⟨_, rfl, (by omega), (.inl ⟨rfl, _, rfl, ?_⟩)⟩)⟩)⟩
      generalize hσ : List.set _ _ _ = σ1
      simp only [L2.start, List.set_cons_zero, List.set_cons_succ, List.map_cons, List.map_nil, List.length_cons, List.length_nil, List.replicate_succ, List.replicate_zero, List.cons_append, List.nil_append, Nat.reduceAdd, Nat.reduceSub] at hσ
      subst hσ
      refine iF (nF (vT (by omega))) ?_
      refine ⟨_, rfl, (.inr (.inr ⟨_, _, _, rfl, rfl, (by omega), a4, _, rfl, (.inr (.inr ⟨_, _, _, rfl, rfl, (by omega), a6, (.inr (.inl ⟨_, _, rfl, rfl, (by decide), (.inl ⟨rfl, _, rfl, ?_⟩)⟩))⟩))⟩))⟩
      refine iF (nF (sT rfl)) ?_
      refine ⟨_, rfl, (.inr (.inr ⟨_, _, _, rfl, rfl, (by omega), a5, _, rfl, _, _, _, rfl, (sB _ _ (s3 _ _ (s2 _ _ (s1 _ _ hx)))), _, _, rfl, (TextAt.same tx (((s1.trans s2).trans s3).trans sB)), _, rfl, (.inr (.inr ⟨_, _, _, rfl, rfl, (by omega), htyp, (.inl ⟨rfl, _, rfl, ?_⟩)⟩))⟩))⟩
      refine iF (nF (sT rfl)) ?_
      refine ⟨_, rfl, _, rfl, (.inr (.inr ⟨_, rfl, (by omega), _, _, rfl, hz4, (by omega), (by omega), fun H22 s4 => ?_⟩))⟩
      refine ⟨_, rfl, (.inl ⟨rfl, _, rfl, ?_⟩)⟩
      refine iF (nF (vT (by omega))) ?_
      refine ⟨_, rfl, _, rfl, (.inr (.inr ⟨_, rfl, (by omega), _, _, rfl, hz7, (by omega), (by omega), fun H23 s5 => ?_⟩))⟩
      refine ⟨_, rfl, _, rfl, (.inl ⟨_, _, _, _, rfl, rfl, (SqL.of (s5 _ _ (s4 _ _ (sB _ _ e)))), hcnt, (.inl ⟨rfl, _, rfl, ?_⟩)⟩)⟩
      refine iF (nF (vT rfl)) ?_
      refine ⟨_, _, rfl, ?_⟩
      exact ((sB.trans s4).trans s5)
    · rintro σ HB ⟨v3, v4, rfl, sB⟩
      exact q _ (((s1.trans s2).trans s3).trans sB)
end
end KL
namespace KL
open PySem PySem.Spec PyProof.Rows L2 Pk He
theorem cut_two (a b : V) (r : List V) : cutV (a :: b :: r) none (some 2) = [a, b] := by
  unfold cutV
  rw [show (some (2 : Int)) = some ((2 : Nat) : Int) from rfl, HT.sIx_none, HT.sIx_nat, List.length_cons, List.length_cons, Nat.min_eq_left (by omega)]
  rfl
theorem word_ok9 {y : Stp} {s : Nat} (ok : y.ok s = true) (p : List Nat) (hp : p ∈ rowW y) : PyData.strOk (sL p) = true := by
  have key : ∀ c ∈ p, c < 128 := by
    cases y with
    | wr w =>
      simp only [Stp.ok, Bool.and_eq_true, decide_eq_true_eq] at ok
      simp only [rowW, List.mem_cons, List.not_mem_nil, or_false] at hp
      rcases hp with rfl | rfl
      · intro c hc
        simp at hc
        omega
      · intro c hc
        have := List.all_eq_true.mp ok.2 c hc
        unfold isLet at this
        simp at this
        omega
    | pa f l t =>
      simp only [rowW, List.mem_cons, List.not_mem_nil, or_false] at hp
      rcases hp with rfl | rfl | rfl | rfl
      · intro c hc
        simp at hc
        omega
      all_goals exact fun c hc => by have := TL.numL_digits _ c hc; omega
  unfold PyData.strOk sL
  rw [List.all_toArray]
  exact List.all_eq_true.mpr fun c hc => decide_eq_true (by have := key c hc; omega)
def spIsWritten (K : Fr) : Sp := fun vs H Q _ => ∃ (x : Addr) (st : List Stp), vs = [.ref x] ∧ TA_ K H x st ∧ st ≠ [] ∧ ∀ H2, Same H H2 → Q (.bl true) H2
section
variable {P : Program} {w : World} {K : Fr} {mg : Str → Option Value} {base : Heap} {f : Addr}
-- hint: pi:_law_text.steps[_law_k] => pi_tup
-- hint: str(_law_part) => (pk_t1 call_strB T.str b_str $0)
theorem ok_law_is_written (D : Df K "_law_is_written" "_law_is_written" s_law_is_written (ga K "_law_is_written")) (T : Tc w K mg) (G_format_text : Kp P w K mg base 5 (ga K "format_text") (spFormat K)) (G_unpack_bytes : Kp P w K mg base 1 (ga K "unpack_bytes") (spUnpack K)) (G_encode_text : Kp P w K mg base 5 (ga K "encode_text") (spEncode K)) (G_parse_text : Kp P w K mg base 7 (ga K "parse_text") (spParse K)) (G_decode_text : Kp P w K mg base 7 (ga K "decode_text") (spDecode K)) (G_pack_bytes : Kp P w K mg base 2 (ga K "pack_bytes") (spPack K)) (G_Text_eq : Kp P w K mg base 1 (ma K (CT K) "__eq__") (spEqT K)) (G_Text_steps : Kp P w K mg base 1 (pgA K (CT K) "steps") (spStepsP K)) : Kp P w K mg base 13 (ga K "_law_is_written") (spIsWritten K) := by
  refine kp_of D sc_law_is_written (fun _ _ _ _ _ _ us hl => match us, hl with | [_], _ => rfl) ?_ (fun cdv A outer s H vs Q E hr h => ?_)
  · rintro vs H Q E ⟨x, st, rfl, _⟩
    rfl
  · obtain ⟨x, st, rfl, tx, hne, q⟩ := h
    obtain ⟨dx, ts, sp, as, ss, hx, hts, hst, hsp, hss⟩ := tx.obj
    have few := tx.few
    have good := tx.good
    have hrl := rows_len good few
    have hsl : (rowsT st).length + 2 ≤ sizeLine := by
      have : (rowsT st).length = (rowsL st).length := sL_len _
      rw [this]
      exact small_ok (by omega)
    have hsp9 := split_rows good hne
    rw [← nl_sL] at hsp9
    have hjn : [V.str (Txt.join "\n" (Txt.split (rowsT st) "\n"))] = [V.str (rowsT st)] := by
      rw [hsp9]
      have e11 : st.map rowT = (st.map rowL2).map sL := by rw [List.map_map]; rfl
      rw [e11, join_sL 10 _ nl_sL]
      rfl
    have hsum : ((Txt.split (rowsT st) "\n").map fun x => x.length).sum + (Txt.split (rowsT st) "\n").length * Str.length "\n" ≤ 16777216 := by
      rw [hsp9]
      have h7 := sum_le9 (k := 84) (l := (st.map rowT).map (·.length)) fun x hx => by
        obtain ⟨z, hz, rfl⟩ := List.mem_map.mp hx
        obtain ⟨y9, hy9, rfl⟩ := List.mem_map.mp hz
        obtain ⟨i9, hi9⟩ := List.mem_iff_getElem?.mp hy9
        show (sL (rowL2 y9)).length ≤ 84
        rw [sL_len]
        exact row_len (goes_at good hi9).1 (sz_most (goes_take good i9))
      have h9 : Str.length "\n" = 1 := by decide +kernel
      rw [List.length_map, List.length_map] at h7
      rw [List.length_map, h9]
      omega
    have hiB := encB_isB good few
    have hel : (encB st).length ≤ 100000 := by
      have h8 := encF_len good few st.length
      rw [List.take_length] at h8
      unfold encB encH
      rw [List.length_append]
      show (_ : Nat) + 1 + 1 + 1 ≤ _
      omega
    refine ⟨_, (pss_cons (ps_par (i := 1) (j := 2) rfl sc_law_is_written.nd rfl rfl (by decide) rfl rfl (pa_cons (pe_split (pk_call G_format_text (hr.mono (by omega)) T.g_format_text (pa_cons (pv 0) pa_nil)) pe_str) (pa_cons (pk_call G_unpack_bytes (hr.mono (by omega)) T.g_unpack_bytes (pa_cons (pk_call G_encode_text (hr.mono (by omega)) T.g_encode_text (pa_cons (pv 0) pa_nil)) pa_nil)) pa_nil)) (by rfl)) (pss_cons (ps_if (pw_or (pt_not (pt_cmpR ((eqB K hr.units).or (op_eqO T.oEq G_Text_eq.fnR (hr.mono (by omega)) pass0)) (pk_call G_parse_text (hr.mono (by omega)) T.g_parse_text (pa_cons (pe_joinK K pe_str (pv 1)) pa_nil)) (pv 0) (nomark _))) (pw_or1 (pt_not (pt_cmpR ((eqB K hr.units).or (op_eqO T.oEq G_Text_eq.fnR (hr.mono (by omega)) pass0)) (pk_call G_decode_text (hr.mono (by omega)) T.g_decode_text (pa_cons (pk_call G_encode_text (hr.mono (by omega)) T.g_encode_text (pa_cons (pv 0) pa_nil)) pa_nil)) (pv 0) (nomark _))))).pt (pss_one (ps_ret pe_bl)) pss_nil) (pss_cons (ps_if (pt_cmpR ((neB K hr.units).or (op_neO T.oEq T.neT T.insT.hm G_Text_eq.fnR (hr.mono (by omega)) pass0)) (pk_b1 (lenA K) T.len b_len (pv 1)) (pk_b1 (lenA K) T.len b_len (pk_prop (pv 0) T.clT T.pSteps G_Text_steps (hr.mono (by omega)))) (nomark _)) (pss_one (ps_ret pe_bl)) pss_nil) (pss_cons (ps_for PassesOwn.never rfl (pi_range1 (by rfl) T.rng (pa_cons (pk_b1 (lenA K) T.len b_len (pv 1)) pa_nil)) (pg_name (i := 3) sc_law_is_written.nd rfl (Or.inl rfl)) (pss_one (ps_if (pt_cmpR ((neB K hr.units).or (op_neO T.oEq T.neT T.insT.hm G_Text_eq.fnR (hr.mono (by omega)) pass0)) (pe_split (pe_ix (ixS K) (pv 1) (pv 3) (fun _ _ => rfl)) pe_str) (pe_lc (own := [("_law_part", 4)]) (g := gName 4) (tt := tYes) rfl sc_law_is_written.nd (pi_tup (pe_ix (ixS K) (pk_prop (pv 0) T.clT T.pSteps G_Text_steps (hr.mono (by omega))) (pv 3) (fun _ _ => rfl))) (blkOk_by (N := ["_law_text", "_law_rows", "_law_values", "_law_k", "_law_part"]) (sc := defScope s_law_is_written) (by decide +kernel)) (fun _ _ _ _ _ => (pg_name (i := 4) sc_law_is_written.nd rfl (Or.inl rfl))) (fun _ _ _ _ _ => pts_nil) (fun _ _ _ _ _ => (pk_t1 call_strB T.str b_str (pv 4)))) (nomark _)) (pss_one (ps_ret pe_bl)) pss_nil))) (pss_one (ps_ret (pe_and (pe_cmpR ((eqB K hr.units).or (op_eqO T.oEq G_Text_eq.fnR (hr.mono (by omega)) pass0)) (pk_call G_pack_bytes (hr.mono (by omega)) T.g_pack_bytes (pa_cons (pv 2) pa_nil)) (pk_call G_encode_text (hr.mono (by omega)) T.g_encode_text (pa_cons (pv 0) pa_nil)) (nomark _)) (pe_one (pe_cmpR ((eqB K hr.units).or (op_eqO T.oEq G_Text_eq.fnR (hr.mono (by omega)) pass0)) (pe_slice (slA K) (pv 2) po_none (po_some pe_int)) (pe_lst (pa_cons pe_int (pa_cons (pk_b1 (lenA K) T.len b_len (pv 1)) pa_nil))) (nomark _)))))))))), ?_⟩
    refine ⟨_, rfl, _, _, rfl, tx, fun H2 s1 => ?_⟩
    refine ⟨⟨_, rfl⟩, _, _, rfl, rfl, rfl, (by omega), fun p n => ?_⟩
    have ne_x_p := ne_of_none (s1 _ _ hx) n
    generalize hE : upd H2 p _ = H1
    have s2 : Same H2 H1 := hE ▸ same_upd n
    have e_p := (congrFun hE p).symm.trans upd_same
    clear hE
    refine ⟨_, rfl, _, _, rfl, (TextAt.same tx (s1.trans s2)), fun H21 s3 => ?_⟩
    refine ⟨_, rfl, (by omega), hiB, fun p1 H22 n1 s4 e => ?_⟩
    have ne_x_p1 := ne_of_none (((s1.trans s2).trans s3) _ _ hx) n1
    have ne_p_p1 := ne_of_none (s3 _ _ e_p) n1
    refine ⟨_, _, rfl, ⟨_, rfl⟩, _, rfl, _, _, _, rfl, rfl, (.inl (SqL.of (s4 _ _ (s3 _ _ e_p)))), (by omega), _, hjn, good, (by omega), fun x1 H23 n2 s5 t => ?_⟩
    have ne_x_x1 := ne_of_none ((((s1.trans s2).trans s3).trans s4) _ _ hx) n2
    have ne_p_x1 := ne_of_none ((s3.trans s4) _ _ e_p) n2
    have ne_p1_x1 := ne_of_none e n2
    obtain ⟨dx_x1, ts_x1, sp_x1, as_x1, ss_x1, hx_x1, hts_x1, hst_x1, hsp_x1, hss_x1⟩ := t.obj
    have hty_x1 := typed_small t
    have hnk_x1 := text_nk t
    have hg_x1 := t.good
    generalize hσ : List.set _ _ _ = σ1
    simp only [L2.start, List.set_cons_zero, List.set_cons_succ, List.map_cons, List.map_nil, List.length_cons, List.length_nil, List.replicate_succ, List.replicate_zero, List.cons_append, List.nil_append, Nat.reduceAdd, Nat.reduceSub] at hσ
    subst hσ
    refine ⟨_, rfl, (.inr ⟨_, _, _, rfl, hx_x1, (.inl ⟨_, ⟨_, ⟨_, ⟨rfl, (s5 _ _ (s4 _ _ (s3 _ _ (s2 _ _ (s1 _ _ hx)))))⟩⟩⟩⟩), _, _, t, (.inl ⟨_, _, rfl, (TextAt.same tx ((((s1.trans s2).trans s3).trans s4).trans s5)), _, rfl, ?_⟩)⟩)⟩
    refine iF (nF (dT rfl)) ?_
    refine ⟨_, rfl, _, _, rfl, (TextAt.same tx ((((s1.trans s2).trans s3).trans s4).trans s5)), fun H24 s6 => ?_⟩
    refine ⟨_, rfl, hg_x1, (by omega), fun x2 H25 n3 s7 t1 => ?_⟩
    have ne_x_x2 := ne_of_none ((((((s1.trans s2).trans s3).trans s4).trans s5).trans s6) _ _ hx) n3
    have ne_p_x2 := ne_of_none ((((s3.trans s4).trans s5).trans s6) _ _ e_p) n3
    have ne_p1_x2 := ne_of_none ((s5.trans s6) _ _ e) n3
    have ne_x1_x2 := ne_of_none (s6 _ _ hx_x1) n3
    obtain ⟨dx_x2, ts_x2, sp_x2, as_x2, ss_x2, hx_x2, hts_x2, hst_x2, hsp_x2, hss_x2⟩ := t1.obj
    have hty_x2 := typed_small t1
    have hnk_x2 := text_nk t1
    have hg_x2 := t1.good
    refine ⟨_, rfl, (.inr ⟨_, _, _, rfl, hx_x2, (.inl ⟨_, ⟨_, ⟨_, ⟨rfl, (s7 _ _ (s6 _ _ (s5 _ _ (s4 _ _ (s3 _ _ (s2 _ _ (s1 _ _ hx)))))))⟩⟩⟩⟩), _, _, t1, (.inl ⟨_, _, rfl, (TextAt.same tx ((((((s1.trans s2).trans s3).trans s4).trans s5).trans s6).trans s7)), _, rfl, ?_⟩)⟩)⟩
    refine iF (nF (dT rfl)) ?_
    refine ⟨_, rfl, (.inr (.inl ⟨_, _, rfl, (.inl (SqL.of (s7 _ _ (s6 _ _ (s5 _ _ (s4 _ _ (s3 _ _ e_p))))))), _, rfl, _, _, _, rfl, (s7 _ _ (s6 _ _ (s5 _ _ (s4 _ _ (s3 _ _ (s2 _ _ (s1 _ _ hx))))))), _, _, rfl, (TextAt.same tx ((((((s1.trans s2).trans s3).trans s4).trans s5).trans s6).trans s7)), fun ts1 as1 h h1 => ?_⟩))⟩
    refine (.inr (.inl ⟨_, _, rfl, (.inr h), (.inl (.inl ⟨rfl, _, rfl, ?_⟩))⟩))
    rw [hsp9]
    have hn1 : ((st.map rowT).map V.str).length = st.length := by rw [List.length_map, List.length_map]
    have hn2 : (as1.map V.ref).length = st.length := by rw [List.length_map, h1.len]
    have e_pr : H25 p = some (.lst ((st.map rowT).map V.str)) := by
      rw [← hsp9]
      exact (s7 _ _ (s6 _ _ (s5 _ _ (s4 _ _ (s3 _ _ e_p)))))
    refine iF (nF (by rw [hn1, hn2]; exact decide_eq_true rfl)) ?_
    refine ⟨_, rfl, (.inr (.inl ⟨_, _, rfl, (.inl (SqL.of e_pr)), _, rfl, (by omega), (by omega), ?_⟩))⟩
    rw [hn1]
    refine for_range (lo := 0) (n := st.length) (fun i σ HB => ∃ v3 v4 : Option V, σ = [some (.ref x), some (.ref p), some (.ref p1), v3, v4] ∧ Same H25 HB) ⟨_, _, rfl, Same.refl _⟩ ?_ ?_
    · rintro i σ HB hi ⟨v3, v4, rfl, sB⟩
      obtain ⟨y, hy⟩ : ∃ y, st[i]? = some y := ⟨_, List.getElem?_eq_getElem hi⟩
      obtain ⟨ok, lim⟩ := goes_at good hy
      have hsz := sz_most (goes_take good i)
      have hrow9 := row_len ok hsz
      have hrw := split_row ok
      rw [← sp_sL] at hrw
      have hat1 : atI ((st.map rowT).map V.str) (0 + (i : Int)) = some (.str (rowT y)) := by
        rw [Int.zero_add]
        refine atI_nat ?_
        rw [List.getElem?_map, List.getElem?_map, hy]
        rfl
      have hl9 : (rowT y).length + 2 ≤ sizeLine := by
        have : (rowT y).length = (rowL2 y).length := sL_len _
        rw [this]
        exact small_ok (by omega)
      refine ⟨_, rfl, _, rfl, (.inl ⟨_, _, _, _, rfl, rfl, (SqL.of (sB _ _ e_pr)), hat1, ⟨_, rfl⟩, _, _, rfl, rfl, rfl, (by omega), fun p2 n4 => ?_⟩)⟩
      have ne_x_p2 := ne_of_none ((((((((s1.trans s2).trans s3).trans s4).trans s5).trans s6).trans s7).trans sB) _ _ hx) n4
      have ne_p1_p2 := ne_of_none ((((s5.trans s6).trans s7).trans sB) _ _ e) n4
      have ne_x1_p2 := ne_of_none (((s6.trans s7).trans sB) _ _ hx_x1) n4
      have ne_x2_p2 := ne_of_none (sB _ _ hx_x2) n4
      have ne_p_p2 := ne_of_none (sB _ _ e_pr) n4
      generalize hE : upd HB p2 _ = H11
      have s8 : Same HB H11 := hE ▸ same_upd n4
      have e_p2 := (congrFun hE p2).symm.trans upd_same
      clear hE
      refine ⟨_, rfl, _, _, _, rfl, (s8 _ _ (sB _ _ (s7 _ _ (s6 _ _ (s5 _ _ (s4 _ _ (s3 _ _ (s2 _ _ (s1 _ _ hx))))))))), _, _, rfl, (TextAt.same tx ((((((((s1.trans s2).trans s3).trans s4).trans s5).trans s6).trans s7).trans sB).trans s8)), fun ts2 as2 h2 h3 => ?_⟩
      refine ⟨_, rfl, ?_⟩
      obtain ⟨b, hb, eb⟩ := h3.at_ i y hy
      have hat2 : atI (as2.map V.ref) (0 + (i : Int)) = some (.ref b) := by
        rw [Int.zero_add]
        exact atI_nat (map_get hb)
      rw [hrw] at e_p2
      refine (.inr (.inl ⟨_, _, _, _, rfl, rfl, h2, hat2, _, rfl, ⟨_, (same_sqT (Same.refl _) eb)⟩, fun D1 n5 => ?_⟩))
      have ne_x_D1 := ne_of_none (((((((((s1.trans s2).trans s3).trans s4).trans s5).trans s6).trans s7).trans sB).trans s8) _ _ hx) n5
      have ne_p1_D1 := ne_of_none (((((s5.trans s6).trans s7).trans sB).trans s8) _ _ e) n5
      have ne_x1_D1 := ne_of_none ((((s6.trans s7).trans sB).trans s8) _ _ hx_x1) n5
      have ne_x2_D1 := ne_of_none ((sB.trans s8) _ _ hx_x2) n5
      have ne_p_D1 := ne_of_none ((sB.trans s8) _ _ e_pr) n5
      have ne_p2_D1 := ne_of_none e_p2 n5
      refine lc_map (walk_tup (xs := stV y)) (by assumption) (fun j => V.str (sL ((rowW y).getD j []))) (by rw [stV_rowW]; exact small_ok (Nat.le_trans (rowW_len y) (by omega))) (fun H2 s2 => same_sqT s2 eb) ?_ ?_
      · rintro j v H5 H6 N2 hj s5 ⟨rfl, hv⟩ hN2
        rcases parts_at ok hsz hv with rfl | ⟨n9, rfl, hn9, e10⟩
        · refine ⟨rfl, _, rfl, (.inr ⟨_, rfl, ?_⟩)⟩
          exact hN2 _ (Same.refl _)
        · rw [e10] at hN2
          have hlb := log_big (n := n9) (by omega)
          refine ⟨rfl, _, rfl, (.inl ⟨_, rfl, (by omega), ?_⟩)⟩
          exact hN2 _ (Same.refl _)
      · intro H5 s5 hD5
        rw [stV_rowW, rng_getD (rowW y) [] fun w9 => V.str (sL w9)] at hD5
        have e12 : (rowW y).map (fun w9 => V.str (sL w9)) = ((rowW y).map sL).map V.str := by rw [List.map_map]; rfl
        rw [e12] at hD5
        have hok : (((rowW y).map sL).map V.str).all okV = true := by
          refine List.all_eq_true.mpr fun v hv => ?_
          obtain ⟨z, hz, rfl⟩ := List.mem_map.mp hv
          obtain ⟨p9, hp9, rfl⟩ := List.mem_map.mp hz
          exact word_ok9 ok p9 hp9
        refine (.inl (.inr (.inl ⟨_, _, _, _, rfl, rfl, (.inl ⟨(SqL.of (s5 _ _ e_p2)), (SqL.of hD5)⟩), hok, hok, _, rfl, ?_⟩)))
        refine iF (nF (dT rfl)) ?_
        refine ⟨_, _, rfl, ?_⟩
        exact ((sB.trans s8).trans s5)
    · rintro σ HB ⟨v3, v4, rfl, sB⟩
      refine ⟨_, rfl, _, _, rfl, (sB _ _ (s7 _ _ (s6 _ _ (s5 _ _ e)))), (by omega), hiB, fun H26 s8 => ?_⟩
      refine ⟨_, rfl, _, _, rfl, (TextAt.same tx ((((((((s1.trans s2).trans s3).trans s4).trans s5).trans s6).trans s7).trans sB).trans s8)), fun H27 s9 => ?_⟩
      refine (.inl (.inl ⟨rfl, _, rfl, ?_⟩))
      refine iT (dT rfl) ?_
      refine ⟨_, rfl, _, rfl, (.inl ⟨_, _, rfl, (SqL.of (s9 _ _ (s8 _ _ (sB _ _ (s7 _ _ (s6 _ _ (s5 _ _ e))))))), fun p2 n4 => ?_⟩)⟩
      have ne_x_p2 := ne_of_none ((((((((((s1.trans s2).trans s3).trans s4).trans s5).trans s6).trans s7).trans sB).trans s8).trans s9) _ _ hx) n4
      have ne_p1_p2 := ne_of_none ((((((s5.trans s6).trans s7).trans sB).trans s8).trans s9) _ _ e) n4
      have ne_x1_p2 := ne_of_none (((((s6.trans s7).trans sB).trans s8).trans s9) _ _ hx_x1) n4
      have ne_x2_p2 := ne_of_none (((sB.trans s8).trans s9) _ _ hx_x2) n4
      have ne_p_p2 := ne_of_none (((sB.trans s8).trans s9) _ _ e_pr) n4
      generalize hE : upd H27 p2 _ = H11
      have s10 : Same H27 H11 := hE ▸ same_upd n4
      have e_p2 := (congrFun hE p2).symm.trans upd_same
      clear hE
      refine ⟨_, rfl, (.inr (.inl ⟨_, _, rfl, (.inl (SqL.of (s10 _ _ (s9 _ _ (s8 _ _ (sB _ _ e_pr)))))), (by (show 2 ≤ _; decide)), fun p3 n5 => ?_⟩))⟩
      have ne_x_p3 := ne_of_none (((((((((((s1.trans s2).trans s3).trans s4).trans s5).trans s6).trans s7).trans sB).trans s8).trans s9).trans s10) _ _ hx) n5
      have ne_p1_p3 := ne_of_none (((((((s5.trans s6).trans s7).trans sB).trans s8).trans s9).trans s10) _ _ e) n5
      have ne_x1_p3 := ne_of_none ((((((s6.trans s7).trans sB).trans s8).trans s9).trans s10) _ _ hx_x1) n5
      have ne_x2_p3 := ne_of_none ((((sB.trans s8).trans s9).trans s10) _ _ hx_x2) n5
      have ne_p_p3 := ne_of_none ((((sB.trans s8).trans s9).trans s10) _ _ e_pr) n5
      have ne_p2_p3 := ne_of_none e_p2 n5
      generalize hE : upd H11 p3 _ = H12
      have s11 : Same H11 H12 := hE ▸ same_upd n5
      have e_p3 := (congrFun hE p3).symm.trans upd_same
      clear hE
      refine (.inl (.inr (.inl ⟨_, _, _, _, rfl, rfl, (.inl ⟨(SqL.of (s11 _ _ e_p2)), (SqL.of e_p3)⟩), rfl, rfl, ?_⟩)))
      refine qBl (q _ (((((((((((s1.trans s2).trans s3).trans s4).trans s5).trans s6).trans s7).trans sB).trans s8).trans s9).trans s10).trans s11)) ?_
      have e13 : nV (encB st) = V.int (80 : Nat) :: V.int (st.length : Nat) :: nV (st.flatMap encS ++ [chk (encH st)]) := rfl
      rw [e13, cut_two, hn1]
      exact (decide_eq_true rfl).symm
end
end KL
namespace KL
open PySem PySem.Spec PyProof.Rows L2 Pk He
section
variable {P : Program} {w : World} {K : Fr} {mg : Str → Option Value} {base : Heap} {f : Addr}
theorem scTaken : FnScope ["_law_row", "_law_many", "_law_found", "_law_cell"] ["_law_row", "_law_many"] (defScope sTaken) := ⟨rfl, rfl, rfl, by decide +kernel, rfl, by decide +kernel, by decide +kernel⟩
theorem ok_taken (D : Df K "_law_taken" "_law_taken" sTaken f) (T : Tc w K mg) : Kp P w K mg base 1 f (spTaken K) := by
  refine kp_of D scTaken (fun _ _ _ _ _ _ us hl => match us, hl with | [_, _], _ => rfl) ?_ (fun cdv A outer s H vs Q E hr h => ?_)
  · rintro vs H Q E ⟨r, m, rfl, _⟩
    rfl
  · obtain ⟨r, m, rfl, ⟨scr, ns⟩, ⟨i, seed, held, hrow, hscr, hi, hs0, hs1, hh, hne⟩, hm0, hm1, q⟩ := h
    have at_ : ∀ (H2 : Hp) (a b c : Int), H2 r = some (.lst [.ref scr, .int a, .int b, .int c]) → SqL K H2 r [.ref scr, .int a, .int b, .int c] := fun H2 a b c e => SqL.of e
    refine ⟨_, (pss_cons (ps_if (pt_cmpR op_gt (pe_ix ix_list (pv 0) pe_int (fun _ _ => rfl)) pe_int (nomark _)) (pss_cons (ps_set (i := 2) scTaken.nd rfl (Or.inl rfl) (pe_op op_mod (pk_t1 call_int1 T.int b_int (pe_ix ix_list (pv 0) pe_int (fun _ _ => rfl))) (pv 1))) (pss_cons (ps_asg (pe_op op_fdiv (pe_ix ix_list (pv 0) pe_int (fun _ _ => rfl)) (pv 1)) (pg_sub (pv 0) pe_int set_list)) (pss_one (ps_ret (pv 2))))) pss_nil) (pss_cons (ps_asg (pe_op op_add (pe_ix ix_list (pv 0) pe_int (fun _ _ => rfl)) pe_int) (pg_sub (pv 0) pe_int set_list)) (pss_cons (ps_if (pt_cmpR op_gt (pe_ix ix_list (pv 0) pe_int (fun _ _ => rfl)) (pk_b1 call_len_seq T.len b_len (pe_ix ix_list (pv 0) pe_int (fun _ _ => rfl))) (nomark _)) (pss_cons (ps_asg (pe_op op_mod (pk_t1 call_int1 T.int b_int (pe_op op_add (pe_op op_mul (pe_ix ix_list (pv 0) pe_int (fun _ _ => rfl)) pe_int) pe_int)) pe_int) (pg_sub (pv 0) pe_int set_list)) (pss_one (ps_ret (pe_op op_mod (pk_t1 call_int1 T.int b_int (pe_op op_fdiv (pe_ix ix_list (pv 0) pe_int (fun _ _ => rfl)) pe_int)) (pv 1))))) pss_nil) (pss_cons (ps_set (i := 3) scTaken.nd rfl (Or.inl rfl) (pe_ix ix_list (pe_ix ix_list (pv 0) pe_int (fun _ _ => rfl)) (pe_op op_sub (pe_ix ix_list (pv 0) pe_int (fun _ _ => rfl)) pe_int) (fun _ _ => rfl))) (pss_cons (ps_asg (pe_op op_mod (pk_t1 call_int1 T.int b_int (pe_op op_add (pe_op op_add (pe_op op_mul (pe_ix ix_list (pv 0) pe_int (fun _ _ => rfl)) pe_int) (pv 3)) pe_int)) pe_int) (pg_sub (pv 0) pe_int set_list)) (pss_cons (ps_if (pt_cmpR op_ge (pv 3) (pe_op op_pow pe_int pe_int) (nomark _)) (pss_one (ps_asg (pe_op op_fdiv (pv 3) (pv 1)) (pg_sub (pv 0) pe_int set_list))) pss_nil) (pss_one (ps_ret (pe_op op_mod (pk_t1 call_int1 T.int b_int (pv 3)) (pv 1)))))))))), ?_⟩
    refine ⟨_, rfl, r, _, 3, _, rfl, rfl, SqL.of hrow, rfl, _, _, rfl, rfl, _, rfl, ?_⟩
    refine ite2 (fun h1 => ?_) fun h1 => ?_
    · have h1 : 0 < held := of_decide_eq_true h1
      refine ⟨_, rfl, r, _, 3, _, rfl, rfl, SqL.of hrow, rfl, .inl ⟨_, rfl, _, rfl, _, _, rfl, rfl, hm0, ?_⟩⟩
      refine ⟨_, rfl, r, _, 3, _, rfl, rfl, SqL.of hrow, rfl, _, rfl, _, _, rfl, rfl, ⟨hm0, hm1⟩, _, rfl, r, _, 3, 3, rfl, rfl, hrow, rfl, ?_⟩
      refine ⟨_, rfl, ?_⟩
      refine q _ _ ⟨i, seed, held / m, upd_same, hne _ _ hscr, hi, hs0, hs1, Int.ediv_nonneg hh (Int.le_of_lt hm0), hne⟩ but_upd (Int.emod_nonneg _ (by omega)) (Int.emod_lt_of_pos _ hm0)
    · refine ⟨_, rfl, r, _, 1, _, rfl, rfl, SqL.of hrow, rfl, _, _, rfl, rfl, _, rfl, r, _, 1, 1, rfl, rfl, hrow, rfl, ?_⟩
      have r1 : (upd H r (.lst [.ref scr, .int (i + 1), .int seed, .int held])) r = some (.lst [.ref scr, .int (i + 1), .int seed, .int held]) := upd_same
      have q1 : SqL K (upd H r (.lst [.ref scr, .int (i + 1), .int seed, .int held])) scr (ns.map V.int) := hne _ _ hscr
      have b1 : But r H (upd H r (.lst [.ref scr, .int (i + 1), .int seed, .int held])) := but_upd
      change tSeq _ _ _ _ (upd H r (.lst [.ref scr, .int (i + 1), .int seed, .int held]))
      generalize upd H r (.lst [.ref scr, .int (i + 1), .int seed, .int held]) = H1 at r1 q1 b1
      refine ⟨_, rfl, r, _, 1, _, rfl, rfl, SqL.of r1, rfl, _, rfl, r, _, 0, _, rfl, rfl, SqL.of r1, rfl, scr, _, rfl, .inl q1, _, _, rfl, rfl, _, rfl, ?_⟩
      refine ite2 (fun h2 => ?_) fun h2 => ?_
      · refine ⟨_, rfl, r, _, 2, _, rfl, rfl, SqL.of r1, rfl, _, _, rfl, rfl, .inl ⟨by omega, by omega⟩, _, _, rfl, rfl, .inl ⟨_, rfl, _, _, rfl, rfl, (by show (0 : Int) < 2147483647; decide), _, rfl, r, _, 2, 2, rfl, rfl, r1, rfl, ?_⟩⟩
        have r2 : (upd H1 r (.lst [.ref scr, .int (i + 1), .int ((seed * 48271 + 11) % 2147483647), .int held])) r = some (.lst [.ref scr, .int (i + 1), .int ((seed * 48271 + 11) % 2147483647), .int held]) := upd_same
        have q2 : SqL K (upd H1 r (.lst [.ref scr, .int (i + 1), .int ((seed * 48271 + 11) % 2147483647), .int held])) scr (ns.map V.int) := hne _ _ q1
        have b2 : But r H (upd H1 r (.lst [.ref scr, .int (i + 1), .int ((seed * 48271 + 11) % 2147483647), .int held])) := b1.trans but_upd
        refine ⟨_, rfl, r, _, 2, _, rfl, rfl, SqL.of r2, rfl, _, _, rfl, rfl, ⟨by decide, by decide⟩, .inl ⟨_, rfl, _, rfl, _, _, rfl, rfl, hm0, ?_⟩⟩
        exact q _ _ ⟨i + 1, _, held, r2, q2, by omega, Int.emod_nonneg _ (by decide), Int.emod_lt_of_pos _ (by decide), hh, hne⟩ b2 (Int.emod_nonneg _ (by omega)) (Int.emod_lt_of_pos _ hm0)
      · have h2 : i < (ns.length : Int) := by
          rcases Int.lt_or_le i ns.length with h3 | h3
          · exact h3
          · exact absurd (decide_eq_true (by rw [List.length_map]; omega)) h2
        obtain ⟨c, hc⟩ : ∃ c, ns[i.toNat]? = some c := ⟨ns[i.toNat]'(by omega), List.getElem?_eq_getElem (by omega)⟩
        have hix : atI (ns.map V.int) (i + 1 - 1) = some (.int c) := by
          rw [show i + 1 - 1 = ((i.toNat : Nat) : Int) by omega]
          refine atI_nat ?_
          rw [List.getElem?_map, hc]
          rfl
        refine ⟨_, rfl, r, _, 0, _, rfl, rfl, SqL.of r1, rfl, _, rfl, r, _, 1, _, rfl, rfl, SqL.of r1, rfl, _, _, rfl, rfl, scr, _, _, _, rfl, rfl, q1, hix, ?_⟩
        refine ⟨_, rfl, r, _, 2, _, rfl, rfl, SqL.of r1, rfl, _, _, rfl, rfl, .inl ⟨by omega, by omega⟩, _, rfl, _, _, rfl, rfl, _, _, rfl, rfl, .inl ⟨_, rfl, _, _, rfl, rfl, (by show (0 : Int) < 2147483647; decide), _, rfl, r, _, 2, 2, rfl, rfl, r1, rfl, ?_⟩⟩
        have r2 : (upd H1 r (.lst [.ref scr, .int (i + 1), .int ((seed * 48271 + c + 11) % 2147483647), .int held])) r = some (.lst [.ref scr, .int (i + 1), .int ((seed * 48271 + c + 11) % 2147483647), .int held]) := upd_same
        have q2 : SqL K (upd H1 r (.lst [.ref scr, .int (i + 1), .int ((seed * 48271 + c + 11) % 2147483647), .int held])) scr (ns.map V.int) := hne _ _ q1
        have b2 : But r H (upd H1 r (.lst [.ref scr, .int (i + 1), .int ((seed * 48271 + c + 11) % 2147483647), .int held])) := b1.trans but_upd
        change tSeq _ _ _ _ (upd H1 r (.lst [.ref scr, .int (i + 1), .int ((seed * 48271 + c + 11) % 2147483647), .int held]))
        generalize upd H1 r (.lst [.ref scr, .int (i + 1), .int ((seed * 48271 + c + 11) % 2147483647), .int held]) = H2 at r2 q2 b2
        refine ⟨_, rfl, _, _, rfl, rfl, ⟨by decide, by decide, by decide⟩, _, _, rfl, rfl, _, rfl, ?_⟩
        refine ite2 (fun h3 => ?_) fun h3 => ?_
        · have h3 : (1000000000000000000 : Int) ≤ c := of_decide_eq_true h3
          refine ⟨_, rfl, _, rfl, _, _, rfl, rfl, ⟨hm0, hm1⟩, _, rfl, r, _, 3, 3, rfl, rfl, r2, rfl, ?_⟩
          refine ⟨_, rfl, .inl ⟨_, rfl, _, rfl, _, _, rfl, rfl, hm0, ?_⟩⟩
          exact q _ _ ⟨i + 1, _, c / m, upd_same, hne _ _ q2, by omega, Int.emod_nonneg _ (by decide), Int.emod_lt_of_pos _ (by decide), Int.ediv_nonneg (by omega) (Int.le_of_lt hm0), hne⟩ (b2.trans but_upd) (Int.emod_nonneg _ (by omega)) (Int.emod_lt_of_pos _ hm0)
        · refine ⟨_, rfl, .inl ⟨_, rfl, _, rfl, _, _, rfl, rfl, hm0, ?_⟩⟩
          exact q _ _ ⟨i + 1, _, held, r2, q2, by omega, Int.emod_nonneg _ (by decide), Int.emod_lt_of_pos _ (by decide), hh, hne⟩ b2 (Int.emod_nonneg _ (by omega)) (Int.emod_lt_of_pos _ hm0)
end
end KL
namespace KL
open PySem PySem.Spec PyProof.Rows L2 Pk He
def spWord2 (K : Fr) : Sp := fun vs H Q _ => ∃ (r : Addr) (m : Int), vs = [.ref r, .int m] ∧ ∃ S : Addr × List Int, RowAt K S H r ∧ 1 ≤ m ∧ m ≤ 20 ∧
  ∀ (ls : List Nat) (H2 : Hp), RowAt K S H2 r → But r H H2 → 1 ≤ ls.length → (ls.length : Int) ≤ m → ls.all isLet = true → ls.all isAz = true → Q (.str (sL ls)) H2
/-- the drawn steps stand at a -/
structure Drawn (K : Fr) (H : Hp) (a : Addr) (m c : Nat) (st : List Stp) : Prop where
  tup : ∃ as : List Addr, SqT K H a (as.map V.ref) ∧ StepsAt K H as st
  good : Goes m 0 st
  few : st.length ≤ c
  some_ : 1 ≤ c → 20 ≤ m → st ≠ []
  az : (typed st).all isAz = true
def spSteps (K : Fr) : Sp := fun vs H Q _ => ∃ (r : Addr) (c m : Nat), vs = [.ref r, .int c, .int m] ∧ ∃ S : Addr × List Int, RowAt K S H r ∧ c ≤ 30 ∧ m ≤ 1000000 ∧
  ∀ (a : Addr) (st : List Stp) (H2 : Hp), RowAt K S H2 r → But r H H2 → Drawn K H2 a m c st → Q (.ref a) H2
def spStepsI (K : Fr) : Sp := fun vs H Q _ => ∃ (r : Addr) (c m : Int), vs = [.ref r, .int c, .int m] ∧ ∃ S : Addr × List Int, RowAt K S H r ∧ 1 ≤ c ∧ c ≤ 30 ∧ 20 ≤ m ∧ m ≤ 1000000 ∧
  ∀ (a : Addr) (as : List Addr) (st : List Stp) (H2 : Hp), RowAt K S H2 r → But r H H2 → SqT K H2 a (as.map V.ref) → StepsAt K H2 as st → as.length ≤ 30 → Goes most 0 st → (st.length : Int) ≤ c → (sz st : Int) ≤ m → 0 < sz st → Q (.ref a) H2
def spStepsZ (K : Fr) : Sp := fun vs H Q _ => ∃ (r : Addr) (c m : Int), vs = [.ref r, .int c, .int m] ∧ ∃ S : Addr × List Int, RowAt K S H r ∧ 1 ≤ c ∧ c ≤ 30 ∧ 20 ≤ m ∧ m ≤ 1000000 ∧
  ∀ (a : Addr) (as : List Addr) (st : List Stp) (H2 : Hp), RowAt K S H2 r → But r H H2 → SqT K H2 a (as.map V.ref) → StepsAt K H2 as st → as.length ≤ 30 → Goes most 0 st → (st.length : Int) ≤ c → (sz st : Int) ≤ m → 0 < sz st → (typed st).all isAz = true → Q (.ref a) H2
section
variable {P : Program} {w : World} {K : Fr} {S : Addr × List Int} {mg : Str → Option Value} {base : Heap} {f : Addr} {k : Nat}
theorem scWord : FnScope ["_law_row", "_law_most", "_law_word_here", "_law_k"] ["_law_row", "_law_most"] (defScope sWord) := ⟨rfl, rfl, rfl, by decide +kernel, rfl, by decide +kernel, by decide +kernel⟩
theorem abcz_at {v : Int} (h0 : 0 ≤ v) (h1 : v < 4) : ∃ c, (Str.ofString "abcz").cps[v.toNat]? = some c ∧ isLet c = true ∧ isAz c = true := by
  have h : v = 0 ∨ v = 1 ∨ v = 2 ∨ v = 3 := by omega
  rcases h with rfl | rfl | rfl | rfl
  · exact ⟨97, by decide +kernel, rfl, rfl⟩
  · exact ⟨98, by decide +kernel, rfl, rfl⟩
  · exact ⟨99, by decide +kernel, rfl, rfl⟩
  · exact ⟨122, by decide +kernel, rfl, rfl⟩
theorem ok_word (D : Df K "_law_word" "_law_word" sWord f) (T : Tc w K mg) (GT : Kp P w K mg base 1 (ga K "_law_taken") (spTaken K)) : Kp P w K mg base 2 f (spWord2 K) := by
  refine kp_of D scWord (fun _ _ _ _ _ _ us hl => match us, hl with | [_, _], _ => rfl) ?_ (fun cdv A outer s H vs Q E hr h => ?_)
  · rintro vs H Q E ⟨r, m, rfl, _⟩
    rfl
  · obtain ⟨r, m, rfl, S, hrow, h1, h2, q⟩ := h
    refine ⟨_, (pss_cons (ps_set (i := 2) scWord.nd rfl (Or.inl rfl) pe_str) (pss_cons (ps_for PassesOwn.never rfl (pi_range1 (by rfl) T.rng (pa_cons (pe_op op_add pe_int (pk_call GT (hr.mono (by decide)) T.gTaken (pa_cons (pv 0) (pa_cons (pv 1) pa_nil)))) pa_nil)) (pg_name (i := 3) scWord.nd rfl (Or.inl rfl)) (pss_one (ps_set (i := 2) scWord.nd rfl (Or.inl rfl) (pe_op op_add_str (pv 2) (pe_item_str pe_str (pk_call GT (hr.mono (by decide)) T.gTaken (pa_cons (pv 0) (pa_cons pe_int pa_nil))) (fun _ _ => rfl)))))) (pss_one (ps_ret (pv 2))))), ?_⟩
    refine ⟨_, rfl, _, rfl, r, m, rfl, S, hrow, by omega, by omega, fun v H1 row1 b1 hv0 hv1 => ?_⟩
    refine ⟨_, _, rfl, rfl, 1 + v, rfl, by omega, by omega, ?_⟩
    refine for_range (lo := 0) (fun i σ H2 => ∃ (ls : List Nat) (v3 : Option V), σ = [some (.ref r), some (.int m), some (.str (sL ls)), v3] ∧ ls.length = i ∧ ls.all isLet = true ∧ ls.all isAz = true ∧ RowAt K S H2 r ∧ But r H H2) ⟨[], none, rfl, rfl, rfl, rfl, row1, b1⟩ ?_ ?_
    · rintro i σ H2 hi ⟨ls, v3, rfl, hl, hlet, haz, row2, b2⟩
      refine ⟨_, rfl, _, rfl, r, 4, rfl, S, row2, by decide, by decide, fun z H3 row3 b3 hz0 hz1 => ?_⟩
      obtain ⟨c, hc, hcl, hca⟩ := abcz_at hz0 hz1
      refine ⟨_, _, c, rfl, rfl, hz0, by omega, (by show z < ((Str.ofString "abcz").length : Int); exact hz1), hc, ?_⟩
      refine ⟨sL ls, ⟨#[c]⟩, rfl, rfl, ?_, ?_⟩
      · rw [sL_len, hl]
        exact Nat.le_trans (show i + 1 ≤ 100 by omega) (by decide)
      · refine ⟨ls ++ [c], some (.int (0 + (i : Int))), ?_, by simp [hl], by rw [List.all_append, hlet]; simp [hcl], by rw [List.all_append, haz]; simp [hca], row3, b2.trans b3⟩
        show ([some (.ref r), some (.int m), some (.str (sL ls ++ sL [c])), some (.int (0 + (i : Int)))] : L2.St) = _
        rw [sL_app]
    · rintro σ H2 ⟨ls, v3, rfl, hl, hlet, haz, row2, b2⟩
      exact ⟨_, rfl, q ls H2 row2 b2 (by omega) (by omega) hlet haz⟩
/-- size == 0 or a draw is 0 -/
theorem size_or {σ : L2.St} {H : Hp} {r : Addr} {z : Int} {Q : Bool → Hp → Prop} (h4 : σ[4]? = some (some (.int z))) (h0 : σ[0]? = some (some (.ref r))) (hrow : RowAt K S H r) (q1 : ∀ H3, RowAt K S H3 r → But r H H3 → Q true H3) (q2 : z ≠ 0 → ∀ H3, RowAt K S H3 r → But r H H3 → Q false H3) :
    tOr (tTest (tOp rEq (tVar 4) (tC (.int 0)))) (tTest (tOp rEq (tCl (spTaken K) (tCons (tVar 0) (tCons (tC (.int 3)) tNil))) (tC (.int 0)))) σ H Q := by
  refine ⟨_, h4, rfl, _, rfl, ?_⟩
  by_cases hz : z = 0
  · rw [decide_eq_true (by rw [hz])]
    exact iteT (q1 H hrow (But.refl _ _))
  · rw [decide_eq_false (fun e => hz (by injection e))]
    refine iteF ?_
    refine ⟨_, h0, r, 3, rfl, S, hrow, by decide, by decide, fun v H3 row3 b3 hv0 hv1 => ⟨rfl, _, rfl, ?_⟩⟩
    by_cases hv : v = 0
    · rw [decide_eq_true (by rw [hv])]
      exact q1 H3 row3 b3
    · rw [decide_eq_false (fun e => hv (by injection e))]
      exact q2 hz H3 row3 b3
theorem scSteps : FnScope ["_law_row", "_law_count", "_law_most", "_law_steps_here", "_law_size", "_law_k", "_law_word_here", "_law_first", "_law_last", "_law_times"] ["_law_row", "_law_count", "_law_most"] (defScope sSteps) := ⟨rfl, rfl, rfl, by decide +kernel, rfl, by decide +kernel, by decide +kernel⟩
theorem three_at {a b c v : Int} (h0 : 0 ≤ v) (h1 : v < 3) : ∃ x : Int, atI [V.int a, V.int b, V.int c] v = some (.int x) ∧ (x = a ∨ x = b ∨ x = c) := by
  have h : v = 0 ∨ v = 1 ∨ v = 2 := by omega
  rcases h with rfl | rfl | rfl
  · exact ⟨a, rfl, .inl rfl⟩
  · exact ⟨b, rfl, .inr (.inl rfl)⟩
  · exact ⟨c, rfl, .inr (.inr rfl)⟩
theorem two_at {a b v : Int} (h0 : 0 ≤ v) (h1 : v < 2) : ∃ x : Int, atI [V.int a, V.int b] v = some (.int x) ∧ (x = a ∨ x = b) := by
  have h : v = 0 ∨ v = 1 := by omega
  rcases h with rfl | rfl
  · exact ⟨a, rfl, .inl rfl⟩
  · exact ⟨b, rfl, .inr rfl⟩
theorem ok_steps (D : Df K "_law_steps" "_law_steps" sSteps f) (T : Tc w K mg) (GT : Kp P w K mg base 1 (ga K "_law_taken") (spTaken K)) (GWd : Kp P w K mg base 2 (ga K "_law_word") (spWord2 K)) : Kp P w K mg base 3 f (spSteps K) := by
  refine kp_of D scSteps (fun _ _ _ _ _ _ us hl => match us, hl with | [_, _, _], _ => rfl) ?_ (fun cdv A outer s H vs Q E hr h => ?_)
  · rintro vs H Q E ⟨r, c, m, rfl, _⟩
    rfl
  · obtain ⟨r, c, m, rfl, S, hrow, hc, hm, q⟩ := h
    refine ⟨_, (pss_cons (ps_par (i := 3) (j := 4) rfl scSteps.nd rfl rfl (by decide) rfl rfl (pa_cons (pe_lst pa_nil) (pa_cons pe_int pa_nil)) (by rfl)) (pss_cons (ps_for PassesOwn.never rfl (pi_range1 (by rfl) T.rng (pa_cons (pv 1) pa_nil)) (pg_name (i := 5) scSteps.nd rfl (Or.inl rfl)) (pss_one (ps_if (pw_or (pt_cmpR op_eq (pv 4) pe_int (nomark _)) (pw_or1 (pt_cmpR op_eq (pk_call GT (hr.mono (by decide)) T.gTaken (pa_cons (pv 0) (pa_cons pe_int pa_nil))) pe_int (nomark _)))).pt (pss_cons (ps_set (i := 6) scSteps.nd rfl (Or.inl rfl) (pk_call GWd (hr.mono (by decide)) T.gWord (pa_cons (pv 0) (pa_cons (pe_ix ix_list (pe_lst (pa_cons pe_int (pa_cons pe_int (pa_cons pe_int pa_nil)))) (pk_call GT (hr.mono (by decide)) T.gTaken (pa_cons (pv 0) (pa_cons pe_int pa_nil))) (fun _ _ => rfl)) pa_nil)))) (pss_one (ps_if (pt_cmpR op_le (pe_op op_add (pv 4) (pk_b1 call_len_str T.len b_len (pv 6))) (pv 2) (nomark _)) (pss_one (ps_par (i := 3) (j := 4) rfl scSteps.nd rfl rfl (by decide) rfl rfl (pa_cons (pe_op op_cat (pv 3) (pe_lst (pa_cons (pe_tup (pa_cons pe_str (pa_cons (pv 6) pa_nil))) pa_nil))) (pa_cons (pe_op op_add (pv 4) (pk_b1 call_len_str T.len b_len (pv 6))) pa_nil)) (by rfl))) pss_nil))) (pss_cons (ps_set (i := 7) scSteps.nd rfl (Or.inl rfl) (pk_call GT (hr.mono (by decide)) T.gTaken (pa_cons (pv 0) (pa_cons (pv 4) pa_nil)))) (pss_cons (ps_set (i := 8) scSteps.nd rfl (Or.inl rfl) (pe_op op_add (pv 7) (pk_call GT (hr.mono (by decide)) T.gTaken (pa_cons (pv 0) (pa_cons (pe_ix ix_list (pe_lst (pa_cons (pe_op op_sub (pv 4) (pv 7)) (pa_cons (pe_callB (call_min2 rfl) (by rfl) T.min b_min (pa_cons pe_int (pa_cons (pe_op op_sub (pv 4) (pv 7)) pa_nil))) pa_nil))) (pk_call GT (hr.mono (by decide)) T.gTaken (pa_cons (pv 0) (pa_cons pe_int pa_nil))) (fun _ _ => rfl)) pa_nil))))) (pss_cons (ps_set (i := 9) scSteps.nd rfl (Or.inl rfl) (pe_op op_add pe_int (pk_call GT (hr.mono (by decide)) T.gTaken (pa_cons (pv 0) (pa_cons (pe_ix ix_list (pe_lst (pa_cons pe_int (pa_cons pe_int (pa_cons pe_int pa_nil)))) (pk_call GT (hr.mono (by decide)) T.gTaken (pa_cons (pv 0) (pa_cons pe_int pa_nil))) (fun _ _ => rfl)) pa_nil))))) (pss_one (ps_if (pt_cmpR op_le (pe_op op_add (pv 4) (pe_op op_mul (pe_op op_add (pe_op op_sub (pv 8) (pv 7)) pe_int) (pv 9))) (pv 2) (nomark _)) (pss_one (ps_par (i := 3) (j := 4) rfl scSteps.nd rfl rfl (by decide) rfl rfl (pa_cons (pe_op op_cat (pv 3) (pe_lst (pa_cons (pe_tup (pa_cons pe_str (pa_cons (pv 7) (pa_cons (pv 8) (pa_cons (pv 9) pa_nil))))) pa_nil))) (pa_cons (pe_op op_add (pv 4) (pe_op op_mul (pe_op op_add (pe_op op_sub (pv 8) (pv 7)) pe_int) (pv 9))) pa_nil)) (by rfl))) pss_nil)))))))) (pss_one (ps_ret (pk_t1 call_tuple_of T.tup b_tuple (pv 3)))))), ?_⟩
    refine ⟨Nat.zero_le _, fun L hL => ⟨_, _, rfl, ?_⟩⟩
    have nLr := row_ne hrow hL
    refine ⟨_, rfl, (c : Int), rfl, by omega, by omega, ?_⟩
    refine for_range (lo := 0) (fun i σ H2 => ∃ (L : Addr) (as : List Addr) (st : List Stp) (v5 v6 v7 v8 v9 : Option V), σ = [some (.ref r), some (.int c), some (.int m), some (.ref L), some (.int (sz st : Nat)), v5, v6, v7, v8, v9] ∧
      RowAt K S H2 r ∧ But r H H2 ∧ H2 L = some (.lst (as.map V.ref)) ∧ L ≠ r ∧ StepsAt K H2 as st ∧ Goes m 0 st ∧ st.length ≤ i ∧ (1 ≤ i → 20 ≤ m → st ≠ []) ∧ (typed st).all isAz = true)
      ⟨L, [], [], none, none, none, none, none, rfl, hrow.upd hL, (Same.but (same_upd hL)), upd_same, nLr, StepsAt.nil, trivial, Nat.le_refl _, fun h => absurd h (by decide), rfl⟩ ?_ ?_
    · rintro i σ H2 hi ⟨L, as, st, v5, v6, v7, v8, v9, rfl, row2, b2, hL2, nLr, hst, good, hlen, hne, haz⟩
      have hi30 : i < c := hi
      have hszm : sz st ≤ m := by
        rcases Decidable.em (st = []) with e | e
        · rw [e]
          exact Nat.zero_le _
        · have := goes_sz good e
          omega
      refine size_or rfl rfl row2 (fun H3 row3 b3 => ?_) (fun hz H3 row3 b3 => ?_)
      · refine iteT ?_
        refine ⟨_, rfl, (by show 3 ≤ sizeLine; decide), fun p hp => ?_⟩
        have npr := row_ne row3 hp
        refine ⟨_, rfl, r, 3, rfl, S, row3.upd hp, by decide, by decide, fun v H4 row4 b4 hv0 hv1 => ?_⟩
        obtain ⟨x, hx, hx2⟩ := three_at (a := 2) (b := 5) (c := 20) hv0 hv1
        refine ⟨p, _, v, _, rfl, rfl, SqL.of (b4 _ _ npr upd_same), hx, r, x, rfl, S, row4, by omega, by omega, fun ls H5 row5 b5 hl1 hl2 hlet hlaz => ?_⟩
        have b25 : But r H2 H5 := b3.trans ((Same.but (same_upd hp)).trans (b4.trans b5))
        have hL5 := b25 _ _ nLr hL2
        have hst5 : StepsAt K H5 as st := steps_row row2 b25 hst
        have hls : (sL ls).length ≤ sizeLine := by
          rw [sL_len]
          exact Nat.le_trans (show ls.length ≤ 20 by omega) (by decide)
        refine ⟨_, rfl, _, rfl, _, rfl, hls, _, _, rfl, rfl, _, rfl, _, _, rfl, rfl, _, rfl, ?_⟩
        refine ite2 (fun h1 => ?_) fun h1 => ?_
        · have h1 := of_decide_eq_true h1
          rw [sL_len] at h1
          refine ⟨_, rfl, _, rfl, (by show 2 ≤ sizeLine; decide), fun t ht => ⟨(by show 1 ≤ sizeLine; decide), fun l hl => ?_⟩⟩
          have s6 : Same H5 (upd (upd H5 t (.tup [.str "write", .str (sL ls)])) l (.lst [.ref t])) := (same_upd ht).trans (same_upd hl)
          have nlt : t ≠ l := fun e => by
            rw [← e, upd_same] at hl
            cases hl
          have htt : (upd (upd H5 t (.tup [.str "write", .str (sL ls)])) l (.lst [.ref t])) t = some (.tup [.str "write", .str (sL ls)]) := by
            rw [upd_ne nlt, upd_same]
          refine ⟨L, l, _, _, rfl, rfl, s6 _ _ hL5, upd_same, ?_, fun M2 hL6 => ?_⟩
          · rw [List.length_map, hst.len]
            exact Nat.le_trans (show st.length + 1 ≤ 100 by omega) (by decide)
          · have s7 := s6.trans (same_upd (o := .lst (as.map V.ref ++ [.ref t])) hL6)
            refine ⟨_, rfl, _, rfl, _, rfl, hls, _, _, rfl, rfl, _, _, rfl, ?_⟩
            refine ⟨M2, as ++ [t], st ++ [.wr ls], some (.int (0 + (i : Int))), some (.str (sL ls)), v7, v8, v9, ?_, row5.same s7, (b2.trans b25).trans (Same.but s7), by rw [upd_same, List.map_append]; rfl, row_ne (row5.same s6) hL6, (hst5.same s7).snoc ?_, ?_, by simp; omega, fun _ _ => by simp, by rw [typed_app, List.all_append, haz]; show (true && (ls ++ []).all isAz) = true; rw [List.append_nil, hlaz]; rfl⟩
            · show ([some (.ref r), some (.int c), some (.int m), some (.ref M2), some (.int ((sz st : Int) + ((sL ls).length : Int))), some (.int (0 + (i : Int))), some (.str (sL ls)), v7, v8, v9] : L2.St) = [some (.ref r), some (.int c), some (.int m), some (.ref M2), some (.int (sz (st ++ [.wr ls]) : Nat)), _, _, _, _, _]
              rw [sL_len, sz_app, ← Int.natCast_add]
              rfl
            · exact .inl (.inl (same_upd hL6 _ _ htt))
            · refine goes_app.mpr ⟨good, ?_, ?_, trivial⟩
              · simp only [Stp.ok, Bool.and_eq_true, decide_eq_true_eq]
                exact ⟨⟨hl1, by omega⟩, hlet⟩
              · show 0 + sz st + ls.length ≤ m
                omega
        · refine ⟨L, as, st, _, _, _, _, _, rfl, row5, b2.trans b25, hL5, nLr, hst5, good, by omega, fun _ h20 => ?_, haz⟩
          intro e
          subst e
          refine h1 (decide_eq_true ?_)
          rw [sL_len]
          show ((0 : Nat) : Int) + (ls.length : Int) ≤ (m : Int)
          omega
      · refine iteF ?_
        have hz0 : 0 < sz st := by omega
        refine ⟨_, rfl, _, rfl, r, (sz st : Int), rfl, S, row3, by omega, by omega, fun v H4 row4 b4 hv0 hv1 => ?_⟩
        obtain ⟨fN, rfl⟩ := Int.eq_ofNat_of_zero_le hv0
        refine ⟨_, rfl, _, rfl, _, rfl, _, rfl, _, _, rfl, rfl, _, rfl, _, rfl, _, _, rfl, rfl, _, _, rfl, (by show 2 ≤ sizeLine; decide), fun p hp => ?_⟩
        have npr := row_ne row4 hp
        refine ⟨_, rfl, r, 2, rfl, S, row4.upd hp, by decide, by decide, fun v2 H5 row5 b5 hw0 hw1 => ?_⟩
        obtain ⟨x, hx, hx2⟩ := two_at (a := (sz st : Int) - fN) (b := if (sz st : Int) - fN < 4 then (sz st : Int) - fN else 4) hw0 hw1
        have hx3 : 1 ≤ x ∧ x ≤ (sz st : Int) - fN := by
          rcases hx2 with e | e
          · omega
          · rw [e]
            split <;> omega
        refine ⟨p, _, v2, _, rfl, rfl, SqL.of (b5 _ _ npr upd_same), hx, r, x, rfl, S, row5, by omega, by omega, fun v3 H6 row6 b6 hu0 hu1 => ?_⟩
        obtain ⟨dN, rfl⟩ := Int.eq_ofNat_of_zero_le hu0
        refine ⟨_, _, rfl, rfl, ?_⟩
        refine ⟨_, rfl, (by show 3 ≤ sizeLine; decide), fun p2 hp2 => ?_⟩
        have npr2 := row_ne row6 hp2
        refine ⟨_, rfl, r, 3, rfl, S, row6.upd hp2, by decide, by decide, fun v4 H7 row7 b7 hy0 hy1 => ?_⟩
        obtain ⟨y, hy, hy2⟩ := three_at (a := 1) (b := 3) (c := 9) hy0 hy1
        refine ⟨p2, _, v4, _, rfl, rfl, SqL.of (b7 _ _ npr2 upd_same), hy, r, y, rfl, S, row7, by omega, by omega, fun v5 H8 row8 b8 ht0 ht1 => ?_⟩
        obtain ⟨tN, rfl⟩ := Int.eq_ofNat_of_zero_le ht0
        have b28 : But r H2 H8 := b3.trans (b4.trans ((Same.but (same_upd hp)).trans (b5.trans (b6.trans ((Same.but (same_upd hp2)).trans (b7.trans b8))))))
        have hL8 := b28 _ _ nLr hL2
        have hst8 : StepsAt K H8 as st := steps_row row2 b28 hst
        refine ⟨_, _, rfl, rfl, ?_⟩
        have ew : ((fN : Int) + (dN : Int) - (fN : Int) + 1) * (1 + (tN : Int)) = (((fN + dN + 1 - fN) * (1 + tN) : Nat) : Int) := by
          rw [show ((fN : Int) + (dN : Int) - (fN : Int) + 1) = ((fN + dN + 1 - fN : Nat) : Int) by omega, show (1 + (tN : Int)) = ((1 + tN : Nat) : Int) by omega, ← Int.natCast_mul]
        refine ⟨_, rfl, _, rfl, _, rfl, _, _, rfl, rfl, _, _, rfl, rfl, _, rfl, _, _, rfl, rfl, .inr ⟨by omega, by omega⟩, _, _, rfl, rfl, _, rfl, _, _, rfl, rfl, _, rfl, ?_⟩
        refine ite2 (fun h1 => ?_) fun h1 => ?_
        · have h1 := of_decide_eq_true h1
          have h1 : (sz st : Int) + ((fN : Int) + (dN : Int) - (fN : Int) + 1) * (1 + (tN : Int)) ≤ (m : Int) := h1
          rw [ew] at h1
          refine ⟨_, rfl, _, rfl, _, rfl, _, rfl, (by show 4 ≤ sizeLine; decide), fun t ht => ⟨(by show 1 ≤ sizeLine; decide), fun l hl => ?_⟩⟩
          have nlt : t ≠ l := fun e => by
            rw [← e, upd_same] at hl
            cases hl
          have s9 := (same_upd ht).trans (same_upd (o := .lst [.ref t]) hl)
          refine ⟨L, l, _, _, rfl, rfl, s9 _ _ hL8, upd_same, ?_, fun M2 hM => ?_⟩
          · rw [List.length_map, hst.len]
            exact Nat.le_trans (show st.length + 1 ≤ 100 by omega) (by decide)
          · have s10 := s9.trans (same_upd (o := .lst (as.map V.ref ++ [.ref t])) hM)
            refine ⟨_, rfl, _, rfl, _, rfl, _, _, rfl, rfl, _, _, rfl, rfl, _, rfl, _, _, rfl, rfl, .inr ⟨by omega, by omega⟩, _, _, rfl, rfl, _, _, rfl, ?_⟩
            refine ⟨M2, as ++ [t], st ++ [.pa fN (fN + dN) (1 + tN)], some (.int (0 + (i : Int))), v6, some (.int fN), some (.int ((fN : Int) + dN)), some (.int (1 + (tN : Int))), ?_, row8.same s10, (b2.trans b28).trans (Same.but s10), by rw [upd_same, List.map_append]; rfl, row_ne (row8.same s9) hM, (hst8.same s10).snoc ?_, ?_, by simp; omega, fun _ _ => by simp, by rw [typed_app, List.all_append, haz]; rfl⟩
            · show ([some (.ref r), some (.int c), some (.int m), some (.ref M2), some (.int ((sz st : Int) + ((fN : Int) + (dN : Int) - (fN : Int) + 1) * (1 + (tN : Int)))), _, _, _, _, _] : L2.St) = [some (.ref r), some (.int c), some (.int m), some (.ref M2), some (.int (sz (st ++ [.pa fN (fN + dN) (1 + tN)]) : Nat)), _, _, _, _, _]
              rw [ew, sz_app, ← Int.natCast_add]
              rfl
            · refine .inl (.inl (same_upd hM _ _ ?_))
              rw [upd_ne nlt, upd_same]
              rfl
            · refine goes_app.mpr ⟨good, ?_, ?_, trivial⟩
              · simp only [Stp.ok, Bool.and_eq_true, decide_eq_true_eq]
                omega
              · show 0 + sz st + (fN + dN + 1 - fN) * (1 + tN) ≤ m
                omega
        · refine ⟨L, as, st, some (.int (0 + (i : Int))), v6, some (.int fN), some (.int ((fN : Int) + dN)), some (.int (1 + (tN : Int))), rfl, row8, b2.trans b28, hL8, nLr, hst8, good, by omega, fun _ _ e => ?_, haz⟩
          rw [e] at hz0
          exact absurd hz0 (Nat.lt_irrefl _)
    · rintro σ H2 ⟨L, as, st, v5, v6, v7, v8, v9, rfl, row2, b2, hL2, nLr, hst, good, hlen, hne, haz⟩
      refine ⟨_, rfl, L, _, rfl, .inl ⟨SqL.of hL2, fun p hp => ?_⟩⟩
      exact q p st _ (row2.upd hp) (b2.trans (Same.but (same_upd hp))) ⟨⟨as, .inl (.inl upd_same), hst.same (same_upd hp)⟩, good, hlen, hne, haz⟩
theorem stepsI (G : Kp P w K mg base k f (spSteps K)) : Kp P w K mg base k f (spStepsI K) := by
  refine Kp.sub G fun vs H Q E h => ?_
  obtain ⟨r, c, m, rfl, S, row, h1, h2, h3, h4, q⟩ := h
  refine ⟨r, c.toNat, m.toNat, by rw [Int.toNat_of_nonneg (by omega), Int.toNat_of_nonneg (by omega)], S, row, by omega, by omega, fun a st H2 row2 b2 d => ?_⟩
  obtain ⟨⟨as, ht, hst⟩, good, few, some_⟩ := d
  have hne := some_ (by omega) (by omega)
  have hmo : m.toNat ≤ most := by
    have hmost : most = 1000000000000000000 := rfl
    omega
  have g2 := goes_mono hmo good
  have hz := goes_sz good hne
  rw [Nat.zero_add] at hz
  exact q a as st H2 row2 b2 ht hst (by rw [hst.len]; omega) g2 (by omega) (by omega) (sz_pos g2 hne)
theorem stepsZ (G : Kp P w K mg base k f (spSteps K)) : Kp P w K mg base k f (spStepsZ K) := by
  refine Kp.sub G fun vs H Q E h => ?_
  obtain ⟨r, c, m, rfl, S, row, h1, h2, h3, h4, q⟩ := h
  refine ⟨r, c.toNat, m.toNat, by rw [Int.toNat_of_nonneg (by omega), Int.toNat_of_nonneg (by omega)], S, row, by omega, by omega, fun a st H2 row2 b2 d => ?_⟩
  obtain ⟨⟨as, ht, hst⟩, good, few, some_, haz⟩ := d
  have hne := some_ (by omega) (by omega)
  have hmo : m.toNat ≤ most := by
    have hmost : most = 1000000000000000000 := rfl
    omega
  have g2 := goes_mono hmo good
  have hz := goes_sz good hne
  rw [Nat.zero_add] at hz
  exact q a as st H2 row2 b2 ht hst (by rw [hst.len]; omega) g2 (by omega) (by omega) (sz_pos g2 hne) haz
end
end KL
namespace KL
open PySem PySem.Spec PyProof.Rows L2 Pk He
def spLong (K : Fr) : Sp := fun vs H Q _ => ∃ (r : Addr), vs = [.ref r] ∧ ∃ S : Addr × List Int, RowAt K S H r ∧ ∀ (x : Addr) (st : List Stp) (H2 : Hp), RowAt K S H2 r → But r H H2 → TA_ K H2 x st → st.length ≤ 15 → sz st ≤ 100000000000000200 → 0 < sz st → (typed st).all isAz = true → Q (.ref x) H2
section
variable {P : Program} {w : World} {K : Fr} {mg : Str → Option Value} {base : Heap} {f : Addr}
-- hint: [10, 1000, 10 ** 6][_law_taken(_law_row, 3)] => (ixS K)
theorem ok_law_long (D : Df K "_law_long" "_law_long" s_law_long (ga K "_law_long")) (T : Tc w K mg) (G_law_taken : Kp P w K mg base 1 (ga K "_law_taken") (spTaken K)) (G_law_steps : Kp P w K mg base 3 (ga K "_law_steps") (spSteps K)) (G_Text_of_steps : Kp P w K mg base 7 (He5.wf K (CT K) "classmethod" "of_steps") (spOf K)) (G_Text_add : Kp P w K mg base 7 (ma K (CT K) "__add__") (spAdd K)) (G_Text_mul : Kp P w K mg base 7 (ma K (CT K) "__mul__") (spMul K)) (G_Text_size : Kp P w K mg base 1 (pgA K (CT K) "size") (spSize K)) : Kp P w K mg base 12 (ga K "_law_long") (spLong K) := by
  have G_law_steps := stepsZ G_law_steps
  have G_Text_mul := mulI G_Text_mul
  refine kp_of D sc_law_long (fun _ _ _ _ _ _ us hl => match us, hl with | [_], _ => rfl) ?_ (fun cdv A outer s H vs Q E hr h => ?_)
  · rintro vs H Q E ⟨r, rfl, _⟩
    rfl
  · obtain ⟨r, rfl, S, row, q⟩ := h
    have h106 : (10 : Int) ^ (Int.toNat 6) = 1000000 := by decide
    have h1017 : (10 : Int) ^ (Int.toNat 17) = 100000000000000000 := by decide
    have hmost : most = 1000000000000000000 := rfl
    refine ⟨_, (pss_cons (ps_set (i := 1) sc_law_long.nd rfl (Or.inl rfl) (ClX.pe_cmeth (pe_gR T.gText) T.rd T.cmOf G_Text_of_steps.fnR (hr.mono (by omega)) pass0 (pa_cons (pk_t1 (listK K) T.lst b_list (pk_call G_law_steps (hr.mono (by omega)) T.gSteps (pa_cons (pv 0) (pa_cons (pe_op ((addA K).or (op_own T.oAdd T.first G_Text_add.fnR (hr.mono (by omega)) pass0)) pe_int (pk_call G_law_taken (hr.mono (by omega)) T.gTaken (pa_cons (pv 0) (pa_cons pe_int pa_nil)))) (pa_cons pe_int pa_nil))))) pa_nil))) (pss_cons (ps_for PassesOwn.never rfl (pi_range1 (by rfl) T.rng (pa_cons (pe_op ((addA K).or (op_own T.oAdd T.first G_Text_add.fnR (hr.mono (by omega)) pass0)) pe_int (pk_call G_law_taken (hr.mono (by omega)) T.gTaken (pa_cons (pv 0) (pa_cons pe_int pa_nil)))) pa_nil)) (pg_name (i := 2) sc_law_long.nd rfl (Or.inl rfl)) (pss_cons (ps_set (i := 3) sc_law_long.nd rfl (Or.inl rfl) (pe_op ((addA K).or (op_own T.oAdd T.first G_Text_add.fnR (hr.mono (by omega)) pass0)) pe_int (pk_call G_law_taken (hr.mono (by omega)) T.gTaken (pa_cons (pv 0) (pa_cons (pe_ix (ixS K) (pe_lst (pa_cons pe_int (pa_cons pe_int (pa_cons (pe_op op_pow pe_int pe_int) pa_nil)))) (pk_call G_law_taken (hr.mono (by omega)) T.gTaken (pa_cons (pv 0) (pa_cons pe_int pa_nil))) (fun _ _ => rfl)) pa_nil))))) (pss_one (ps_if (pt_cmpR op_lt (pe_op (mulB.or (op_ownI T.oMul T.tMul G_Text_mul.fnR (hr.mono (by omega)) pass0)) (pk_prop (pv 1) T.clT T.pSize G_Text_size (hr.mono (by omega))) (pv 3)) (pe_op op_pow pe_int pe_int) (nomark _)) (pss_one (ps_set (i := 1) sc_law_long.nd rfl (Or.inl rfl) (pe_op ((addA K).or (op_own T.oAdd T.first G_Text_add.fnR (hr.mono (by omega)) pass0)) (pe_op (mulB.or (op_ownI T.oMul T.tMul G_Text_mul.fnR (hr.mono (by omega)) pass0)) (pv 1) (pv 3)) (ClX.pe_cmeth (pe_gR T.gText) T.rd T.cmOf G_Text_of_steps.fnR (hr.mono (by omega)) pass0 (pa_cons (pk_t1 (listK K) T.lst b_list (pk_call G_law_steps (hr.mono (by omega)) T.gSteps (pa_cons (pv 0) (pa_cons pe_int (pa_cons pe_int pa_nil))))) pa_nil))))) pss_nil)))) (pss_one (ps_ret (pv 1))))), ?_⟩
    refine ⟨rfl, _, rfl, _, rfl, _, _, rfl, _, row, (by omega), (by omega), fun v H2 row1 b h h1 => ?_⟩
    refine (.inl (.inl ⟨_, _, rfl, rfl, _, _, _, rfl, _, row1, (by omega), (by omega), (by omega), (by omega), fun a as st H21 row2 b1 h2 h3 h4 h5 h6 h7 h8 e => ?_⟩))
    refine ⟨_, _, rfl, (.inr h2), fun l n => ?_⟩
    have ne_l := row_ne row2 n
    generalize hE : upd H21 l _ = H1
    have s1 : Same H21 H1 := hE ▸ same_upd n
    have e_l := (congrFun hE l).symm.trans upd_same
    clear hE
    refine ⟨_, _, _, rfl, e_l, (StepsAt.same h3 s1), h5, (by omega), fun x H22 n1 s2 t => ?_⟩
    have ne_x := row_ne (RowAt.same row2 s1) n1
    obtain ⟨dx_x, ts_x, sp_x, as_x, ss_x, hx_x, hts_x, hst_x, hsp_x, hss_x⟩ := t.obj
    have hty_x := typed_small t
    have hnk_x := text_nk t
    have hg_x := t.good
    have nr_x := text_ne (RowAt.same row2 (s1.trans s2)) t
    refine ⟨_, rfl, _, _, rfl, _, (RowAt.same row2 (s1.trans s2)), (by omega), (by omega), fun v1 H23 row3 b2 h9 h10 => ?_⟩
    refine (.inl (.inl ⟨_, _, rfl, rfl, _, rfl, (by omega), (by omega), ?_⟩))
    have hb0 : But r H H23 := by
      exact ((((b.trans b1).trans (Same.but s1)).trans (Same.but s2)).trans b2)
    have ht0 : TA_ K H23 x st := by
      exact (text_row (RowAt.same row2 (s1.trans s2)) b2 t)
    refine for_range (lo := 0) (n := (1 + v1).toNat) (fun i σ HB => ∃ (z : Addr) (st' : List Stp) (v2 v3 : Option V), σ = [some (.ref r), some (.ref z), v2, v3] ∧ RowAt K S HB r ∧ But r H HB ∧ TA_ K HB z st' ∧ st'.length ≤ 6 + 3 * i ∧ sz st' ≤ 100000000000000040 ∧ 0 < sz st' ∧ (typed st').all isAz = true) ⟨x, st, none, none, rfl, row3, hb0, ht0, by omega, by omega, by omega, by assumption⟩ ?_ ?_
    · rintro i σ HB hi ⟨z, st', v2, v3, rfl, rowB, bB, tB, hl, hz, hp, haz⟩
      clear q
      obtain ⟨dx_z, ts_z, sp_z, as_z, ss_z, hx_z, hts_z, hst_z, hsp_z, hss_z⟩ := tB.obj
      have hty_z := typed_small tB
      have hnk_z := text_nk tB
      have hg_z := tB.good
      have nr_z := text_ne rowB tB
      refine ⟨_, rfl, _, _, rfl, rfl, ⟨(by omega), ⟨(by omega), (by omega)⟩⟩, (by (show 3 ≤ _; decide)), fun p n2 => ?_⟩
      have ne_p := row_ne rowB n2
      generalize hE : upd HB p _ = H11
      have s3 : Same HB H11 := hE ▸ same_upd n2
      have e_p := (congrFun hE p).symm.trans upd_same
      clear hE
      refine ⟨_, rfl, _, _, rfl, _, (RowAt.same rowB s3), (by omega), (by omega), fun v4 H24 row4 b3 h11 h12 => ?_⟩
      obtain ⟨m, hm, hmc⟩ := three_at (a := 10) (b := 1000) (c := 10 ^ (Int.toNat 6)) h11 h12
      have hm0 : 0 < m := by omega
      have hm1 : m ≤ 1000000 := by omega
      clear hmc
      refine (.inl ⟨_, _, _, _, rfl, rfl, (SqL.of (b3 _ _ ne_p e_p)), hm, _, _, rfl, _, row4, (by omega), (by omega), fun v5 H25 row5 b4 h13 h14 => ?_⟩)
      refine (.inl (.inl ⟨_, _, rfl, rfl, _, rfl, _, _, _, rfl, (b4 _ _ nr_z (b3 _ _ nr_z (s3 _ _ hx_z))), _, _, rfl, (text_row rowB (((Same.but s3).trans b3).trans b4) tB), _, rfl, (.inl (.inl ⟨_, _, rfl, rfl, (by exact .inl ⟨by omega, by omega⟩), _, _, rfl, rfl, ⟨(by omega), ⟨(by omega), (by omega)⟩⟩, _, _, rfl, rfl, _, rfl, ?_⟩))⟩))
      generalize hσ : List.set _ _ _ = σ1
      simp only [L2.start, List.set_cons_zero, List.set_cons_succ, List.map_cons, List.map_nil, List.length_cons, List.length_nil, List.replicate_succ, List.replicate_zero, List.cons_append, List.nil_append, Nat.reduceAdd, Nat.reduceSub] at hσ
      subst hσ
      refine iB (fun hlt => ?_) fun hge => ?_
      · have hcomm : (1 + v5) * (sz st' : Int) = (sz st' : Int) * (1 + v5) := Int.mul_comm _ _
        have hszT : (sz (timesA st' (1 + v5).toNat) : Int) = (1 + v5) * (sz st' : Int) := by rw [sz_timesA hg_z (by omega), Int.natCast_mul, Int.toNat_of_nonneg (by omega)]
        have hltm := len_times st' (1 + v5).toNat
        have hle : 1 * (sz st' : Int) ≤ (1 + v5) * (sz st' : Int) := Int.mul_le_mul_of_nonneg_right (by omega) (by omega)
        refine ⟨_, rfl, _, rfl, (.inr ⟨_, _, _, _, rfl, rfl, (b4 _ _ nr_z (b3 _ _ nr_z (s3 _ _ hx_z))), _, _, _, rfl, (by omega), (by omega), (text_row rowB (((Same.but s3).trans b3).trans b4) tB), (by omega), (by omega), fun z1 H26 s4 t1 => ?_⟩)⟩
        obtain ⟨dx_z1, ts_z1, sp_z1, as_z1, ss_z1, hx_z1, hts_z1, hst_z1, hsp_z1, hss_z1⟩ := t1.obj
        have hty_z1 := typed_small t1
        have hnk_z1 := text_nk t1
        have hg_z1 := t1.good
        have nr_z1 := text_ne (RowAt.same row5 s4) t1
        refine ⟨rfl, _, rfl, _, _, _, rfl, _, (RowAt.same row5 s4), (by omega), (by omega), (by omega), (by omega), fun a1 as1 st1 H27 row6 b5 h15 h16 h17 h18 h19 h20 h21 e1 => ?_⟩
        refine ⟨_, _, rfl, (.inr h15), fun l1 n3 => ?_⟩
        have ne_l1 := row_ne row6 n3
        generalize hE : upd H27 l1 _ = H12
        have s5 : Same H27 H12 := hE ▸ same_upd n3
        have e_l1 := (congrFun hE l1).symm.trans upd_same
        clear hE
        refine ⟨_, _, _, rfl, e_l1, (StepsAt.same h16 s5), h18, (by omega), fun x1 H28 n4 s6 t2 => ?_⟩
        have ne_x1 := row_ne (RowAt.same row6 s5) n4
        obtain ⟨dx_x1, ts_x1, sp_x1, as_x1, ss_x1, hx_x1, hts_x1, hst_x1, hsp_x1, hss_x1⟩ := t2.obj
        have hty_x1 := typed_small t2
        have hnk_x1 := text_nk t2
        have hg_x1 := t2.good
        have nr_x1 := text_ne (RowAt.same row6 (s5.trans s6)) t2
        refine (.inr ⟨_, _, _, _, _, _, rfl, rfl, (s6 _ _ (s5 _ _ (b5 _ _ nr_z1 hx_z1))), hx_x1, _, _, _, _, rfl, (text_row (RowAt.same row5 s4) ((b5.trans (Same.but s5)).trans (Same.but s6)) t1), t2, (by omega), (by omega), fun z2 H29 n5 s7 t3 => ?_⟩)
        have ne_z2 := row_ne (RowAt.same row6 (s5.trans s6)) n5
        obtain ⟨dx_z2, ts_z2, sp_z2, as_z2, ss_z2, hx_z2, hts_z2, hst_z2, hsp_z2, hss_z2⟩ := t3.obj
        have hty_z2 := typed_small t3
        have hnk_z2 := text_nk t3
        have hg_z2 := t3.good
        have nr_z2 := text_ne (RowAt.same row6 ((s5.trans s6).trans s7)) t3
        refine ⟨_, _, _, _, rfl, (RowAt.same row6 ((s5.trans s6).trans s7)), ((((((((bB.trans (Same.but s3)).trans b3).trans b4).trans (Same.but s4)).trans b5).trans (Same.but s5)).trans (Same.but s6)).trans (Same.but s7)), t3, ?_, ?_, ?_, ?_⟩
        rotate_left 3
        all_goals
          have hsp1 := sz_plus (timesA st' (1 + v5).toNat) st1
          have hlp1 := len_plus (timesA st' (1 + v5).toNat) st1
          first
            | omega
            | (rw [typed_plus, List.all_append, typed_times, haz, Bool.true_and]; assumption)
      · refine ⟨_, _, _, _, rfl, row5, (((bB.trans (Same.but s3)).trans b3).trans b4), (text_row rowB (((Same.but s3).trans b3).trans b4) tB), (by omega), (by omega), (by omega), ?_⟩
        exact haz
    · rintro σ HB ⟨z, st', v2, v3, rfl, rowB, bB, tB, hl, hz, hp, haz⟩
      obtain ⟨dx_z, ts_z, sp_z, as_z, ss_z, hx_z, hts_z, hst_z, hsp_z, hss_z⟩ := tB.obj
      have hty_z := typed_small tB
      have hnk_z := text_nk tB
      have hg_z := tB.good
      have nr_z := text_ne rowB tB
      refine ⟨_, rfl, ?_⟩
      exact q _ _ _ rowB bB tB (by omega) (by omega) (by omega) haz
end
end KL
namespace KL
open PySem PySem.Spec PyProof.Rows L2 Pk He
theorem take_plus1 {a : List Stp} (ha : Goes most 0 a) (b : List Stp) {p : Nat} (h : p ≤ sz a) : (ex (plus a b)).take p = (ex a).take p := by
  rw [ex_plus ha, List.take_append_of_le_length (by rw [ex_len a ha]; exact h)]
theorem take_plus2 {a : List Stp} (ha : Goes most 0 a) (b : List Stp) (q : Nat) : (ex (plus a b)).take (sz a + q) = ex a ++ ((ex b).take q).map (nk a + ·) := by
  rw [ex_plus ha, ← ex_len a ha, List.take_length_add_append, List.map_take]
theorem count_hi {a b : List Nat} {n k : Nat} (h : k < n) : (b.map (n + ·)).count k = 0 := by
  refine List.count_eq_zero_of_not_mem fun z => ?_
  obtain ⟨x, _, e⟩ := List.mem_map.mp z
  omega
theorem count_lo {a : List Stp} {j : Nat} {l : List Nat} (h : ∀ x ∈ l, x < nk a) : l.count (nk a + j) = 0 := by
  refine List.count_eq_zero_of_not_mem fun z => ?_
  have := h _ z
  omega
theorem count_add (n j : Nat) : ∀ l : List Nat, (l.map (n + ·)).count (n + j) = l.count j
  | [] => rfl
  | x :: r => by
    rw [List.map_cons, List.count_cons, List.count_cons, count_add n j r]
    congr 1
    by_cases e : x = j
    · simp [e]
    · simp [e]
theorem cnt_plus1 {a : List Stp} (ha : Goes most 0 a) (b : List Stp) {k : Nat} (hk : k < nk a) {p : Nat} (h : p ≤ sz a) : cnt (plus a b) k p = cnt a k p := by
  unfold Pk.cnt
  rw [take_plus1 ha b h]
theorem cnt_plus1a {a : List Stp} (ha : Goes most 0 a) (b : List Stp) {k : Nat} (hk : k < nk a) (q : Nat) : cnt (plus a b) k (sz a + q) = cnt a k (sz a) := by
  unfold Pk.cnt
  rw [take_plus2 ha, List.count_append, count_hi (a := []) hk, List.take_of_length_le (by rw [ex_len a ha]; exact Nat.le_refl _)]
  rfl
theorem cnt_plus2 {a : List Stp} (ha : Goes most 0 a) (b : List Stp) (j : Nat) {p : Nat} (h : p ≤ sz a) : cnt (plus a b) (nk a + j) p = 0 := by
  unfold Pk.cnt
  rw [take_plus1 ha b h]
  exact count_lo fun x hx => ex_lt a x (List.mem_of_mem_take hx)
theorem cnt_plus2a {a : List Stp} (ha : Goes most 0 a) (b : List Stp) (j q : Nat) : cnt (plus a b) (nk a + j) (sz a + q) = cnt b j q := by
  unfold Pk.cnt
  rw [take_plus2 ha, List.count_append, count_add, count_lo (fun x hx => ex_lt a x hx), Nat.zero_add]
theorem cV_split (n m : Nat) (g : Nat → Int) : cV (n + m) g = cV n g ++ cV m fun j => g (n + j) := by
  unfold cV
  rw [List.range_add, List.map_append, List.map_map]
  rfl
theorem counts_plus {a : List Stp} (ha : Goes most 0 a) (b : List Stp) {low high : Nat} (h1 : low ≤ sz a) :
    (cV (nk (plus a b)) fun k => (cnt (plus a b) k (sz a + high) : Int) - (cnt (plus a b) k low : Int)) = (cV (nk a) fun k => (cnt a k (sz a) : Int) - (cnt a k low : Int)) ++ cV (nk b) fun k => (cnt b k high : Int) - (cnt b k 0 : Int) := by
  rw [nk_plus, cV_split]
  congr 1
  · refine cV_congr fun k hk => ?_
    rw [cnt_plus1a ha b hk, cnt_plus1 ha b hk h1]
  · refine cV_congr fun k hk => ?_
    rw [cnt_plus2a ha b, cnt_plus2 ha b k h1]
    rfl
theorem counts_plusI {a : List Stp} (ha : Goes most 0 a) (b : List Stp) {v v1 : Int} (h0 : 0 ≤ v) (h1 : v ≤ (sz a : Nat)) (h2 : 0 ≤ v1) :
    (cV (nk (plus a b)) fun k => (cnt (plus a b) k ((sz a : Int) + v1 - 1 + 1).toNat : Int) - (cnt (plus a b) k v.toNat : Int)) = (cV (nk a) fun k => (cnt a k ((sz a : Int) - 1 + 1).toNat : Int) - (cnt a k v.toNat : Int)) ++ cV (nk b) fun k => (cnt b k (v1 - 1 + 1).toNat : Int) - (cnt b k (Int.toNat 0) : Int) := by
  rw [show ((sz a : Int) + v1 - 1 + 1).toNat = sz a + v1.toNat by omega, show ((sz a : Int) - 1 + 1).toNat = sz a by omega, show (v1 - 1 + 1).toNat = v1.toNat by omega]
  exact counts_plus ha b (by omega)
theorem counts_times {a : List Stp} (ha : Goes most 0 a) {n : Int} (hn : 1 ≤ n) :
    (cV (nk (timesA a n.toNat)) fun k => (cnt (timesA a n.toNat) k ((sz (timesA a n.toNat) : Int) - 1 + 1).toNat : Int) - (cnt (timesA a n.toNat) k (Int.toNat 0) : Int)) = cV (nk a) fun k => n * ((cnt a k ((sz a : Int) - 1 + 1).toNat : Int) - (cnt a k (Int.toNat 0) : Int)) := by
  rw [nk_times]
  refine cV_congr fun k hk => ?_
  rw [show ((sz (timesA a n.toNat) : Int) - 1 + 1).toNat = sz (timesA a n.toNat) by omega, show ((sz a : Int) - 1 + 1).toNat = sz a by omega]
  have e1 : cnt (timesA a n.toNat) k (Int.toNat 0) = 0 := rfl
  have e2 : cnt a k (Int.toNat 0) = 0 := rfl
  have gl := ex_len a ha
  have e3 : cnt (timesA a n.toNat) k (sz (timesA a n.toNat)) = n.toNat * cnt a k (sz a) := by
    unfold Pk.cnt
    rw [ex_times ha (by omega), sz_timesA ha (by omega), List.take_of_length_le (by simp [gl]), List.take_of_length_le (by omega), rep_count]
  rw [e1, e2, e3, Int.natCast_mul, Int.toNat_of_nonneg (by omega)]
  show _ - 0 = _ * (_ - 0)
  rw [Int.sub_zero, Int.sub_zero]
theorem at_times {a : List Stp} (ha : Goes most 0 a) {n j : Nat} (hn : 1 ≤ n) (hj : j < sz a * n) : (ex (timesA a n))[j]? = (ex a)[j % sz a]? := by
  have hl := ex_len a ha
  rw [ex_times ha hn]
  have := rep_at (ex a) n j (by rw [hl]; exact hj)
  rw [this, hl]
theorem at_plus {a : List Stp} (ha : Goes most 0 a) (b : List Stp) {j : Nat} (hj : j < sz a) : (ex (plus a b))[j]? = (ex a)[j]? := by
  rw [ex_plus ha, List.getElem?_append_left (by rw [ex_len a ha]; exact hj)]
end KL
namespace KL
open PySem PySem.Spec PyProof.Rows L2 Pk He
theorem RowAt.farC {K : Fr} {S : Addr × List Int} {H0 H H2 : Hp} {r D : Addr} (h0 : RowAt K S H0 r) (hD : H0 D = none) (b : But D H H2) (h : RowAt K S H r) : RowAt K S H2 r := by
  have n := row_ne h0 hD
  obtain ⟨_, _, _, _, g0, _⟩ := h0
  obtain ⟨i, sd, hd, h1, h2, h3⟩ := h
  refine ⟨i, sd, hd, b _ _ n.symm h1, ?_, h3⟩
  have key : S.1 ≠ D → SqL K H2 S.1 (S.2.map V.int) := fun ne => by
    rcases h2 with (z | ⟨u, z⟩) | z
    · exact .inl (.inl (b _ _ ne z))
    · exact .inl (.inr ⟨u, b _ _ ne z⟩)
    · exact .inr z
  rcases g0 with (g | ⟨u, g⟩) | g
  · exact key (ne_of_none g hD)
  · exact key (ne_of_none g hD)
  · exact .inr g
structure WsAt (K : Fr) (S : Addr × List Int) (r D : Addr) (H0 : Hp) (i : Nat) (H : Hp) : Prop where
  row : RowAt K S H r
  but : But r H0 H
  obj : ∃ (as : List Addr) (ws : List (List Nat)), H D = some (.lst (as.map V.ref)) ∧ StepsAt K H as (ws.map Stp.wr) ∧ ws.length = i ∧ ∀ w ∈ ws, (Stp.wr w).ok 0 = true
theorem goes_wr : ∀ {ws : List (List Nat)} {s : Nat}, (∀ w ∈ ws, (Stp.wr w).ok 0 = true) → s + 20 * ws.length ≤ most → Goes most s (ws.map Stp.wr)
  | [], s, _, _ => trivial
  | w :: r, s, h, hs => by
    have h1 := h w (List.mem_cons_self ..)
    have h2 := h1
    simp only [Stp.ok, Bool.and_eq_true, decide_eq_true_eq] at h2
    rw [List.length_cons] at hs
    refine ⟨h1, ?_, goes_wr (fun w hw => h w (List.mem_cons_of_mem _ hw)) ?_⟩
    · show s + w.length ≤ most
      omega
    · show s + w.length + 20 * r.length ≤ most
      omega
theorem sz_wr : ∀ {ws : List (List Nat)}, (∀ w ∈ ws, (Stp.wr w).ok 0 = true) → ws.length ≤ sz (ws.map Stp.wr) ∧ sz (ws.map Stp.wr) ≤ 20 * ws.length
  | [], _ => ⟨Nat.le_refl _, Nat.le_refl _⟩
  | w :: r, h => by
    have h1 := h w (List.mem_cons_self ..)
    simp only [Stp.ok, Bool.and_eq_true, decide_eq_true_eq] at h1
    have h2 := sz_wr (ws := r) fun w hw => h w (List.mem_cons_of_mem _ hw)
    rw [List.map_cons, sz_cons, List.length_cons]
    show r.length + 1 ≤ w.length + _ ∧ w.length + _ ≤ _
    omega
theorem encB_len3 (st : List Stp) : (encB st).length = (st.flatMap encS).length + 3 := by
  unfold encB encH
  rw [List.length_append]
  rfl
theorem encB_le {st : List Stp} (good : Goes most 0 st) (few : st.length ≤ 30) : (encB st).length ≤ 100000 := by
  have h8 := encF_len good few st.length
  rw [List.take_length] at h8
  rw [encB_len3]
  omega
theorem encB_app (a b : List Stp) : (encB (a ++ b)).length + 3 = (encB a).length + (encB b).length := by
  rw [encB_len3, encB_len3, encB_len3, List.flatMap_append, List.length_append]
  omega
theorem cut_24 (w0 : List Nat) (r0 : List Stp) : cutV (nV (encB (Stp.wr w0 :: r0))) (some 2) (some 4) = [V.int 0, V.int (w0.length : Nat)] := by
  have h1 : nV (encB (Stp.wr w0 :: r0)) = V.int (80 : Nat) :: V.int ((r0.length + 1 : Nat)) :: V.int (0 : Nat) :: V.int (w0.length : Nat) :: nV ((w0.map (· - 97) ++ r0.flatMap encS) ++ [chk (encH (Stp.wr w0 :: r0))]) := rfl
  rw [h1]
  generalize nV _ = rest
  unfold cutV
  rw [show (some (2 : Int)) = some ((2 : Nat) : Int) from rfl, show (some (4 : Int)) = some ((4 : Nat) : Int) from rfl, HT.sIx_nat, HT.sIx_nat]
  simp only [List.length_cons]
  rw [Nat.min_eq_left (by omega), Nat.min_eq_left (by omega)]
  rfl
theorem plus_wr (a : List Stp) (ws : List (List Nat)) : plus a (ws.map Stp.wr) = a ++ ws.map Stp.wr := by
  unfold plus
  rw [List.map_map]
  rfl
theorem joinL_app {c : Nat} {b : List (List Nat)} (hb : b ≠ []) : ∀ {a : List (List Nat)}, a ≠ [] → TL.joinL [c] (a ++ b) = TL.joinL [c] a ++ c :: TL.joinL [c] b
  | [], h => absurd rfl h
  | [x], _ => by
    match b, hb with
    | y :: r, _ => rfl
  | x :: y :: r, _ => by
    have := joinL_app (c := c) hb (a := y :: r) (by simp)
    show x ++ ([c] ++ TL.joinL [c] ((y :: r) ++ b)) = (x ++ ([c] ++ TL.joinL [c] (y :: r))) ++ _
    rw [this]
    simp
theorem rows_app {a b : List Stp} (ha : a ≠ []) (hb : b ≠ []) : rowsT (a ++ b) = rowsT a ++ Str.ofString "\n" ++ rowsT b := by
  unfold rowsT
  rw [nl_sL, sL_app, sL_app]
  refine congrArg sL ?_
  unfold rowsL
  rw [List.map_append, joinL_app (by simpa using hb) (by simpa using ha)]
  simp
section
variable {P : Program} {w : World} {K : Fr} {mg : Str → Option Value} {base : Heap} {f : Addr}
theorem ok_law {fd : FuncData} (D : FunD K "law" "law" (defArgs sLaw) (defBody sLaw) (defScope sLaw) [] [] f fd) (T : Tc w K mg) (G_law_taken : Kp P w K mg base 1 (ga K "_law_taken") (spTaken K)) (G_law_steps : Kp P w K mg base 3 (ga K "_law_steps") (spSteps K)) (G_law_long : Kp P w K mg base 12 (ga K "_law_long") (spLong K)) (G_law_word : Kp P w K mg base 2 (ga K "_law_word") (spWord2 K)) (G_law_is_written : Kp P w K mg base 13 (ga K "_law_is_written") (spIsWritten K)) (G_law_is_table : Kp P w K mg base 13 (ga K "_law_is_table") (spIsTable K)) (G_Text_of_steps : Kp P w K mg base 7 (He5.wf K (CT K) "classmethod" "of_steps") (spOf K)) (G_Text_add : Kp P w K mg base 7 (ma K (CT K) "__add__") (spAdd K)) (G_Text_eq : Kp P w K mg base 1 (ma K (CT K) "__eq__") (spEqT K)) (G_Text_init : FnR P w K mg base CX0 5 (ma K (CT K) "__init__") (spInit5 K)) (G_Text_steps : Kp P w K mg base 1 (pgA K (CT K) "steps") (spStepsP K)) (G_format_text : Kp P w K mg base 5 (ga K "format_text") (spFormat K)) (G_parse_text : Kp P w K mg base 7 (ga K "parse_text") (spParse K)) (G_unpack_bytes : Kp P w K mg base 1 (ga K "unpack_bytes") (spUnpack K)) (G_encode_text : Kp P w K mg base 5 (ga K "encode_text") (spEncode K)) : FnOk P w K mg base CX0 40 f fd ["_law_script"] (spLaw K) := by
  have G_law_steps := stepsZ G_law_steps
  have G_Text_eq := eqI G_Text_eq
  refine fn_of D sc_law ?_ (fun cdv A outer s H vs Q E hr h => ?_)
  · rintro vs H Q E ⟨scr, ns, rfl, _⟩
    rfl
  · obtain ⟨scr, ns, rfl, hs, q⟩ := h
    have hmost : most = 1000000000000000000 := rfl
    refine ⟨_, (pss_cons (ps_set (i := 1) sc_law.nd rfl (Or.inr rfl) (pe_lst (pa_cons (pv 0) (pa_cons pe_int (pa_cons pe_int (pa_cons pe_int pa_nil)))))) (pss_cons (ps_for PassesOwn.never rfl (pi_range1 (by rfl) T.rng (pa_cons pe_int pa_nil)) (pg_name (i := 2) sc_law.nd rfl (Or.inl rfl)) (pss_cons (ps_par (i := 3) (j := 4) rfl sc_law.nd rfl rfl (by decide) rfl rfl (pa_cons (ClX.pe_cmeth (pe_gR T.gText) T.rd T.cmOf G_Text_of_steps.fnR (hr.mono (by omega)) pass0 (pa_cons (pk_t1 (listK K) T.lst b_list (pk_call G_law_steps (hr.mono (by omega)) T.gSteps (pa_cons (pv 1) (pa_cons (pe_op ((addA K).or (op_own T.oAdd T.first G_Text_add.fnR (hr.mono (by omega)) pass0)) pe_int (pk_call G_law_taken (hr.mono (by omega)) T.gTaken (pa_cons (pv 1) (pa_cons pe_int pa_nil)))) (pa_cons pe_int pa_nil))))) pa_nil)) (pa_cons (pk_call G_law_long (hr.mono (by omega)) T.g_law_long (pa_cons (pv 1) pa_nil)) pa_nil)) (by rfl)) (pss_cons (ps_set (i := 5) sc_law.nd rfl (Or.inl rfl) (ClX.pe_cmeth (pe_gR T.gText) T.rd T.cmOf G_Text_of_steps.fnR (hr.mono (by omega)) pass0 (pa_cons (pe_lc (own := [("_law_k", 9)]) (g := gName 9) (tt := tYes) rfl sc_law.nd (pi_range1 (by rfl) T.rng (pa_cons (pe_op ((addA K).or (op_own T.oAdd T.first G_Text_add.fnR (hr.mono (by omega)) pass0)) pe_int (pk_call G_law_taken (hr.mono (by omega)) T.gTaken (pa_cons (pv 1) (pa_cons pe_int pa_nil)))) pa_nil)) (blkOk_by (N := ["_law_script", "_law_row", "_law_turn", "_law_one", "_law_two", "_law_words", "_law_text", "_law_sizes", "_law_values", "_law_k"]) (sc := defScope sLaw) (by decide +kernel)) (fun _ _ _ _ _ => (pg_name (i := 9) sc_law.nd rfl (Or.inl rfl))) (fun _ _ _ _ _ => pts_nil) (fun _ _ _ _ _ => (pe_tup (pa_cons pe_str (pa_cons (pk_call G_law_word (hr.mono (by omega)) T.gWord (pa_cons (pv 1) (pa_cons pe_int pa_nil))) pa_nil))))) pa_nil))) (pss_cons (ps_for PassesOwn.never rfl (pi_tup (pe_tup (pa_cons (pv 3) (pa_cons (pv 4) (pa_cons (pv 5) (pa_cons (pe_op ((addA K).or (op_own T.oAdd T.first G_Text_add.fnR (hr.mono (by omega)) pass0)) (pv 3) (pv 5)) (pa_cons (pe_op ((addA K).or (op_own T.oAdd T.first G_Text_add.fnR (hr.mono (by omega)) pass0)) (pv 4) (pv 5)) pa_nil))))))) (pg_name (i := 6) sc_law.nd rfl (Or.inl rfl)) (pss_one (ps_if (pw_or (pt_not (pt_val (pk_call G_law_is_written (hr.mono (by omega)) T.g_law_is_written (pa_cons (pv 6) pa_nil)))) (pw_or1 (pt_not (pt_val (pk_call G_law_is_table (hr.mono (by omega)) T.g_law_is_table (pa_cons (pv 6) pa_nil)))))).pt (pss_one (ps_ret pe_bl)) pss_nil))) (pss_cons (ps_if (pt_cmpR ((neB K hr.units).or (op_neO T.oEq T.neT T.insT.hm G_Text_eq.fnR (hr.mono (by omega)) pass0)) (pk_call G_format_text (hr.mono (by omega)) T.g_format_text (pa_cons (pe_op ((addA K).or (op_own T.oAdd T.first G_Text_add.fnR (hr.mono (by omega)) pass0)) (pv 3) (pv 5)) pa_nil)) (pe_op ((addA K).or (op_own T.oAdd T.first G_Text_add.fnR (hr.mono (by omega)) pass0)) (pe_op ((addA K).or (op_own T.oAdd T.first G_Text_add.fnR (hr.mono (by omega)) pass0)) (pk_call G_format_text (hr.mono (by omega)) T.g_format_text (pa_cons (pv 3) pa_nil)) pe_str) (pk_call G_format_text (hr.mono (by omega)) T.g_format_text (pa_cons (pv 5) pa_nil))) (nomark _)) (pss_one (ps_ret pe_bl)) pss_nil) (pss_cons (ps_setLc (i := 7) (own := [("_law_text", 6)]) (g := gName 6) (tt := tYes) rfl sc_law.nd rfl rfl (sw_true rfl rfl rfl (by decide +kernel)) (pi_tup (pe_tup (pa_cons (pv 4) (pa_cons (pv 5) (pa_cons (pe_op ((addA K).or (op_own T.oAdd T.first G_Text_add.fnR (hr.mono (by omega)) pass0)) (pv 4) (pv 5)) pa_nil))))) (blkOk_by (N := ["_law_script", "_law_row", "_law_turn", "_law_one", "_law_two", "_law_words", "_law_text", "_law_sizes", "_law_values", "_law_k"]) (sc := defScope sLaw) (by decide +kernel)) (fun _ _ _ _ _ => (pg_name (i := 6) sc_law.nd rfl (Or.inl rfl))) (fun _ _ _ _ _ => pts_nil) (fun _ _ _ _ _ => (pk_b1 (lenA K) T.len b_len (pk_call G_unpack_bytes (hr.mono (by omega)) T.g_unpack_bytes (pa_cons (pk_call G_encode_text (hr.mono (by omega)) T.g_encode_text (pa_cons (pv 6) pa_nil)) pa_nil))))) (pss_cons (ps_if (pw_or (pt_cmpR ((neB K hr.units).or (op_neO T.oEq T.neT T.insT.hm G_Text_eq.fnR (hr.mono (by omega)) pass0)) (pe_ix (ixS K) (pv 7) pe_int (fun _ _ => rfl)) (pe_op op_sub (pe_op ((addA K).or (op_own T.oAdd T.first G_Text_add.fnR (hr.mono (by omega)) pass0)) (pe_ix (ixS K) (pv 7) pe_int (fun _ _ => rfl)) (pe_ix (ixS K) (pv 7) pe_int (fun _ _ => rfl))) pe_int) (nomark _)) (pw_or (pt_cmpR ((neB K hr.units).or (op_neO T.oEq T.neT T.insT.hm G_Text_eq.fnR (hr.mono (by omega)) pass0)) (pk_call G_format_text (hr.mono (by omega)) T.g_format_text (pa_cons (pe_text0 T.csct T.mkT G_Text_init (hr.mono (by omega)) T.gText) pa_nil)) pe_str (nomark _)) (pw_or1 (pt_not (pt_cmpR ((eqB K hr.units).or (op_eqO T.oEq G_Text_eq.fnR (hr.mono (by omega)) pass0)) (pk_call G_parse_text (hr.mono (by omega)) T.g_parse_text (pa_cons pe_str pa_nil)) (pe_text0 T.csct T.mkT G_Text_init (hr.mono (by omega)) T.gText) (nomark _)))))).pt (pss_one (ps_ret pe_bl)) pss_nil) (pss_cons (ps_set (i := 8) sc_law.nd rfl (Or.inl rfl) (pk_call G_unpack_bytes (hr.mono (by omega)) T.g_unpack_bytes (pa_cons (pk_call G_encode_text (hr.mono (by omega)) T.g_encode_text (pa_cons (pv 5) pa_nil)) pa_nil))) (pss_one (ps_if (pt_cmpR ((neB K hr.units).or (op_neO T.oEq T.neT T.insT.hm G_Text_eq.fnR (hr.mono (by omega)) pass0)) (pe_slice (slA K) (pv 8) (po_some pe_int) (po_some pe_int)) (pe_lst (pa_cons pe_int (pa_cons (pk_b1 (lenA K) T.len b_len (pe_ix (ixS K) (pe_ix (ixS K) (pk_prop (pv 5) T.clT T.pSteps G_Text_steps (hr.mono (by omega))) pe_int (fun _ _ => rfl)) pe_int (fun _ _ => rfl))) pa_nil))) (nomark _)) (pss_one (ps_ret pe_bl)) pss_nil)))))))))) (pss_one (ps_ret pe_bl)))), ?_⟩
    refine ⟨_, rfl, (by (show 4 ≤ _; decide)), fun p n => ?_⟩
    generalize hE : upd H p _ = H1
    have s1 : Same H H1 := hE ▸ same_upd n
    have e_p := (congrFun hE p).symm.trans upd_same
    clear hE
    refine ⟨_, rfl, (by omega), (by omega), ?_⟩
    have row := row_new hs n s1 e_p
    clear hs n s1 e_p
    refine for_range (lo := 0) (n := (2 : Int).toNat) (fun i σ HB => ∃ v2 v3 v4 v5 v6 v7 v8 : Option V, σ = [some (.ref scr), some (.ref p), v2, v3, v4, v5, v6, v7, v8, none] ∧ RowAt K (scr, ns) HB p) ⟨_, _, _, _, _, _, _, rfl, row⟩ ?_ ?_
    · rintro i σ HB hi ⟨v2, v3, v4, v5, v6, v7, v8, rfl, rowB⟩
      clear q
      refine ⟨rfl, _, rfl, _, rfl, _, _, rfl, _, rowB, (by omega), (by omega), fun v H2 row1 b h h1 => ?_⟩
      refine (.inl (.inl ⟨_, _, rfl, rfl, _, _, _, rfl, _, row1, (by omega), (by omega), (by omega), (by omega), fun a as st H21 row2 b1 h2 h3 h4 h5 h6 h7 h8 e => ?_⟩))
      refine ⟨_, _, rfl, (.inr h2), fun l n => ?_⟩
      have ne_l := row_ne row2 n
      generalize hE : upd H21 l _ = H11
      have s1 : Same H21 H11 := hE ▸ same_upd n
      have e_l := (congrFun hE l).symm.trans upd_same
      clear hE
      refine ⟨_, _, _, rfl, e_l, (StepsAt.same h3 s1), h5, (by omega), fun x H22 n1 s2 t => ?_⟩
      have ne_x := row_ne (RowAt.same row2 s1) n1
      obtain ⟨dx_x, ts_x, sp_x, as_x, ss_x, hx_x, hts_x, hst_x, hsp_x, hss_x⟩ := t.obj
      have hty_x := typed_small t
      have hnk_x := text_nk t
      have hg_x := t.good
      have nr_x := text_ne (RowAt.same row2 (s1.trans s2)) t
      refine ⟨_, rfl, _, rfl, _, (RowAt.same row2 (s1.trans s2)), fun x1 st1 H23 row3 b2 t1 h9 h10 h11 e1 => ?_⟩
      obtain ⟨dx_x1, ts_x1, sp_x1, as_x1, ss_x1, hx_x1, hts_x1, hst_x1, hsp_x1, hss_x1⟩ := t1.obj
      have hty_x1 := typed_small t1
      have hnk_x1 := text_nk t1
      have hg_x1 := t1.good
      have nr_x1 := text_ne row3 t1
      refine ⟨_, _, rfl, rfl, _, rfl, _, _, rfl, _, row3, (by omega), (by omega), fun v1 H24 row4 b3 h12 h13 => ?_⟩
      generalize hσ : List.set _ _ _ = σ1
      simp only [L2.start, List.set_cons_zero, List.set_cons_succ, List.map_cons, List.map_nil, List.length_cons, List.length_nil, List.replicate_succ, List.replicate_zero, List.cons_append, List.nil_append, Nat.reduceAdd, Nat.reduceSub] at hσ
      subst hσ
      refine (.inl (.inl ⟨_, _, rfl, rfl, _, rfl, (by omega), (by omega), fun D1 n2 => ?_⟩))
      have ne_D1 := row_ne row4 n2
      refine lc_all (walk_range (lo := 0) (n := (1 + v1).toNat)) (WsAt K (scr, ns) p D1 H24) ⟨RowAt.far row4 n2 row4, Same.but (same_upd n2), [], [], upd_same, StepsAt.nil, rfl, fun w hw => by cases hw⟩ (fun _ _ _ _ => trivial) ?_ ?_
      · rintro j v HC HD hj ⟨rowC, bC, as9, ws, hD1, hst9, hwl, hok⟩ ⟨rfl, rfl⟩
        have hal9 : (as9.map V.ref).length ≤ 100 := by
          rw [List.length_map, hst9.len, List.length_map]
          omega
        refine ⟨rfl, _, rfl, _, _, rfl, _, rowC, (by omega), (by omega), fun ls H25 row5 b4 h14 h15 e2 e3 => ?_⟩
        refine ⟨(by (show 2 ≤ _; decide)), fun p1 n3 => ?_⟩
        have ne_p1 := row_ne row5 n3
        generalize hE : upd H25 p1 _ = H12
        have s3 : Same H25 H12 := hE ▸ same_upd n3
        have e_p1 := (congrFun hE p1).symm.trans upd_same
        clear hE
        refine ⟨_, (s3 _ _ (b4 _ _ ne_D1 hD1)), (by exact small_ok (by omega)), ?_⟩
        generalize hE : upd H12 D1 _ = H13
        have b5 : But D1 H12 H13 := hE ▸ but_upd
        have e_D1 := (congrFun hE D1).symm.trans upd_same
        clear hE
        have hD12 : H12 D1 = some (.lst (as9.map V.ref)) := s3 _ _ (b4 _ _ ne_D1 hD1)
        refine ⟨row4.farC n2 b5 (row5.same s3), fun a o ha h => b5 a o (ne_of_none h n2) (s3 _ _ (b4 a o ha (bC a o ha h))), as9 ++ [p1], ws ++ [ls], by rw [e_D1, List.map_append]; rfl, ?_, by rw [List.length_append, hwl]; rfl, fun w hw => ?_⟩
        · rw [List.map_append]
          exact (steps_butL hD12 b5 ((steps_row rowC b4 hst9).same s3)).snoc (sqT_butL hD12 b5 (SqT.of e_p1))
        · rcases List.mem_append.mp hw with h | h
          · exact hok w h
          · rw [List.mem_singleton.mp h]
            simp only [Stp.ok, Bool.and_eq_true, decide_eq_true_eq]
            exact ⟨⟨by omega, by omega⟩, e2⟩
      · rintro HC ⟨rowC, bC, as9, ws, hD1, hst9, hwl, hok⟩
        have hws1 : ws ≠ [] := by
          intro z
          rw [z] at hwl
          simp at hwl
          omega
        have hws4 : ws.length ≤ 4 := by omega
        have hgw := goes_wr (s := 0) hok (by omega)
        have hsw := sz_wr hok
        have hwn : ws.map Stp.wr ≠ [] := by simpa using hws1
        have hwp : 0 < ws.length := List.length_pos_iff.mpr hws1
        have hwl4 : (ws.map Stp.wr).length ≤ 4 := by rw [List.length_map]; exact hws4
        generalize hwd : ws.map Stp.wr = wds at *
        clear hwl
        refine ⟨_, _, _, rfl, hD1, hst9, hgw, (by omega), fun x2 H25 n3 s3 t2 => ?_⟩
        have ne_x2 := row_ne rowC n3
        obtain ⟨dx_x2, ts_x2, sp_x2, as_x2, ss_x2, hx_x2, hts_x2, hst_x2, hsp_x2, hss_x2⟩ := t2.obj
        have hty_x2 := typed_small t2
        have hnk_x2 := text_nk t2
        have hg_x2 := t2.good
        have nr_x2 := text_ne (RowAt.same rowC s3) t2
        refine ⟨_, rfl, _, rfl, _, rfl, _, rfl, _, rfl, (.inr ⟨_, _, _, _, _, _, rfl, rfl, (s3 _ _ (bC _ _ nr_x (b3 _ _ nr_x (b2 _ _ nr_x hx_x)))), hx_x2, _, _, _, _, rfl, (text_row (RowAt.same row2 (s1.trans s2)) (((b2.trans b3).trans bC).trans (Same.but s3)) t), t2, (by omega), (by omega), fun z H26 n4 s4 t3 => ?_⟩)⟩
        have ne_z := row_ne (RowAt.same rowC s3) n4
        obtain ⟨dx_z, ts_z, sp_z, as_z, ss_z, hx_z, hts_z, hst_z, hsp_z, hss_z⟩ := t3.obj
        have hty_z := typed_small t3
        have hnk_z := text_nk t3
        have hg_z := t3.good
        have nr_z := text_ne (RowAt.same rowC (s3.trans s4)) t3
        refine ⟨_, rfl, _, rfl, (.inr ⟨_, _, _, _, _, _, rfl, rfl, (s4 _ _ (s3 _ _ (bC _ _ nr_x1 (b3 _ _ nr_x1 hx_x1)))), (s4 _ _ hx_x2), _, _, _, _, rfl, (text_row row3 (((b3.trans bC).trans (Same.but s3)).trans (Same.but s4)) t1), (TextAt.same t2 s4), (by omega), (by omega), fun z1 H27 n5 s5 t4 => ?_⟩)⟩
        have ne_z1 := row_ne (RowAt.same rowC (s3.trans s4)) n5
        obtain ⟨dx_z1, ts_z1, sp_z1, as_z1, ss_z1, hx_z1, hts_z1, hst_z1, hsp_z1, hss_z1⟩ := t4.obj
        have hty_z1 := typed_small t4
        have hnk_z1 := text_nk t4
        have hg_z1 := t4.good
        have nr_z1 := text_ne (RowAt.same rowC ((s3.trans s4).trans s5)) t4
        refine ⟨(by (show 5 ≤ _; decide)), fun p1 n6 => ?_⟩
        have ne_p1 := row_ne (RowAt.same rowC ((s3.trans s4).trans s5)) n6
        generalize hE : upd H27 p1 _ = H12
        have s6 : Same H27 H12 := hE ▸ same_upd n6
        have e_p1 := (congrFun hE p1).symm.trans upd_same
        clear hE
        refine ⟨_, rfl, ⟨_, (SqT.of e_p1)⟩, ?_⟩
        have hp0 : plus st wds = st ++ wds := by rw [← hwd]; exact plus_wr st ws
        have hp1 : plus st1 wds = st1 ++ wds := by rw [← hwd]; exact plus_wr st1 ws
        have hne1 : st ≠ [] := fun z9 => by have h99 : sz st = 0 := by { rw [z9]; rfl }; omega
        have hne2 : st1 ≠ [] := fun z9 => by have h99 : sz st1 = 0 := by { rw [z9]; rfl }; omega
        have hza : sz (st ++ wds) = sz st + sz wds := sz_app _ _
        have hzb : sz (st1 ++ wds) = sz st1 + sz wds := sz_app _ _
        have htx : TA_ K H12 x st := by
          exact (text_row (RowAt.same row2 (s1.trans s2)) ((((((b2.trans b3).trans bC).trans (Same.but s3)).trans (Same.but s4)).trans (Same.but s5)).trans (Same.but s6)) t)
        have htx1 : TA_ K H12 x1 st1 := by
          exact (text_row row3 (((((b3.trans bC).trans (Same.but s3)).trans (Same.but s4)).trans (Same.but s5)).trans (Same.but s6)) t1)
        have htx2 : TA_ K H12 x2 wds := by
          exact (TextAt.same t2 ((s4.trans s5).trans s6))
        have htz : TA_ K H12 z (plus st wds) := by
          exact (TextAt.same t3 (s5.trans s6))
        have htz1 : TA_ K H12 z1 (plus st1 wds) := by
          exact (TextAt.same t4 s6)
        rw [hp0] at htz
        rw [hp1] at htz1
        have hrow : RowAt K (scr, ns) H12 p := by
          exact (RowAt.same rowC (((s3.trans s4).trans s5).trans s6))
        have hall : ∀ (i : Nat) (v : V), [V.ref x, V.ref x1, V.ref x2, V.ref z, V.ref z1][i]? = some v → ∃ (y : Addr) (sy : List Stp), v = .ref y ∧ TA_ K H12 y sy ∧ sy ≠ [] ∧ 0 < sz sy ∧ sz sy < 1000000000000000000 := by
          intro i v hv
          match i, hv with
          | 0, hv => exact ⟨x, st, (Option.some.inj hv).symm, htx, hne1, by omega, by omega⟩
          | 1, hv => exact ⟨x1, st1, (Option.some.inj hv).symm, htx1, hne2, by omega, by omega⟩
          | 2, hv => exact ⟨x2, wds, (Option.some.inj hv).symm, htx2, hwn, by omega, by omega⟩
          | 3, hv => exact ⟨z, st ++ wds, (Option.some.inj hv).symm, htz, by simp [hne1], by omega, by omega⟩
          | 4, hv => exact ⟨z1, st1 ++ wds, (Option.some.inj hv).symm, htz1, by simp [hne2], by omega, by omega⟩
          | i + 5, hv => simp at hv
        refine for_tup (xs := [V.ref x, V.ref x1, V.ref x2, V.ref z, V.ref z1]) (fun j σ HE => ∃ v6 : Option V, σ = [some (.ref scr), some (.ref p), some (.int (0 + (i : Int))), some (.ref x), some (.ref x1), some (.ref x2), v6, v7, v8, none] ∧ Same H12 HE) ⟨_, rfl, Same.refl _⟩ ?_ ?_ ?_
        · rintro j σ HE hj ⟨v6, rfl, sE⟩
          exact SqT.of (sE _ _ e_p1)
        · rintro j v HE HF hv ⟨v6, rfl, sE⟩
          obtain ⟨y, sy, rfl, ty, hy1, hy2, hy3⟩ := hall _ _ hv
          obtain ⟨dx_y, ts_y, sp_y, as_y, ss_y, hx_y, hts_y, hst_y, hsp_y, hss_y⟩ := ty.obj
          have hty_y := typed_small ty
          have hnk_y := text_nk ty
          have hg_y := ty.good
          have nr_y := text_ne hrow ty
          refine ⟨_, rfl, _, _, rfl, (TextAt.same ty sE), hy1, fun H28 s7 => ?_⟩
          refine ⟨_, rfl, ?_⟩
          refine iF (nF rfl) ?_
          refine ⟨_, rfl, _, _, rfl, (TextAt.same ty (sE.trans s7)), (by omega), (by omega), fun H29 s8 => ?_⟩
          refine ⟨_, rfl, ?_⟩
          refine iF (nF rfl) ?_
          refine ⟨_, rfl, ?_⟩
          exact ((sE.trans s7).trans s8)
        · rintro σ HE ⟨v6, rfl, sE⟩
          have hrp := rows_app hne1 hwn
          have hr1 := rows_len hg_x (by omega)
          have hr2 : (rowsL wds).length ≤ 2550 := rows_len hgw (by omega)
          have hn1 : Str.ofString "\n" = sL [10] := nl_sL
          have hb10 : (Str.ofString "\n").length = 1 := by rw [hn1]; rfl
          have hadd1 : (rowsT st).length + (Str.ofString "\n").length ≤ sizeLine := by
            have h9 : (rowsT st).length = (rowsL st).length := sL_len _
            rw [h9, hb10]
            exact small_ok (by omega)
          have hadd2 : (rowsT st ++ Str.ofString "\n").length + (rowsT wds).length ≤ sizeLine := by
            have h9 : rowsT st ++ Str.ofString "\n" = sL (rowsL st ++ [10]) := by rw [hn1]; exact sL_app _ _
            have h8 : (rowsT wds).length = (rowsL wds).length := sL_len _
            rw [h9, h8, sL_len, List.length_append, List.length_singleton]
            exact small_ok (by omega)
          refine ⟨_, rfl, _, rfl, (.inr ⟨_, _, _, _, _, _, rfl, rfl, (sE _ _ (s6 _ _ (s5 _ _ (s4 _ _ (s3 _ _ (bC _ _ nr_x (b3 _ _ nr_x (b2 _ _ nr_x hx_x)))))))), (sE _ _ (s6 _ _ (s5 _ _ (s4 _ _ hx_x2)))), _, _, _, _, rfl, (TextAt.same htx sE), (TextAt.same htx2 sE), (by omega), (by omega), fun z2 H28 n7 s7 t5 => ?_⟩)⟩
          have ne_z2 := row_ne (RowAt.same hrow sE) n7
          obtain ⟨dx_z2, ts_z2, sp_z2, as_z2, ss_z2, hx_z2, hts_z2, hst_z2, hsp_z2, hss_z2⟩ := t5.obj
          have hty_z2 := typed_small t5
          have hnk_z2 := text_nk t5
          have hg_z2 := t5.good
          have nr_z2 := text_ne (RowAt.same hrow (sE.trans s7)) t5
          refine ⟨_, _, rfl, t5, fun H29 s8 => ?_⟩
          refine ⟨_, rfl, _, _, rfl, (TextAt.same htx ((sE.trans s7).trans s8)), fun H210 s9 => ?_⟩
          refine (.inl (.inr (.inl ⟨_, _, rfl, rfl, (by omega), _, rfl, _, _, rfl, (TextAt.same htx2 (((sE.trans s7).trans s8).trans s9)), fun H211 s10 => ?_⟩)))
          refine (.inl (.inr (.inl ⟨_, _, rfl, rfl, (by omega), (.inl (.inl ⟨rfl, _, rfl, ?_⟩))⟩)))
          refine iF (nF (by rw [hp0, hrp]; exact decide_eq_true rfl)) ?_
          refine ⟨_, rfl, _, rfl, _, rfl, _, rfl, (.inr ⟨_, _, _, _, _, _, rfl, rfl, (s10 _ _ (s9 _ _ (s8 _ _ (s7 _ _ (sE _ _ (s6 _ _ (s5 _ _ (s4 _ _ (s3 _ _ (bC _ _ nr_x1 (b3 _ _ nr_x1 hx_x1))))))))))), (s10 _ _ (s9 _ _ (s8 _ _ (s7 _ _ (sE _ _ (s6 _ _ (s5 _ _ (s4 _ _ hx_x2)))))))), _, _, _, _, rfl, (TextAt.same htx1 ((((sE.trans s7).trans s8).trans s9).trans s10)), (TextAt.same htx2 ((((sE.trans s7).trans s8).trans s9).trans s10)), (by omega), (by omega), fun z3 H212 n8 s11 t6 => ?_⟩)⟩
          have ne_z3 := row_ne (RowAt.same hrow ((((sE.trans s7).trans s8).trans s9).trans s10)) n8
          obtain ⟨dx_z3, ts_z3, sp_z3, as_z3, ss_z3, hx_z3, hts_z3, hst_z3, hsp_z3, hss_z3⟩ := t6.obj
          have hty_z3 := typed_small t6
          have hnk_z3 := text_nk t6
          have hg_z3 := t6.good
          have nr_z3 := text_ne (RowAt.same hrow (((((sE.trans s7).trans s8).trans s9).trans s10).trans s11)) t6
          refine ⟨(by (show 3 ≤ _; decide)), fun p2 n9 => ?_⟩
          have ne_p2 := row_ne (RowAt.same hrow (((((sE.trans s7).trans s8).trans s9).trans s10).trans s11)) n9
          generalize hE : upd H212 p2 _ = H13
          have s12 : Same H212 H13 := hE ▸ same_upd n9
          have e_p2 := (congrFun hE p2).symm.trans upd_same
          clear hE
          refine ⟨_, rfl, ⟨_, (SqT.of e_p2)⟩, fun D2 n10 => ?_⟩
          have ne_D2 := row_ne (RowAt.same hrow ((((((sE.trans s7).trans s8).trans s9).trans s10).trans s11).trans s12)) n10
          have hall3 : ∀ (i : Nat) (v : V), [V.ref x1, V.ref x2, V.ref z3][i]? = some v → ∃ (y : Addr) (sy : List Stp), v = .ref y ∧ TA_ K H13 y sy ∧ (encB sy).length = [(encB st1).length, (encB wds).length, (encB (st1 ++ wds)).length].getD i 0 := by
            have w1 : TA_ K H13 x1 st1 := by
              exact (TextAt.same htx1 ((((((sE.trans s7).trans s8).trans s9).trans s10).trans s11).trans s12))
            have w2 : TA_ K H13 x2 wds := by
              exact (TextAt.same htx2 ((((((sE.trans s7).trans s8).trans s9).trans s10).trans s11).trans s12))
            have w3 : TA_ K H13 z3 (plus st1 wds) := by
              exact (TextAt.same t6 s12)
            rw [hp1] at w3
            intro i v hv
            match i, hv with
            | 0, hv => exact ⟨x1, st1, (Option.some.inj hv).symm, w1, rfl⟩
            | 1, hv => exact ⟨x2, wds, (Option.some.inj hv).symm, w2, rfl⟩
            | 2, hv => exact ⟨z3, st1 ++ wds, (Option.some.inj hv).symm, w3, rfl⟩
            | i + 3, hv => simp at hv
          refine lc_map (walk_tup (xs := [V.ref x1, V.ref x2, V.ref z3])) (by assumption) (fun j => V.int ([(encB st1).length, (encB wds).length, (encB (st1 ++ wds)).length].getD j 0 : Nat)) (by exact small_ok (show 3 ≤ 16000000 by omega)) (fun H2 s2 => SqT.of (s2 _ _ e_p2)) ?_ ?_
          · rintro j v H5 H6 N2 hj s5 ⟨rfl, hv⟩ hN2
            obtain ⟨y, sy, rfl, ty, hyl⟩ := hall3 _ _ hv
            rw [← hyl] at hN2
            have hle := encB_le ty.good ty.few
            have hib := encB_isB ty.good ty.few
            have tyH := ty.same s5
            clear ty
            obtain ⟨dx_y, ts_y, sp_y, as_y, ss_y, hx_y, hts_y, hst_y, hsp_y, hss_y⟩ := tyH.obj
            have hty_y := typed_small tyH
            have hnk_y := text_nk tyH
            have hg_y := tyH.good
            have nr_y := text_ne (RowAt.same hrow (((((((sE.trans s7).trans s8).trans s9).trans s10).trans s11).trans s12).trans s5)) tyH
            refine ⟨rfl, _, rfl, _, _, rfl, tyH, fun H213 s13 => ?_⟩
            refine ⟨_, rfl, (by omega), hib, fun p3 H214 n11 s14 e2 => ?_⟩
            have ne_p3 := row_ne (RowAt.same hrow ((((((((sE.trans s7).trans s8).trans s9).trans s10).trans s11).trans s12).trans s5).trans s13)) n11
            refine (.inr (.inl ⟨_, _, rfl, (.inl (SqL.of e2)), ?_⟩))
            refine qInt (hN2 _ (s13.trans s14)) ?_
            rw [nV_len]
          · intro H5 s5 hD5
            have hD6 : H5 D2 = some (.lst [V.int ((encB st1).length : Nat), V.int ((encB wds).length : Nat), V.int ((encB (st1 ++ wds)).length : Nat)]) := hD5
            clear hD5
            have hea := encB_app st1 wds
            have he0 : [V.str ""] = [V.str (rowsT [])] := by
              rw [show rowsT [] = Str.ofString "" from by decide +kernel]
            have hle2 : (encB wds).length ≤ 100000 := encB_le hgw (by omega)
            have hib2 : isB (encB wds) = true := encB_isB hgw (by omega)
            obtain ⟨w0, r0, hw0⟩ : ∃ w0 r0, wds = Stp.wr w0 :: r0 := by
              cases ws with
              | nil => exact absurd rfl hws1
              | cons w0 r0 => exact ⟨w0, r0.map Stp.wr, hwd.symm⟩
            have hcut : cutV (nV (encB wds)) (some 2) (some 4) = [V.int 0, V.int (w0.length : Nat)] := by
              rw [hw0]
              exact cut_24 w0 r0
            have hok0 : (Stp.wr w0).ok 0 = true := by
              rw [hw0] at hgw
              exact hgw.1
            have hwl0 : (sL w0).length ≤ sizeLine := by
              simp only [Stp.ok, Bool.and_eq_true, decide_eq_true_eq] at hok0
              rw [sL_len]
              exact small_ok (by omega)
            refine ⟨_, rfl, (.inl ⟨_, _, _, _, rfl, rfl, (SqL.of hD6), rfl, _, rfl, (.inl ⟨_, _, _, _, rfl, rfl, (SqL.of hD6), rfl, _, rfl, (.inl ⟨_, _, _, _, rfl, rfl, (SqL.of hD6), rfl, (.inl (.inl ⟨_, _, rfl, rfl, _, _, rfl, rfl, (.inl (.inl ⟨rfl, _, rfl, ?_⟩))⟩))⟩)⟩)⟩)⟩
            refine iF (nF (vT (by omega))) ?_
            refine fun x3 H213 n11 s13 t7 => ?_
            have ne_x3 := row_ne (RowAt.same hrow (((((((sE.trans s7).trans s8).trans s9).trans s10).trans s11).trans s12).trans s5)) n11
            obtain ⟨dx_x3, ts_x3, sp_x3, as_x3, ss_x3, hx_x3, hts_x3, hst_x3, hsp_x3, hss_x3⟩ := t7.obj
            have hty_x3 := typed_small t7
            have hnk_x3 := text_nk t7
            have hg_x3 := t7.good
            have nr_x3 := text_ne (RowAt.same hrow ((((((((sE.trans s7).trans s8).trans s9).trans s10).trans s11).trans s12).trans s5).trans s13)) t7
            refine ⟨_, _, rfl, (TextAt.same t7 (Same.refl _)), fun H214 s14 => ?_⟩
            refine (.inl (.inl ⟨rfl, _, rfl, ?_⟩))
            refine iF (nF (sT rfl)) ?_
            refine ⟨_, he0, hg_x3, (by (show 0 ≤ _; decide)), fun x4 H215 n12 s15 t8 x5 H216 n13 s16 t9 => ?_⟩
            have ne_x5 := row_ne (RowAt.same hrow ((((((((((sE.trans s7).trans s8).trans s9).trans s10).trans s11).trans s12).trans s5).trans s13).trans s14).trans s15)) n13
            obtain ⟨dx_x5, ts_x5, sp_x5, as_x5, ss_x5, hx_x5, hts_x5, hst_x5, hsp_x5, hss_x5⟩ := t9.obj
            have hty_x5 := typed_small t9
            have hnk_x5 := text_nk t9
            have hg_x5 := t9.good
            have nr_x5 := text_ne (RowAt.same hrow (((((((((((sE.trans s7).trans s8).trans s9).trans s10).trans s11).trans s12).trans s5).trans s13).trans s14).trans s15).trans s16)) t9
            obtain ⟨dx_x4, ts_x4, sp_x4, as_x4, ss_x4, hx_x4, hts_x4, hst_x4, hsp_x4, hss_x4⟩ := t8.obj
            have hty_x4 := typed_small t8
            have hnk_x4 := text_nk t8
            have hg_x4 := t8.good
            have nr_x4 := text_ne (RowAt.same hrow ((((((((((sE.trans s7).trans s8).trans s9).trans s10).trans s11).trans s12).trans s5).trans s13).trans s14).trans s15)) t8
            refine (.inr ⟨_, _, _, rfl, (s16 _ _ hx_x4), (.inl ⟨_, ⟨_, ⟨_, ⟨rfl, hx_x5⟩⟩⟩⟩), _, _, _, _, rfl, (TextAt.same t8 s16), (TextAt.same t9 (Same.refl _)), _, rfl, ?_⟩)
            refine iF (nF (dT rfl)) ?_
            refine ⟨_, rfl, _, _, rfl, (TextAt.same htx2 (((((((((((sE.trans s7).trans s8).trans s9).trans s10).trans s11).trans s12).trans s5).trans s13).trans s14).trans s15).trans s16)), fun H217 s17 => ?_⟩
            refine ⟨_, rfl, (by omega), hib2, fun p3 H218 n14 s18 e2 => ?_⟩
            have ne_p3 := row_ne (RowAt.same hrow ((((((((((((sE.trans s7).trans s8).trans s9).trans s10).trans s11).trans s12).trans s5).trans s13).trans s14).trans s15).trans s16).trans s17)) n14
            refine ⟨_, rfl, _, rfl, _, rfl, (.inl ⟨_, _, rfl, (SqL.of e2), fun p4 n15 => ?_⟩)⟩
            have ne_p4 := row_ne (RowAt.same hrow (((((((((((((sE.trans s7).trans s8).trans s9).trans s10).trans s11).trans s12).trans s5).trans s13).trans s14).trans s15).trans s16).trans s17).trans s18)) n15
            generalize hE : upd H218 p4 _ = H14
            have s19 : Same H218 H14 := hE ▸ same_upd n15
            have e_p4 := (congrFun hE p4).symm.trans upd_same
            clear hE
            generalize hσ : List.set _ _ _ = σ1
            simp only [L2.start, List.set_cons_zero, List.set_cons_succ, List.map_cons, List.map_nil, List.length_cons, List.length_nil, List.replicate_succ, List.replicate_zero, List.cons_append, List.nil_append, Nat.reduceAdd, Nat.reduceSub] at hσ
            subst hσ
            refine ⟨_, rfl, ?_⟩
            have w5 : TA_ K H14 x2 wds := by
              exact (TextAt.same htx2 ((((((((((((((sE.trans s7).trans s8).trans s9).trans s10).trans s11).trans s12).trans s5).trans s13).trans s14).trans s15).trans s16).trans s17).trans s18).trans s19))
            obtain ⟨dx5, ts5, sp5, as5, ss5, hx5, hts5, hst5, hsp5, hss5⟩ := w5.obj
            refine ⟨_, _, _, rfl, hx5, _, _, rfl, w5, fun ts as1 h14 h15 => ?_⟩
            obtain ⟨b0, hb0, eb0⟩ := h15.at_ 0 (Stp.wr w0) (by rw [hw0]; rfl)
            have hat0 : atI (as1.map V.ref) 0 = some (.ref b0) := atI_nat (j := 0) (map_get hb0)
            rw [hcut] at e_p4
            have rowZ : RowAt K (scr, ns) H14 p := by
              exact (RowAt.same hrow ((((((((((((((sE.trans s7).trans s8).trans s9).trans s10).trans s11).trans s12).trans s5).trans s13).trans s14).trans s15).trans s16).trans s17).trans s18).trans s19))
            refine (.inr (.inl ⟨_, _, _, _, rfl, rfl, h14, hat0, (.inr (.inl ⟨_, _, _, _, rfl, rfl, eb0, rfl, (.inl ⟨_, rfl, (by omega), (by (show 2 ≤ _; decide)), fun p5 n16 => ?_⟩)⟩))⟩))
            have ne_p5 := row_ne rowZ n16
            generalize hE : upd H14 p5 _ = H15
            have s20 : Same H14 H15 := hE ▸ same_upd n16
            have e_p5 := (congrFun hE p5).symm.trans upd_same
            clear hE
            refine (.inl (.inr (.inl ⟨_, _, _, _, rfl, rfl, (.inl ⟨(SqL.of (s20 _ _ e_p4)), (SqL.of e_p5)⟩), rfl, rfl, _, rfl, ?_⟩)))
            refine iF (nF (dT rfl)) ?_
            exact ⟨_, _, _, _, _, _, _, rfl, rowZ.same s20⟩
    · rintro σ HB ⟨v2, v3, v4, v5, v6, v7, v8, rfl, rowB⟩
      exact q _
end
end KL
namespace KL
open PySem PySem.W PySem.Calls PyProof.Rows L2 He He5 Pk
def gD (x : PySem.Str) (st : Stmt) : DefA := { at_ := fun K => ga K x, name := x, qual := x, params := defArgs st, body := defBody st, scope := defScope st }
def mD (C m q : PySem.Str) (st : Stmt) : DefA := { at_ := fun K => ma K (ga K C) m, name := m, qual := q, params := defArgs st, body := defBody st, scope := defScope st }
def pD (C m q : PySem.Str) (st : Stmt) : DefA := { at_ := fun K => pgA K (ga K C) m, name := m, qual := q, params := defArgs st, body := defBody st, scope := defScope st }
def cD (C m q : PySem.Str) (st : Stmt) : DefA := { at_ := fun K => wf K (ga K C) "classmethod" m, name := m, qual := q, params := defArgs st, body := defBody st, scope := defScope st }
def fn : List DefA := [gD "is_number" (top 4),
  gD "is_letter" (top 5),
  gD "is_word" (top 6),
  gD "key_counts" (top 17),
  gD "_add_weight" (top 18),
  gD "_leave_pasted" (top 19),
  gD "_check_range" (top 20),
  gD "is_step" (top 25),
  gD "span_of" (top 26),
  gD "spans_of" (top 27),
  gD "key_at" (top 28),
  gD "moved_step" (top 29),
  gD "format_text" (top 36),
  gD "parse_text" (top 37),
  gD "_parsed_row" (top 38),
  gD "_is_right" (top 39),
  gD "_is_figures" (top 40),
  gD "key_table" (top 41),
  gD "pack_bytes" (top 48),
  gD "unpack_bytes" (top 49),
  gD "encode_text" (top 50),
  gD "_step_values" (top 51),
  gD "_number_values" (top 52),
  gD "checksum_of" (top 53),
  gD "decode_text" (top 54),
  gD "_next_step" (top 55),
  gD "_law_taken" (top 57),
  gD "_law_word" (top 58),
  gD "_law_steps" (top 59),
  gD "_law_long" (top 60),
  gD "_law_number" (top 61),
  gD "_law_is_table" (top 62),
  gD "_law_is_written" (top 63),
  gD "law" (top 64),
  mD "Span" "__init__" "Span.__init__" (inClass (top 24) 0),
  mD "Text" "__init__" "Text.__init__" (inClass (top 31) 1),
  cD "Text" "of_steps" "Text.of_steps" (inClass (top 31) 3),
  pD "Text" "steps" "Text.steps" (inClass (top 31) 4),
  pD "Text" "typed_keys" "Text.typed_keys" (inClass (top 31) 5),
  pD "Text" "size" "Text.size" (inClass (top 31) 6),
  mD "Text" "__call__" "Text.__call__" (inClass (top 31) 7),
  mD "Text" "__getitem__" "Text.__getitem__" (inClass (top 31) 8),
  mD "Text" "_check_place" "Text._check_place" (inClass (top 31) 9),
  mD "Text" "__iter__" "Text.__iter__" (inClass (top 31) 10),
  mD "Text" "__contains__" "Text.__contains__" (inClass (top 31) 11),
  mD "Text" "__eq__" "Text.__eq__" (inClass (top 31) 12),
  mD "Text" "__add__" "Text.__add__" (inClass (top 31) 13),
  mD "Text" "__mul__" "Text.__mul__" (inClass (top 31) 14),
  mD "ByteSource" "__init__" "ByteSource.__init__" (inClass (top 47) 0),
  mD "ByteSource" "next_byte" "ByteSource.next_byte" (inClass (top 47) 1),
  mD "ByteSource" "next_number" "ByteSource.next_number" (inClass (top 47) 2),
  mD "ByteSource" "checksum" "ByteSource.checksum" (inClass (top 47) 3)]
def fa : List Fa := [.free "isinstance",
  .free "int",
  .free "bool",
  .free "str",
  .free "tuple",
  .free "list",
  .free "len",
  .free "all",
  .free "range",
  .free "enumerate",
  .free "zip",
  .free "min",
  .free "max",
  .free "divmod",
  .free "bytes",
  .free "ValueError",
  .free "TypeError",
  .free "super",
  .free "NotImplemented",
  .str "LETTERS" "abcdefghijklmnopqrstuvwxyz",
  .int "LONGEST_WORD" 20,
  .int "MOST_STEPS" 30,
  .int "MOST_TIMES" 1000000000,
  .str "FIGURES" "0123456789",
  .int "MOST_FIGURES" 18,
  .int "MARK" 80,
  .int "WRITES" 0,
  .int "PASTES" 1,
  .int "GROUP" 128,
  .glo "ROW_LENGTHS",
  .glo "is_number",
  .glo "is_letter",
  .glo "is_word",
  .glo "key_counts",
  .glo "_add_weight",
  .glo "_leave_pasted",
  .glo "_check_range",
  .glo "is_step",
  .glo "span_of",
  .glo "spans_of",
  .glo "key_at",
  .glo "moved_step",
  .glo "format_text",
  .glo "parse_text",
  .glo "_parsed_row",
  .glo "_is_right",
  .glo "_is_figures",
  .glo "key_table",
  .glo "pack_bytes",
  .glo "unpack_bytes",
  .glo "encode_text",
  .glo "_step_values",
  .glo "_number_values",
  .glo "checksum_of",
  .glo "decode_text",
  .glo "_next_step",
  .glo "_law_taken",
  .glo "_law_word",
  .glo "_law_steps",
  .glo "_law_long",
  .glo "_law_number",
  .glo "_law_is_table",
  .glo "_law_is_written",
  .glo "law",
  .glo "TextError",
  .glo "InvalidStep",
  .glo "TooLong",
  .glo "InvalidPlace",
  .glo "InvalidNumber",
  .glo "NotationError",
  .glo "InvalidCount",
  .glo "DecodeError",
  .glo "Span",
  .cls "Span",
  .mkr "Span",
  .noat "Span" "begin",
  .noat "Span" "end",
  .noat "Span" "key",
  .noat "Span" "source",
  .noat "Span" "width",
  .glo "Text",
  .cls "Text",
  .mkr "Text",
  .noat "Text" "_steps",
  .noat "Text" "spans",
  .noat "Text" "_size",
  .noat "Text" "_typed",
  .meth "Text" "_check_place",
  .glo "ByteSource",
  .cls "ByteSource",
  .mkr "ByteSource",
  .noat "ByteSource" "_data",
  .noat "ByteSource" "offset",
  .meth "ByteSource" "next_byte",
  .meth "ByteSource" "next_number",
  .meth "ByteSource" "checksum"]
def ex (K : Frag) : Bool := (nsIntB K (ga K "ROW_LENGTHS") "write" 2) && ((nsIntB K (ga K "ROW_LENGTHS") "paste" 4) && ((cmetB K (ga K "Text") "of_steps") && ((propB K (ga K "Text") "steps") && ((propB K (ga K "Text") "typed_keys") && ((propB K (ga K "Text") "size") && ((opB K (ga K "Text") "__call__") && ((opB K (ga K "Text") "__getitem__") && ((opB K (ga K "Text") "__iter__") && ((opB K (ga K "Text") "__contains__") && ((opB K (ga K "Text") "__eq__") && ((opB K (ga K "Text") "__add__") && ((opB K (ga K "Text") "__mul__") && ((cvalB K (ga K "Text") "MAX_SIZE" 1000000000000000000) && ((creadB K (ga K "Text")) && ((decide (ga K "Span" ≠ ga K "Text")) && ((decide (ga K "Span" ≠ ga K "ByteSource")) && ((decide (ga K "Text" ≠ ga K "ByteSource")) && ((opTB K (ga K "Text") "mul" "int") && ((selfFirst K (ga K "Text")) && ((insB K (ga K "Text")) && ((decide (ga K "Span" ≠ ga K "Text")) && ((decide (PySem.W.subIn K (.type "tuple") (.ref (ga K "Text")) = some false)) && ((eqO (PySem.W.findIn K (.ref (ga K "Text")) "__ne__") (some (some (.builtin "object.__ne__")))) && ((insTB K (ga K "Text")) && true))))))))))))))))))))))))
abbrev R : OpenRow := OpenLaw.row PySem.Challenge.rw_pastekeys_k17_whole_rows_and_bytes
def ts : List TabQ := [(fun K => ga K "ROW_LENGTHS", ["write", "paste"])]
abbrev hk : PySem.W.Hook := hookQ 5 fa fn ex ts
def ob (s : SharedT) : AlQ := obsQG 5 fa fn ex ts (HandSHeadRun.getT s)
theorem ob_eq (s : SharedT) : ob s = hk.obs s.abs := obsQG_eq (HandSHeadRun.getT_eq s)
def loose : List PySem.Str := ("_wall" : PySem.Str) :: ("LETTERS" : PySem.Str) :: ("LONGEST_WORD" : PySem.Str) :: ("is_number" : PySem.Str) :: ("is_letter" : PySem.Str) :: ("is_word" : PySem.Str) :: ("TextError" : PySem.Str) :: ("InvalidStep" : PySem.Str) :: ("TooLong" : PySem.Str) :: ("InvalidPlace" : PySem.Str) :: ("InvalidNumber" : PySem.Str) :: ("NotationError" : PySem.Str) :: ("InvalidCount" : PySem.Str) :: ("DecodeError" : PySem.Str) :: ("key_counts" : PySem.Str) :: ("_add_weight" : PySem.Str) :: ("_leave_pasted" : PySem.Str) :: ("_check_range" : PySem.Str) :: ("MOST_STEPS" : PySem.Str) :: ("MOST_TIMES" : PySem.Str) :: ("Span" : PySem.Str) :: ("is_step" : PySem.Str) :: ("span_of" : PySem.Str) :: ("spans_of" : PySem.Str) :: ("key_at" : PySem.Str) :: ("moved_step" : PySem.Str) :: ("Text" : PySem.Str) :: ("FIGURES" : PySem.Str) :: ("MOST_FIGURES" : PySem.Str) :: ("ROW_LENGTHS" : PySem.Str) :: ("format_text" : PySem.Str) :: ("parse_text" : PySem.Str) :: ("_parsed_row" : PySem.Str) :: ("_is_right" : PySem.Str) :: ("_is_figures" : PySem.Str) :: ("key_table" : PySem.Str) :: ("MARK" : PySem.Str) :: ("WRITES" : PySem.Str) :: ("PASTES" : PySem.Str) :: ("GROUP" : PySem.Str) :: ("ByteSource" : PySem.Str) :: ("pack_bytes" : PySem.Str) :: ("unpack_bytes" : PySem.Str) :: ("encode_text" : PySem.Str) :: ("_step_values" : PySem.Str) :: ("_number_values" : PySem.Str) :: ("checksum_of" : PySem.Str) :: ("decode_text" : PySem.Str) :: ("_next_step" : PySem.Str) :: ("_law_taken" : PySem.Str) :: ("_law_word" : PySem.Str) :: ("_law_steps" : PySem.Str) :: ("_law_long" : PySem.Str) :: ("_law_number" : PySem.Str) :: ("_law_is_table" : PySem.Str) :: ("_law_is_written" : PySem.Str) :: []
/-- a world with one answer told -/
def patch (w : World) (b : Bool) : World := { w with params := { w.params with followText := fun row => match decide (row = "special-get-raises") with | true => b | false => w.params.followText row } }
theorem patch_eq (w : World) : patch w (w.params.followText "special-get-raises") = w := by
  obtain ⟨d, p⟩ := w
  have h : (fun row => match decide (row = "special-get-raises") with | true => p.followText "special-get-raises" | false => p.followText row) = p.followText := by
    funext row
    by_cases e : row = "special-get-raises"
    · rw [decide_eq_true e, e]
    · rw [decide_eq_false e]
  show World.mk d { p with followText := fun row => match decide (row = "special-get-raises") with | true => p.followText "special-get-raises" | false => p.followText row } = _
  rw [h]
theorem join3 {α β γ δ : Type} {o : Option α} {f : α → β} {g : α → γ} {h : α → δ} {a : β} {b : γ} {c : δ} (h1 : o.map (fun s => (f s, g s)) = some (a, b)) (h2 : o.map (fun s => h s) = some c) : o.map (fun s => (f s, g s, h s)) = some (a, b, c) := by
  cases o with
  | none => cases h1
  | some x =>
    injection h1 with h1
    injection h2 with h2
    injection h1 with h1 h3
    exact congrArg some (Prod.ext h1 (Prod.ext h3 h2))
theorem runT1 (w : World) (os : OsState) : (HandSHeadRun.endF (HandSHeadRun.stepQ (HandSHeadRun.denQ HandSHeadRun.tabQ) R.prog (patch w true)) 12000 R.prog (patch w true) os).map (fun s => (HandSHeadRun.looksF R.prog (boot_heap (patch w true).params) s.abs, HandSHeadRun.seenQ (PySem.W.view R.prog [64]) loose (importedModules R.prog.main.body) (fun s => xlAt (PySem.W.view R.prog [64]) [] s && recOk R.toRowW.records s) s.abs)) = some (true, openGood (PySem.W.view R.prog [64]) loose) := by
  kernel_rfl
theorem runT2 (w : World) (os : OsState) : (HandSHeadRun.endF (HandSHeadRun.stepQ (HandSHeadRun.denQ HandSHeadRun.tabQ) R.prog (patch w true)) 12000 R.prog (patch w true) os).map (fun s => ob s) = some (hk.val (patch w true)) := by
  kernel_rfl
theorem runT (w : World) : HandSHeadRun.RunEq R (PySem.W.view R.prog [64]) hk ob 12000 loose (patch w true) := fun os => join3 (runT1 w os) (runT2 w os)
theorem runF1 (w : World) (os : OsState) : (HandSHeadRun.endF (HandSHeadRun.stepQ (HandSHeadRun.denQ HandSHeadRun.tabQ) R.prog (patch w false)) 12000 R.prog (patch w false) os).map (fun s => (HandSHeadRun.looksF R.prog (boot_heap (patch w false).params) s.abs, HandSHeadRun.seenQ (PySem.W.view R.prog [64]) loose (importedModules R.prog.main.body) (fun s => xlAt (PySem.W.view R.prog [64]) [] s && recOk R.toRowW.records s) s.abs)) = some (true, openGood (PySem.W.view R.prog [64]) loose) := by
  kernel_rfl
theorem runF2 (w : World) (os : OsState) : (HandSHeadRun.endF (HandSHeadRun.stepQ (HandSHeadRun.denQ HandSHeadRun.tabQ) R.prog (patch w false)) 12000 R.prog (patch w false) os).map (fun s => ob s) = some (hk.val (patch w false)) := by
  kernel_rfl
theorem runF (w : World) : HandSHeadRun.RunEq R (PySem.W.view R.prog [64]) hk ob 12000 loose (patch w false) := fun os => join3 (runF1 w os) (runF2 w os)
theorem run (w : World) : HandSHeadRun.RunEq R (PySem.W.view R.prog [64]) hk ob 12000 loose w := by
  have h : ∀ b : Bool, HandSHeadRun.RunEq R (PySem.W.view R.prog [64]) hk ob 12000 loose (patch w b) := fun b => match b with | true => runT w | false => runF w
  have h2 := h (w.params.followText "special-get-raises")
  rw [patch_eq] at h2
  exact h2
open PySem.Spec
theorem facts {P : Program} {w : World} {K : PySem.W.Frag} {h : Heap} {mg : PySem.Str → Option Value} {f : Addr} (X : K.In h) (G : h.Ns mainGlobals mg) (hfa : mg ("law" : PySem.Str) = some (.ref f)) (c0 : SaysQ fa fn ex ts w K) :
    ∃ fd : FuncData, (∀ (s : Shared) (v : Value), BindsTo s fd ⟨[v], []⟩ [("_law_script", v)]) ∧ ∀ base : Heap, K.In base → base.Ns mainGlobals mg → FnOk P w K mg base CX0 40 f fd ["_law_script"] (spLaw K) := by
  have c := c0.m
  obtain ⟨e0, e⟩ := ba c.more
  obtain ⟨e1, e⟩ := ba e
  obtain ⟨e2, e⟩ := ba e
  obtain ⟨e3, e⟩ := ba e
  obtain ⟨e4, e⟩ := ba e
  obtain ⟨e5, e⟩ := ba e
  obtain ⟨e6, e⟩ := ba e
  obtain ⟨e7, e⟩ := ba e
  obtain ⟨e8, e⟩ := ba e
  obtain ⟨e9, e⟩ := ba e
  obtain ⟨e10, e⟩ := ba e
  obtain ⟨e11, e⟩ := ba e
  obtain ⟨e12, e⟩ := ba e
  obtain ⟨e13, e⟩ := ba e
  obtain ⟨e14, e⟩ := ba e
  obtain ⟨e15, e⟩ := ba e
  obtain ⟨e16, e⟩ := ba e
  obtain ⟨e17, e⟩ := ba e
  obtain ⟨e18, e⟩ := ba e
  obtain ⟨e19, e⟩ := ba e
  obtain ⟨e20, e⟩ := ba e
  obtain ⟨e21, e⟩ := ba e
  obtain ⟨e22, e⟩ := ba e
  obtain ⟨e23, e⟩ := ba e
  obtain ⟨e24, e⟩ := ba e
  have T : Tc w K mg := {
    isi := free_ok X G (c.says.fact 0 (f := .free "isinstance") rfl)
    int := free_ok X G (c.says.fact 1 (f := .free "int") rfl)
    bool := free_ok X G (c.says.fact 2 (f := .free "bool") rfl)
    str := free_ok X G (c.says.fact 3 (f := .free "str") rfl)
    tup := free_ok X G (c.says.fact 4 (f := .free "tuple") rfl)
    lst := free_ok X G (c.says.fact 5 (f := .free "list") rfl)
    len := free_ok X G (c.says.fact 6 (f := .free "len") rfl)
    all := free_ok X G (c.says.fact 7 (f := .free "all") rfl)
    rng := free_ok X G (c.says.fact 8 (f := .free "range") rfl)
    enu := free_ok X G (c.says.fact 9 (f := .free "enumerate") rfl)
    zip := free_ok X G (c.says.fact 10 (f := .free "zip") rfl)
    min := free_ok X G (c.says.fact 11 (f := .free "min") rfl)
    max := free_ok X G (c.says.fact 12 (f := .free "max") rfl)
    dm := free_ok X G (c.says.fact 13 (f := .free "divmod") rfl)
    byt := free_ok X G (c.says.fact 14 (f := .free "bytes") rfl)
    ValueError := free_ok X G (c.says.fact 15 (f := .free "ValueError") rfl)
    TypeError := free_ok X G (c.says.fact 16 (f := .free "TypeError") rfl)
    super := free_ok X G (c.says.fact 17 (f := .free "super") rfl)
    NotImplemented := free_ok X G (c.says.fact 18 (f := .free "NotImplemented") rfl)
    letters := str_ok X G (c.says.fact 19 (f := .str "LETTERS" "abcdefghijklmnopqrstuvwxyz") rfl)
    longest := int_ok X G (c.says.fact 20 (f := .int "LONGEST_WORD" 20) rfl)
    mostSteps := int_ok X G (c.says.fact 21 (f := .int "MOST_STEPS" 30) rfl)
    mostTimes := int_ok X G (c.says.fact 22 (f := .int "MOST_TIMES" 1000000000) rfl)
    c_FIGURES := str_ok X G (c.says.fact 23 (f := .str "FIGURES" "0123456789") rfl)
    c_MOST_FIGURES := int_ok X G (c.says.fact 24 (f := .int "MOST_FIGURES" 18) rfl)
    c_MARK := int_ok X G (c.says.fact 25 (f := .int "MARK" 80) rfl)
    c_WRITES := int_ok X G (c.says.fact 26 (f := .int "WRITES" 0) rfl)
    c_PASTES := int_ok X G (c.says.fact 27 (f := .int "PASTES" 1) rfl)
    c_GROUP := int_ok X G (c.says.fact 28 (f := .int "GROUP" 128) rfl)
    g_ROW_LENGTHS := glo_ok X G (c.says.fact 29 (f := .glo "ROW_LENGTHS") rfl)
    k_ROW_LENGTHS := ⟨c0.tab 0 _ rfl, fun p hp => by
      simp only [List.mem_cons, List.not_mem_nil, or_false] at hp
      rcases hp with rfl | rfl
      · exact nsInt_ok e0
      · exact nsInt_ok e1⟩
    gIsNumber := glo_ok X G (c.says.fact 30 (f := .glo "is_number") rfl)
    gIsLetter := glo_ok X G (c.says.fact 31 (f := .glo "is_letter") rfl)
    gIsWord := glo_ok X G (c.says.fact 32 (f := .glo "is_word") rfl)
    gCounts := glo_ok X G (c.says.fact 33 (f := .glo "key_counts") rfl)
    gAddW := glo_ok X G (c.says.fact 34 (f := .glo "_add_weight") rfl)
    gLeave := glo_ok X G (c.says.fact 35 (f := .glo "_leave_pasted") rfl)
    gCheckRange := glo_ok X G (c.says.fact 36 (f := .glo "_check_range") rfl)
    gIsStep := glo_ok X G (c.says.fact 37 (f := .glo "is_step") rfl)
    gSpanOf := glo_ok X G (c.says.fact 38 (f := .glo "span_of") rfl)
    gSpansOf := glo_ok X G (c.says.fact 39 (f := .glo "spans_of") rfl)
    gKeyAt := glo_ok X G (c.says.fact 40 (f := .glo "key_at") rfl)
    gMoved := glo_ok X G (c.says.fact 41 (f := .glo "moved_step") rfl)
    g_format_text := glo_ok X G (c.says.fact 42 (f := .glo "format_text") rfl)
    g_parse_text := glo_ok X G (c.says.fact 43 (f := .glo "parse_text") rfl)
    g_parsed_row := glo_ok X G (c.says.fact 44 (f := .glo "_parsed_row") rfl)
    g_is_right := glo_ok X G (c.says.fact 45 (f := .glo "_is_right") rfl)
    g_is_figures := glo_ok X G (c.says.fact 46 (f := .glo "_is_figures") rfl)
    g_key_table := glo_ok X G (c.says.fact 47 (f := .glo "key_table") rfl)
    g_pack_bytes := glo_ok X G (c.says.fact 48 (f := .glo "pack_bytes") rfl)
    g_unpack_bytes := glo_ok X G (c.says.fact 49 (f := .glo "unpack_bytes") rfl)
    g_encode_text := glo_ok X G (c.says.fact 50 (f := .glo "encode_text") rfl)
    g_step_values := glo_ok X G (c.says.fact 51 (f := .glo "_step_values") rfl)
    g_number_values := glo_ok X G (c.says.fact 52 (f := .glo "_number_values") rfl)
    g_checksum_of := glo_ok X G (c.says.fact 53 (f := .glo "checksum_of") rfl)
    g_decode_text := glo_ok X G (c.says.fact 54 (f := .glo "decode_text") rfl)
    g_next_step := glo_ok X G (c.says.fact 55 (f := .glo "_next_step") rfl)
    gTaken := glo_ok X G (c.says.fact 56 (f := .glo "_law_taken") rfl)
    gWord := glo_ok X G (c.says.fact 57 (f := .glo "_law_word") rfl)
    gSteps := glo_ok X G (c.says.fact 58 (f := .glo "_law_steps") rfl)
    g_law_long := glo_ok X G (c.says.fact 59 (f := .glo "_law_long") rfl)
    g_law_number := glo_ok X G (c.says.fact 60 (f := .glo "_law_number") rfl)
    g_law_is_table := glo_ok X G (c.says.fact 61 (f := .glo "_law_is_table") rfl)
    g_law_is_written := glo_ok X G (c.says.fact 62 (f := .glo "_law_is_written") rfl)
    g_law := glo_ok X G (c.says.fact 63 (f := .glo "law") rfl)
    g_TextError := glo_ok X G (c.says.fact 64 (f := .glo "TextError") rfl)
    g_InvalidStep := glo_ok X G (c.says.fact 65 (f := .glo "InvalidStep") rfl)
    g_TooLong := glo_ok X G (c.says.fact 66 (f := .glo "TooLong") rfl)
    g_InvalidPlace := glo_ok X G (c.says.fact 67 (f := .glo "InvalidPlace") rfl)
    g_InvalidNumber := glo_ok X G (c.says.fact 68 (f := .glo "InvalidNumber") rfl)
    g_NotationError := glo_ok X G (c.says.fact 69 (f := .glo "NotationError") rfl)
    g_InvalidCount := glo_ok X G (c.says.fact 70 (f := .glo "InvalidCount") rfl)
    g_DecodeError := glo_ok X G (c.says.fact 71 (f := .glo "DecodeError") rfl)
    gSpan := glo_ok X G (c.says.fact 72 (f := .glo "Span") rfl)
    clS := cls_ok (c.says.fact 73 (f := .cls "Span") rfl)
    mkS := mkr_ok (c.says.fact 74 (f := .mkr "Span") rfl)
    nS1 := noat_ok (c.says.fact 75 (f := .noat "Span" "begin") rfl)
    nS2 := noat_ok (c.says.fact 76 (f := .noat "Span" "end") rfl)
    nS3 := noat_ok (c.says.fact 77 (f := .noat "Span" "key") rfl)
    nS4 := noat_ok (c.says.fact 78 (f := .noat "Span" "source") rfl)
    nS5 := noat_ok (c.says.fact 79 (f := .noat "Span" "width") rfl)
    gText := glo_ok X G (c.says.fact 80 (f := .glo "Text") rfl)
    clT := cls_ok (c.says.fact 81 (f := .cls "Text") rfl)
    mkT := mkr_ok (c.says.fact 82 (f := .mkr "Text") rfl)
    nT1 := noat_ok (c.says.fact 83 (f := .noat "Text" "_steps") rfl)
    nT2 := noat_ok (c.says.fact 84 (f := .noat "Text" "spans") rfl)
    nT3 := noat_ok (c.says.fact 85 (f := .noat "Text" "_size") rfl)
    nT4 := noat_ok (c.says.fact 86 (f := .noat "Text" "_typed") rfl)
    cmOf := cmet_ok e2
    pSteps := prop_ok e3
    pTyped := prop_ok e4
    pSize := prop_ok e5
    callO := ⟨(op_ok e6).at_, (op_ok e6).fn, (op_ok e6).fi⟩
    oGet := op_ok e7
    mCheck := meth_ok (c.says.fact 87 (f := .meth "Text" "_check_place") rfl)
    o_Text_iter := op_ok e8
    oHas := op_ok e9
    oEq := op_ok e10
    oAdd := op_ok e11
    oMul := op_ok e12
    maxSize := cval_ok e13
    rd := cread_ok e14
    g_ByteSource := glo_ok X G (c.says.fact 88 (f := .glo "ByteSource") rfl)
    clByteSource := cls_ok (c.says.fact 89 (f := .cls "ByteSource") rfl)
    mkByteSource := mkr_ok (c.says.fact 90 (f := .mkr "ByteSource") rfl)
    n_ByteSource_data := noat_ok (c.says.fact 91 (f := .noat "ByteSource" "_data") rfl)
    n_ByteSource_offset := noat_ok (c.says.fact 92 (f := .noat "ByteSource" "offset") rfl)
    m_ByteSource_next_byte := meth_ok (c.says.fact 93 (f := .meth "ByteSource" "next_byte") rfl)
    m_ByteSource_next_number := meth_ok (c.says.fact 94 (f := .meth "ByteSource" "next_number") rfl)
    m_ByteSource_checksum := meth_ok (c.says.fact 95 (f := .meth "ByteSource" "checksum") rfl)
    ne_Span_Text := of_decide_eq_true e15
    ne_Span_ByteSource := of_decide_eq_true e16
    ne_Text_ByteSource := of_decide_eq_true e17
    tMul := opT_ok e18
    first := e19
    insT := ins_ok (cls_ok (c.says.fact 81 (f := .cls "Text") rfl)) e20
    csct := of_decide_eq_true e21
    subT := of_decide_eq_true e22
    neT := eqO_ok e23
    tupT := of_decide_eq_true e24 }
  obtain ⟨fd, F⟩ := c.says.def_ 33 (d := gD "law" (top 64)) rfl
  have e0 := hfa.symm.trans T.g_law
  cases e0
  have b := FunD.bindsA (ps := ["_law_script"]) F fun _ _ _ _ _ _ us hl => match us, hl with | [_], _ => rfl
  refine ⟨fd, fun s v => b s [v] rfl, fun base _ _ => ?_⟩
  have h_ok_taken : Kp P w K mg base 1 (ga K "_law_taken") (spTaken K) := ok_taken (c.says.def_ 26 (d := gD "_law_taken" (top 57)) rfl) T
  have h_ok_word : Kp P w K mg base 2 (ga K "_law_word") (spWord2 K) := ok_word (c.says.def_ 27 (d := gD "_law_word" (top 58)) rfl) T h_ok_taken
  have h_ok_steps : Kp P w K mg base 3 (ga K "_law_steps") (spSteps K) := ok_steps (c.says.def_ 28 (d := gD "_law_steps" (top 59)) rfl) T h_ok_taken h_ok_word
  have h_ok_is_word : Kp P w K mg base 1 (ga K "is_word") spIsWord := ok_is_word (c.says.def_ 2 (d := gD "is_word" (top 6)) rfl) T
  have h_ok_is_number : Kp P w K mg base 1 (ga K "is_number") spIsNumber := ok_is_number (c.says.def_ 0 (d := gD "is_number" (top 4)) rfl) T
  have h_ok_is_step : Kp P w K mg base 2 (ga K "is_step") (spIsStep K) := ok_is_step (c.says.def_ 7 (d := gD "is_step" (top 25)) rfl) T h_ok_is_word h_ok_is_number
  have h_ok_span_init : Kp P w K mg base 1 (ma K (CS K) "__init__") (spSpanInit (CS K)) := ok_span_init (c.says.def_ 34 (d := mD "Span" "__init__" "Span.__init__" (inClass (top 24) 0)) rfl) T
  have h_ok_span_of : Kp P w K mg base 3 (ga K "span_of") (spSpanOf K) := ok_span_of (c.says.def_ 8 (d := gD "span_of" (top 26)) rfl) T h_ok_span_init
  have h_ok_spans_of : Kp P w K mg base 4 (ga K "spans_of") (spSpansOf K) := ok_spans_of (c.says.def_ 9 (d := gD "spans_of" (top 27)) rfl) T h_ok_is_step h_ok_span_of
  have h_ok_init : FnR P w K mg base CX0 5 (ma K (CT K) "__init__") (spInit5 K) := ok_init (c.says.def_ 35 (d := mD "Text" "__init__" "Text.__init__" (inClass (top 31) 1)) rfl) T h_ok_spans_of
  have h_ok_of : Kp P w K mg base 7 (wf K (CT K) "classmethod" "of_steps") (spOf K) := ok_of (c.says.def_ 36 (d := cD "Text" "of_steps" "Text.of_steps" (inClass (top 31) 3)) rfl) T h_ok_init
  have h_ok_moved : Kp P w K mg base 1 (ga K "moved_step") (spMoved K) := ok_moved (c.says.def_ 11 (d := gD "moved_step" (top 29)) rfl) T
  have h_ok_add : Kp P w K mg base 7 (ma K (CT K) "__add__") (spAdd K) := ok_add (c.says.def_ 46 (d := mD "Text" "__add__" "Text.__add__" (inClass (top 31) 13)) rfl) T h_ok_init h_ok_moved
  have h_ok_mul : Kp P w K mg base 7 (ma K (CT K) "__mul__") (spMul K) := ok_mul (c.says.def_ 47 (d := mD "Text" "__mul__" "Text.__mul__" (inClass (top 31) 14)) rfl) T h_ok_init h_ok_is_number
  have h_ok_size : Kp P w K mg base 1 (pgA K (CT K) "size") (spSize K) := ok_size (c.says.def_ 39 (d := pD "Text" "size" "Text.size" (inClass (top 31) 6)) rfl) T
  have h_ok_law_long : Kp P w K mg base 12 (ga K "_law_long") (spLong K) := ok_law_long (c.says.def_ 29 (d := gD "_law_long" (top 60)) rfl) T h_ok_taken h_ok_steps h_ok_of h_ok_add h_ok_mul h_ok_size
  have h_ok_stepsp : Kp P w K mg base 1 (pgA K (CT K) "steps") (spStepsP K) := ok_stepsp (c.says.def_ 37 (d := pD "Text" "steps" "Text.steps" (inClass (top 31) 4)) rfl) T
  have h_ok_format_text : Kp P w K mg base 5 (ga K "format_text") (spFormat K) := ok_format_text (c.says.def_ 12 (d := gD "format_text" (top 36)) rfl) T h_ok_stepsp
  have h_ok_unpack_bytes : Kp P w K mg base 1 (ga K "unpack_bytes") (spUnpack K) := ok_unpack_bytes (c.says.def_ 19 (d := gD "unpack_bytes" (top 49)) rfl) T
  have h_ok_number_values : Kp P w K mg base 1 (ga K "_number_values") (spNumVal K) := ok_number_values (c.says.def_ 22 (d := gD "_number_values" (top 52)) rfl) T
  have h_ok_step_values : Kp P w K mg base 3 (ga K "_step_values") (spStepVal K) := ok_step_values (c.says.def_ 21 (d := gD "_step_values" (top 51)) rfl) T h_ok_number_values
  have h_ok_pack_bytes : Kp P w K mg base 2 (ga K "pack_bytes") (spPack K) := ok_pack_bytes (c.says.def_ 18 (d := gD "pack_bytes" (top 48)) rfl) T h_ok_is_number
  have h_ok_checksum_of : Kp P w K mg base 1 (ga K "checksum_of") (spChk K) := ok_checksum_of (c.says.def_ 23 (d := gD "checksum_of" (top 53)) rfl) T
  have h_ok_encode_text : Kp P w K mg base 5 (ga K "encode_text") (spEncode K) := ok_encode_text (c.says.def_ 20 (d := gD "encode_text" (top 50)) rfl) T h_ok_stepsp h_ok_step_values h_ok_pack_bytes h_ok_checksum_of
  have h_ok_is_figures : Kp P w K mg base 1 (ga K "_is_figures") (spFigs K) := ok_is_figures (c.says.def_ 16 (d := gD "_is_figures" (top 40)) rfl) T
  have h_ok_is_right : Kp P w K mg base 2 (ga K "_is_right") (spRight K) := ok_is_right (c.says.def_ 15 (d := gD "_is_right" (top 39)) rfl) T h_ok_is_word h_ok_is_figures
  have h_ok_parsed_row : Kp P w K mg base 3 (ga K "_parsed_row") (spRowOf K) := ok_parsed_row (c.says.def_ 14 (d := gD "_parsed_row" (top 38)) rfl) T h_ok_is_right
  have h_ok_parse_text : Kp P w K mg base 7 (ga K "parse_text") (spParse K) := ok_parse_text (c.says.def_ 13 (d := gD "parse_text" (top 37)) rfl) T h_ok_parsed_row h_ok_init
  have h_ok_ByteSource_init : Kp P w K mg base 1 (ma K (ga K "ByteSource") "__init__") (spBsInit K) := ok_ByteSource_init (c.says.def_ 48 (d := mD "ByteSource" "__init__" "ByteSource.__init__" (inClass (top 47) 0)) rfl) T
  have h_ok_ByteSource_next_byte : Kp P w K mg base 1 (ma K (ga K "ByteSource") "next_byte") (spNextB K) := ok_ByteSource_next_byte (c.says.def_ 49 (d := mD "ByteSource" "next_byte" "ByteSource.next_byte" (inClass (top 47) 1)) rfl) T
  have h_ok_ByteSource_checksum : Kp P w K mg base 2 (ma K (ga K "ByteSource") "checksum") (spBsChk K) := ok_ByteSource_checksum (c.says.def_ 51 (d := mD "ByteSource" "checksum" "ByteSource.checksum" (inClass (top 47) 3)) rfl) T h_ok_checksum_of
  have h_ok_ByteSource_next_number : Kp P w K mg base 3 (ma K (ga K "ByteSource") "next_number") (spNextN K) := ok_ByteSource_next_number (c.says.def_ 50 (d := mD "ByteSource" "next_number" "ByteSource.next_number" (inClass (top 47) 2)) rfl) T h_ok_ByteSource_next_byte
  have h_ok_next_step : Kp P w K mg base 4 (ga K "_next_step") (spNextStep K) := ok_next_step (c.says.def_ 25 (d := gD "_next_step" (top 55)) rfl) T h_ok_ByteSource_next_byte h_ok_ByteSource_next_number
  have h_ok_decode_text : Kp P w K mg base 7 (ga K "decode_text") (spDecode K) := ok_decode_text (c.says.def_ 24 (d := gD "decode_text" (top 54)) rfl) T h_ok_ByteSource_init h_ok_ByteSource_next_byte h_ok_ByteSource_checksum h_ok_next_step h_ok_span_of h_ok_init
  have h_ok_eq : Kp P w K mg base 1 (ma K (CT K) "__eq__") (spEqT K) := ok_eq (c.says.def_ 45 (d := mD "Text" "__eq__" "Text.__eq__" (inClass (top 31) 12)) rfl) T
  have h_ok_law_is_written : Kp P w K mg base 13 (ga K "_law_is_written") (spIsWritten K) := ok_law_is_written (c.says.def_ 32 (d := gD "_law_is_written" (top 63)) rfl) T h_ok_format_text h_ok_unpack_bytes h_ok_encode_text h_ok_parse_text h_ok_decode_text h_ok_pack_bytes h_ok_eq h_ok_stepsp
  have h_ok_checkrange : Kp P w K mg base 3 (ga K "_check_range") (spCheckRange K) := ok_checkrange (c.says.def_ 6 (d := gD "_check_range" (top 20)) rfl) T h_ok_is_number h_ok_size
  have h_ok_typed : Kp P w K mg base 1 (pgA K (CT K) "typed_keys") (spTyped K) := ok_typed (c.says.def_ 38 (d := pD "Text" "typed_keys" "Text.typed_keys" (inClass (top 31) 5)) rfl) T
  have h_ok_addw : Kp P w K mg base 1 (ga K "_add_weight") spAddW := ok_addw (c.says.def_ 4 (d := gD "_add_weight" (top 18)) rfl)
  have h_ok_leave : Kp P w K mg base 2 (ga K "_leave_pasted") (spLeave K) := ok_leave (c.says.def_ 5 (d := gD "_leave_pasted" (top 19)) rfl) T h_ok_addw
  have h_ok_counts : Kp P w K mg base 4 (ga K "key_counts") (spCounts K) := ok_counts (c.says.def_ 3 (d := gD "key_counts" (top 17)) rfl) T h_ok_checkrange h_ok_typed h_ok_addw h_ok_leave
  have h_ok_key_table : Kp P w K mg base 12 (ga K "key_table") (spTable K) := ok_key_table (c.says.def_ 17 (d := gD "key_table" (top 41)) rfl) T h_ok_counts h_ok_size h_ok_typed
  have h_ok_law_number : Kp P w K mg base 1 (ga K "_law_number") (spNumber K) := ok_law_number (c.says.def_ 30 (d := gD "_law_number" (top 61)) rfl) T
  have h_ok_law_is_table : Kp P w K mg base 13 (ga K "_law_is_table") (spIsTable K) := ok_law_is_table (c.says.def_ 31 (d := gD "_law_is_table" (top 62)) rfl) T h_ok_key_table h_ok_counts h_ok_law_number h_ok_size h_ok_typed
  exact ok_law F T h_ok_taken h_ok_steps h_ok_law_long h_ok_word h_ok_law_is_written h_ok_law_is_table h_ok_of h_ok_add h_ok_eq h_ok_init h_ok_stepsp h_ok_format_text h_ok_parse_text h_ok_unpack_bytes h_ok_encode_text
end KL
open PySem PySem.W PySem.Calls PyProof.Rows
theorem PySem.Challenge.cw_pastekeys_k17_whole_rows_and_bytes_holds : PySem.Challenge.rw_pastekeys_k17_whole_rows_and_bytes.Holds := by
  w_on; o_law
  refine HandSHeadRun.head_any (r := KL.R) (q := view KL.R.prog [64]) (H := KL.hk) (ob := KL.ob) (M := 12000) (loose := KL.loose) (d := HandSHeadRun.topDef KL.R.prog 64) (kwd := []) KL.ob_eq
    (by kernel_rfl) (fun s => by kernel_rfl) KL.run (by kernel_rfl) (by kernel_rfl) (by kernel_rfl) (by rfl) (by first | assumption | decide +kernel) (by decide +kernel) ⟨rfl, rfl, rfl, rfl, rfl, by decide +kernel⟩ ?hw ?hc
  case hw => w_witness2
  case hc =>
    refine L2.walk_ofE (l := PySem.Challenge.rw_pastekeys_k17_whole_rows_and_bytes) (n := 63) (k := 40) (x := "_law_script") (CX := L2.CX0) rfl (by decide) (by kernel_rfl) ⟨rfl, by decide, by decide⟩ ?F (fun _ _ _ _ z => z)
    intro w mg fa h Y G hmg0
    obtain ⟨K, KX, c⟩ := Y
    have hmg : mg ("law" : PySem.Str) = some (.ref fa) := by
      have e : (HandSHeadRun.topDef KL.R.prog 64).name = ("law" : PySem.Str) := by kernel_rfl
      rw [← e]
      exact hmg0
    obtain ⟨fd, hb, hF⟩ := KL.facts (P := (PySem.Challenge.rw_pastekeys_k17_whole_rows_and_bytes).prog) (w := w) KX G hmg c
    exact ⟨K, fd, KL.spLaw K, KX, hb, fun H a ns hl _ hS => ⟨a, ns, rfl, hS, fun _ => rfl⟩, hF⟩
