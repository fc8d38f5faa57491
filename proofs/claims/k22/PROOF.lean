import PyProof.Rows.All
import Wide.All
import OpenK.AllK
import Wide.FinOn
import HandS.ForMost
import HandS.ExcInit
import HandS.IsInst
import HandS.RaiseMore
import HandS.Wide
import HandS.Codes
import HandS.Steps
import HandS.Zip
import HandS.Evl
import HandS.ExcIs
import KE.KExcIs
import HandS.ExcValue
import HandS.Exc
import HandS.TryMany
import HandS.Gcd
import HandS.ExcField
import HandS.Lambda
import HandS.CallLocal
import HandS.Style
import HandS.StrMore
import HandS.WordsExc
import HandS.WideBits
import HandS.EndTab
import KE.KNestM
import HandS.Head0
import HandS.Head1
import HandS.Head2
import HandS.Head3
import HandS.HeadHook4
import KE.KDictZip
import HandS.GenList
import HandS.TryOnly
import HandS.TupAny
import HandS.Star
import KE.KRevSl
import PyProof.SliceList
import HandS.List
import HandS.Walk
import HandS.Defaults
import HandS.MakeKw
import PySem.Challenge.RW_flowpapers_k22_rooms_refused
set_option Elab.async false
set_option linter.all false
set_option maxRecDepth 100000
set_option maxHeartbeats 4000000
/-! Defs that are run where no repr is under way: what repr and == of data ask. -/
namespace GL
open PySem PySem.Spec PyProof.Rows L2

/-- nothing is being shown -/
abbrev Quiet (A : Around) : Prop := A.guards = some []

/-- as FnOk, asked only where nothing is being shown -/
structure OkG (P : Program) (w : World) (K : PySem.W.Frag) (mg : Str → Option Value) (base : Heap) (CX : CXT) (k : Nat) (f : Addr) (fd : FuncData) (ps : List Str) (sp : Sp) : Prop where
  len : ∀ vs H Q E, sp vs H Q E → vs.length = ps.length
  run : ∀ (A : Around) (outer : List Env) (s : Shared) (H : Hp) (args : Args) (us : List Value) (vs : List V) (Q : VK) (E : XK), Room k A → Quiet A → Env0 P w K mg base A outer s H →
    BindsTo s fd args (ps.zip us) → Vals vs us → sp vs H Q E → codeAny (model P w) A (.call (.ref f) args) (CR CX outer P w H s Q E) s

section
variable {P : Program} {w : World} {K : PySem.W.Frag} {mg : Str → Option Value} {base : Heap} {CX : CXT} {k : Nat} {f : Addr} {fd : FuncData} {ps : List Str} {sp : Sp}
theorem OkG.of (F : FnOk P w K mg base CX k f fd ps sp) : OkG P w K mg base CX k f fd ps sp :=
  ⟨F.len, fun A outer s H args us vs Q E hr _ e0 hb r h => F.run A outer s H args us vs Q E hr e0 hb r h⟩
theorem OkG.mono {j : Nat} (F : OkG P w K mg base CX j f fd ps sp) (h : j ≤ k) : OkG P w K mg base CX k f fd ps sp :=
  ⟨F.len, fun A outer s H args us vs Q E hr hq e0 hb r z => F.run A outer s H args us vs Q E (hr.mono h) hq e0 hb r z⟩

/-- a def by its body, where nothing is being shown -/
theorem okG {x qual : Str} {st : Stmt} {N : List Str} (F : Fun K x qual st f fd) (S : FnScope N ps (defScope st)) (len : ∀ vs H Q E, sp vs H Q E → vs.length = ps.length)
    (body : ∀ (cdv : Value) (A : Around) (outer : List Env) (s : Shared) (H : Hp) (vs : List V) (Q : VK) (E : XK), Room k (A.deeper (envOfC qual (defScope st) s.heap.objs.size f cdv)) → Quiet A → sp vs H Q E →
      ∃ t, PSs (cxOf CX P w K mg base N qual (defScope st) f cdv A outer s H E) (defBody st) t ∧ t { nx := fun _ H' => Q .non H', rt := Q } (start N vs) H) :
    OkG P w K mg base CX (k + 1) f fd ps sp := by
  obtain ⟨oc, od, kV, doc, pm, an, cdv, ct, osl, rfl, lk, hcd⟩ := F.ex
  refine ⟨len, fun A outer s H args us vs Q E hr hq e0 hb r hsp => ?_⟩
  have enough := len _ _ _ _ hsp
  have inK : K.In s.heap := e0.mod.kin.keeps (fun b o e => (e0.bs b o e).1)
  have nl : s.heap.NoLimit := e0.mod.nolimit.keeps (fun b o e => (e0.bs b o e).1)
  refine codeAny_call_function hr.depth (inK _ _ lk) rfl S.co S.gen rfl (PySem.W.codeRec_of inK hcd) (hb _ _ _ _ ?_)
  refine wpAny_newFunctionEnv_cells S.kind ?_ (fun env he s1 x => ?_)
  · rintro ⟨n, v⟩ hy
    cases S.par n (List.of_mem_zip hy).1 with
    | inl q => exact .inl q
    | inr q => exact .inr ⟨q, PySem.W.cellsFrom_some _ _ _ (.inl q)⟩
  subst he
  refine ⟨nl.keeps x.toInCall.keep, codeAny_func ?_⟩
  obtain ⟨t, ht, hT⟩ := body cdv A outer s H vs Q E (hr.deeper _) hq hsp
  have I0 := inv_start (CX := CX) (E := E) S hr.hd e0 enough r x
  refine wpAny_mono (ht.run [] s1 (start N vs) H _ I0 hT) (fun fl s' hs => ?_) (fun e s' hs => hs)
  cases fl with
  | ret u =>
    obtain ⟨v, _, H', J, rv, q⟩ := hs
    exact ⟨v, H', J.os, J.bare, J.base, J.hok, rv, q⟩
  | next =>
    obtain ⟨_, H', J, q⟩ := hs
    exact ⟨V.non, H', J.os, J.bare, J.base, J.hok, rfl, q⟩
  | brk => obtain ⟨_, _, _, q⟩ := hs; exact q.elim
  | cont => obtain ⟨_, _, _, q⟩ := hs; exact q.elim
end

/-- .. from which no exception leaves -/
theorem okG0 {P : Program} {w : World} {K : PySem.W.Frag} {mg : Str → Option Value} {base : Heap} {k : Nat} {f : Addr} {fd : FuncData} {ps : List Str} {sp : Sp} {x qual : Str} {st : Stmt} {N : List Str} (F : Fun K x qual st f fd) (S : FnScope N ps (defScope st))
    (len : ∀ vs H Q E, sp vs H Q E → vs.length = ps.length)
    (body : ∀ (cdv : Value) (A : Around) (outer : List Env) (s : Shared) (H : Hp) (vs : List V) (Q : VK) (E : XK), Room k (A.deeper (envOfC qual (defScope st) s.heap.objs.size f cdv)) → Quiet A → sp vs H Q E →
      ∃ t, PSs (cxOf CX0 P w K mg base N qual (defScope st) f cdv A outer s H E).nox (defBody st) t ∧ t { nx := fun _ H' => Q .non H', rt := Q } (start N vs) H) : OkG P w K mg base CX0 (k + 1) f fd ps sp :=
  okG F S len fun cdv A outer s H vs Q E hr hq h => by
    obtain ⟨t, h1, h2⟩ := body cdv A outer s H vs Q E hr hq h
    exact ⟨t, h1.nox, h2⟩
section
variable {X : Cx} {CX : CXT} {k : Nat} {f : Addr} {fd : FuncData} {ps : List Str} {sp : Sp} {dvs : List V} {ds : List Value} {E : XK}
/-- a call of such a def -/
theorem run_fnG {pins : List (Addr × Obj)} {σ : L2.St} {H : Hp} {s : Shared} {Q : VK} {us : List Value} {vs : List V} (F : OkG X.prog X.w X.K X.mg X.base CX k f fd ps sp) (hr : Room k X.A) (hq : Quiet X.A)
    (hb : Binds X.K fd ps ds) (hd : Vals dvs ds) (hx : Passes CX X E) (I : Inv X pins σ H s) (r : Vals vs us) (h : sp (vs ++ dvs) H Q E) :
    wpAny (model X.prog X.w) X.A (call (.ref f) us) (EP X pins σ Q) X.xe s := by
  have both := r.append hd
  have hl : (us ++ ds).length = ps.length := both.length.symm.trans (F.len _ _ _ _ h)
  have run := F.run X.A X.stack s H ⟨us, []⟩ (us ++ ds) (vs ++ dvs) Q E hr hq I.env0 (hb s us I.kIn hl) both h
  refine wpAny_call (codeAny_mono run fun r s' z => ?_)
  cases r with
  | error e => exact hx pins σ H s e s' I z
  | ok fl => cases fl with
    | ret u => exact I.after z
    | next => exact z.elim
    | brk => exact z.elim
    | cont => exact z.elim
variable {x : Str} {p pos : Pos} {e : Expr} {es : List Expr} {t : TA}
theorem pe_callG (F : OkG X.prog X.w X.K X.mg X.base CX k f fd ps sp) (hr : Room k X.A) (hq : Quiet X.A) (hg : Gl X x) (hm : X.mg x = some (.ref f)) (hk : PySem.W.keepIn X.K (.ref f) = true)
    (hb : Binds X.K fd ps ds) (hd : Vals dvs ds) (hx : Passes CX X E) (ha : PA X (e :: es) t) (hdb : (x == ("__debug__" : Str)) = false := by decide)
    (he : starEach (e :: es) X.env = (false, eval e X.env) :: starEach es X.env := by rfl) (hpl : (backTo pos (starEach es X.env)).any (·.1) = false := by rfl) :
    PE X (.Call (.Name x p) (e :: es) [] pos) (tCall sp dvs E t) :=
  ⟨fun pins s σ H Q I h => wpAny_Call_Name_kw (ld_glob I hg hm (PySem.W.callWith_K (h₀ := X.base) I.ok.mod.kin hk
    (thn (ha.run pos pins s σ H _ I h) fun us s1 ⟨vs, H1, I1, r, q⟩ => ⟨I1.kIn, run_fnG F hr hq hb hd hx I1 r q⟩) he hpl) hdb)⟩
end

/-! ### repr -/
/-- repr of data that can be shown -/
def rRepr (K : PySem.W.Frag) : List V → Hp → VK → Prop := fun xs H Q => ∃ (v : V) (d : PyData), xs = [v] ∧ Dp K H v d ∧ d.showable = true ∧ d.hasDict = false ∧ d.depth ≤ 40 ∧ d.shown.length ≤ sizeLine ∧ Q (.str d.shown) H
theorem call_repr {X : Cx} (hq : Quiet X.A) (hu : X.A.units + 64 < cLine) : CallR X (.builtin "repr") (rRepr X.K) := by
  intro pins s σ H xs us Q I r h
  obtain ⟨v, d, rfl, hd, hs, hn, hp, hz, q⟩ := h
  cases r with
  | cons rv rn =>
    rename_i u us'
    cases rn
    obtain ⟨as, rd⟩ := Dp.reads I d v u hd rv
    cases hd with
    | non => cases rv; exact PySem.P.repr_of_none ⟨.str _, H, I.tok _, ⟨_, rfl⟩, q⟩
    | bl b => cases rv; exact PySem.P.repr_of_bool ⟨.str _, H, I.tok _, ⟨_, rfl⟩, q⟩
    | int i =>
      obtain ⟨t, rfl⟩ := rv
      exact PySem.P.repr_of_int (of_decide_eq_true hs) ⟨.str _, H, I.tok _, ⟨_, rfl⟩, q⟩
    | str x =>
      obtain ⟨t, rfl⟩ := rv
      exact PySem.P.repr_of_str ⟨.str _, H, I.tok _, ⟨_, rfl⟩, q⟩
    | lst a b =>
      cases rv
      exact repr_of_reads' rd hs (PyData.noDict_hsm hn) hq (by omega) (fun _ _ e => e) (fun h' u tk hk => ⟨.str _, H, I.kept hk, ⟨_, rfl⟩, q⟩) hz
    | tup a b =>
      cases rv
      exact repr_of_reads' rd hs (PyData.noDict_hsm hn) hq (by omega) (fun _ _ e => e) (fun h' u tk hk => ⟨.str _, H, I.kept hk, ⟨_, rfl⟩, q⟩) hz

/-! ### values at a heap that stays -/
section
variable {σ : L2.St} {H : Hp} {i : Nat} {v x y z : V} {ta tb te tv : TE} {b : Bool} {K : PySem.W.Frag} {D : Ends} {p : Addr} {kvs : List (Key × V)} {k : Key}
theorem v_I0 {g : Int → Int → V} {i j : Int} (ha : Val ta σ H (.int i)) (hb : Val tb σ H (.int j)) : Val (tOp (rI0 g) ta tb) σ H (g i j) := val_op ha hb fun Q q => ⟨i, j, rfl, rfl, q⟩
theorem v_I {C : Int → Int → Prop} {g : Int → Int → V} {i j : Int} (ha : Val ta σ H (.int i)) (hb : Val tb σ H (.int j)) (hc : C i j) : Val (tOp (rI C g) ta tb) σ H (g i j) := val_op ha hb fun Q q => ⟨i, j, rfl, rfl, hc, q⟩
theorem v_add {i j : Int} (ha : Val ta σ H (.int i)) (hb : Val tb σ H (.int j)) : Val (tOp (rI0 fun i j => .int (i + j)) ta tb) σ H (.int (i + j)) := v_I0 ha hb
theorem v_sub {i j : Int} (ha : Val ta σ H (.int i)) (hb : Val tb σ H (.int j)) : Val (tOp (rI0 fun i j => .int (i - j)) ta tb) σ H (.int (i - j)) := v_I0 ha hb
theorem v_mul {C : Int → Int → Prop} {i j : Int} (ha : Val ta σ H (.int i)) (hb : Val tb σ H (.int j)) (hc : C i j) : Val (tOp (rI C fun i j => .int (i * j)) ta tb) σ H (.int (i * j)) := v_I ha hb hc
theorem v_pow {i j : Int} (ha : Val ta σ H (.int i)) (hb : Val tb σ H (.int j)) (hc : 0 ≤ j ∧ j ≤ 1000000 ∧ i.natAbs < 2 ^ 64) : Val (tOp (rI CPow fun i j => .int (i ^ j.toNat)) ta tb) σ H (.int (i ^ j.toNat)) := v_I ha hb hc
theorem v_mod {C : Int → Int → Prop} {i j : Int} (ha : Val ta σ H (.int i)) (hb : Val tb σ H (.int j)) (hc : C i j) : Val (tOp (rI C fun i j => .int (i % j)) ta tb) σ H (.int (i % j)) := v_I ha hb hc
theorem v_div {C : Int → Int → Prop} {i j : Int} (ha : Val ta σ H (.int i)) (hb : Val tb σ H (.int j)) (hc : C i j) : Val (tOp (rI C fun i j => .int (i / j)) ta tb) σ H (.int (i / j)) := v_I ha hb hc
theorem v_fmod {C : Int → Int → Prop} {i j : Int} (ha : Val ta σ H (.int i)) (hb : Val tb σ H (.int j)) (hc : C i j) : Val (tOp (rI C fun i j => .int (i.fmod j)) ta tb) σ H (.int (i.fmod j)) := v_I ha hb hc
theorem v_fdiv {C : Int → Int → Prop} {i j : Int} (ha : Val ta σ H (.int i)) (hb : Val tb σ H (.int j)) (hc : C i j) : Val (tOp (rI C fun i j => .int (i.fdiv j)) ta tb) σ H (.int (i.fdiv j)) := v_I ha hb hc
theorem v_get (h : Val te σ H (.ref p)) (hp : H p = some (.dK kvs)) (hv : valV kvs k = some v) : Val (tDGet te (tC (kV k))) σ H v := fun Q q => h _ ⟨p, v, rfl, .inl ⟨kvs, k, .inl hp, rfl, hv.symm⟩, q⟩
theorem v_int1 {i : Int} (h : Val te σ H (.int i)) : Val (tCB (fun xs H Q => (∃ i, xs = [.int i] ∧ Q (.int i) H) ∨ ∃ k, xs = [.bl k] ∧ Q (.int (if k then 1 else 0)) H) (tCons te tNil)) σ H (.int i) :=
  fun Q q => h _ (.inl ⟨i, rfl, q⟩)
theorem v_len {xs : List V} (h : Val te σ H (.ref p)) (hx : SqL K H p xs ∨ SqT K H p xs) : Val (tCB (fun xs H Q => ∃ p ys, xs = [.ref p] ∧ (SqL K H p ys ∨ SqT K H p ys) ∧ Q (.int ys.length) H) (tCons te tNil)) σ H (.int (xs.length : Int)) :=
  fun Q q => h _ ⟨p, xs, rfl, hx, q⟩
theorem v_ixL {xs : List V} {n : Nat} (h : Val te σ H (.ref p)) (hi : Val tb σ H (.int (n : Int))) (hx : SqL K H p xs) (he : xs[n]? = some v) : Val (tOp (rIxL K) te tb) σ H v :=
  val_op h hi fun Q q => ⟨p, xs, n, v, rfl, rfl, hx, atI_nat he, q⟩
theorem v_ixT {xs : List V} {n : Nat} (h : Val te σ H (.ref p)) (hi : Val tb σ H (.int (n : Int))) (hx : SqT K H p xs) (he : xs[n]? = some v) : Val (tOp (rIxT K) te tb) σ H v :=
  val_op h hi fun Q q => ⟨p, xs, n, v, rfl, rfl, hx, atI_nat he, q⟩
/-- values of an argument list -/
def VA (ta : TA) (σ : L2.St) (H : Hp) (vs : List V) : Prop := ∀ Q : List V → Hp → Prop, Q vs H → ta σ H Q
theorem va_nil : VA tNil σ H [] := fun _ q => q
theorem va_cons {tr : TA} {vs : List V} (h : Val te σ H v) (hr : VA tr σ H vs) : VA (tCons te tr) σ H (v :: vs) := fun Q q => h _ (hr _ q)
theorem l_lst {ta : TA} {vs : List V} {Q : VK} (h : VA ta σ H vs) (hl : vs.length ≤ 100000) (q : ∀ p, H p = none → Q (.ref p) (upd H p (.lst vs))) : tLst ta σ H Q := h _ ⟨Nat.le_trans hl (by decide), q⟩
theorem l_tup {ta : TA} {vs : List V} {Q : VK} (h : VA ta σ H vs) (hl : vs.length ≤ 100000) (q : ∀ p, H p = none → Q (.ref p) (upd H p (.tup vs))) : tTup ta σ H Q := h _ ⟨Nat.le_trans hl (by decide), q⟩
theorem v_cb {r : List V → Hp → VK → Prop} {ta : TA} {vs : List V} {z : V} (h : VA ta σ H vs) (hr : ∀ Q : VK, Q z H → r vs H Q) : Val (tCB r ta) σ H z := fun Q q => h _ (hr Q q)
theorem c_call {sp : Sp} {E : XK} {ta : TA} {vs : List V} {Q : VK} (h : VA ta σ H vs) (q : sp vs H Q E) : tCall sp [] E ta σ H Q := h _ (by rw [List.append_nil]; exact q)
theorem s_put (h0 : Val te σ H (.ref p)) (h : Val tv σ H v) (hp : H p = some (.dK kvs)) (hl : kvs.length ≤ 100) (q : D.nx σ (upd H p (.dK (putK kvs k v)))) : sDPut te (tC (kV k)) tv D σ H :=
  h _ (h0 _ ⟨p, _, rfl, DPut.k hp (Nat.lt_of_le_of_lt hl (by decide)), q⟩)
theorem a_I {g : Int → Int → Bool} {i j : Int} (ha : Val ta σ H (.int i)) (hb : Val tb σ H (.int j)) : Ans (tTest (tOp (rI0 fun i j => .bl (g i j)) ta tb)) σ H (g i j) := ans_cmp ha hb fun Q q => ⟨i, j, rfl, rfl, q⟩
theorem st_if {t : TT} {t1 t2 : TS} (h : Ans t σ H b) (h1 : b = true → t1 D σ H) (h2 : b = false → t2 D σ H) : tIfS t t1 t2 D σ H := by
  cases b with
  | true => exact st_yes h (h1 rfl)
  | false => exact st_no h (h2 rfl)
end

/-- a walk over enumerate of a list -/
theorem for_enumL {K : PySem.W.Frag} {a : Addr} {xs : List V} {g : TG} {tb : TS} {D : Ends} {σ : L2.St} {H : Hp} (Pv : Nat → L2.St → Hp → Prop) (h0 : Pv 0 σ H) (hq : ∀ i σ H, Pv i σ H → SqL K H a xs)
    (hs : ∀ (i : Nat) (x : V) (T : Addr) (σ : L2.St) (H : Hp), xs[i]? = some x → Pv i σ H → H T = none → g (.ref T) σ (upd H T (.tup [.int (i : Nat), x])) fun σ2 H2 => tb { D with nx := Pv (i + 1), ct := Pv (i + 1), bk := D.nx } σ2 H2)
    (hd : ∀ σ H, Pv xs.length σ H → D.nx σ H) :
    ∃ W : Nat → Nat → L2.St → Hp → Prop, (∃ m, W 0 m σ H) ∧ ∀ i m σ H, W i m σ H →
      ((Ite K a).stop i H ∧ D.nx σ H) ∨ ((Ite K a).go i H ∧ ∃ N : L2.St → Hp → Prop, (∀ σ' H', N σ' H' → ∃ m', m' < m ∧ W (i + 1) m' σ' H') ∧ ∀ v H', (Ite K a).yld i H v H' → g v σ H' fun σ2 H2 => tb { D with nx := N, ct := N, bk := D.nx } σ2 H2) := by
  refine ⟨fun i m σ H => m = xs.length - i ∧ i ≤ xs.length ∧ Pv i σ H, ⟨_, rfl, Nat.zero_le _, h0⟩, ?_⟩
  rintro i m σ H ⟨rfl, hi, p⟩
  have q := hq i σ H p
  rcases Nat.lt_or_ge i xs.length with lt | ge
  · refine .inr ⟨⟨xs, xs[i], q, List.getElem?_eq_getElem lt⟩, Pv (i + 1), fun σ' H' p' => ⟨xs.length - (i + 1), by omega, rfl, lt, p'⟩, ?_⟩
    rintro v H' ⟨T, x, rfl, hT, rfl, f⟩
    exact hs i x T σ H (f xs q) p hT
  · obtain rfl : i = xs.length := by omega
    exact .inl ⟨⟨xs, q, Nat.le_refl _⟩, hd σ H p⟩
theorem Same.new' {H : Hp} {p : Addr} {o : HO} (h : H p = none) : Same H (upd H p o) := fun b u e => by
  rw [upd_ne (ne_of_none e h)]
  exact e
/-- a sum of a list and a list of written items -/
theorem l_catL {σ : L2.St} {H : Hp} {ta : TE} {tb : TA} {Q : VK} {l : Addr} {xs ys : List V} (ha : Val ta σ H (.ref l)) (hl : H l = some (.lst xs)) (hb : VA tb σ H ys) (h1 : xs.length ≤ 1000) (h2 : ys.length ≤ 1000)
    (k : ∀ p H', Same H H' → H' p = some (.lst (xs ++ ys)) → Q (.ref p) H') : tOp rCat ta (tLst tb) σ H Q := by
  refine ha _ (hb _ ⟨Nat.le_trans h2 (by decide), fun b nb => ⟨l, b, xs, ys, rfl, rfl, ?_, upd_same, Nat.le_trans (Nat.add_le_add h1 h2) (by decide), fun p np => k p _ ?_ upd_same⟩⟩)
  · rw [upd_ne (ne_of_none hl nb)]; exact hl
  · exact (Same.new' nb).trans (Same.new' np)
section
variable {σ : L2.St} {H : Hp} {i : Nat} {ta : TE} {tb : TA} {D : Ends} {l : Addr} {xs ys : List V}
theorem s_lst (h : VA tb σ H ys) (hl : ys.length ≤ 100000) (q : ∀ p H', Same H H' → H' p = some (.lst ys) → D.nx (σ.set i (some (.ref p))) H') : tAsg (tLst tb) (gName i) D σ H := h _ ⟨Nat.le_trans hl (by decide), fun p hp => q p _ (Same.new' hp) upd_same⟩
theorem s_catL (ha : Val ta σ H (.ref l)) (hl : H l = some (.lst xs)) (hb : VA tb σ H ys) (h1 : xs.length ≤ 1000) (h2 : ys.length ≤ 1000)
    (k : ∀ p H', Same H H' → H' p = some (.lst (xs ++ ys)) → D.nx (σ.set i (some (.ref p))) H') : tAsg (tOp rCat ta (tLst tb)) (gName i) D σ H := l_catL (Q := fun v H' => gName i v σ H' D.nx) ha hl hb h1 h2 k
theorem r_catL (ha : Val ta σ H (.ref l)) (hl : H l = some (.lst xs)) (hb : VA tb σ H ys) (h1 : xs.length ≤ 1000) (h2 : ys.length ≤ 1000)
    (k : ∀ p H', Same H H' → H' p = some (.lst (xs ++ ys)) → D.rt (.ref p) H') : tRet (tOp rCat ta (tLst tb)) D σ H := l_catL (Q := D.rt) ha hl hb h1 h2 k
end
/-! ### statements in a row: what follows stays as it is written -/
section
variable {σ : L2.St} {H : Hp} {i : Nat} {ta te tv : TE} {tb : TA} {D : Ends} {l p : Addr} {xs ys : List V} {tz t1 t2 : TS} {v : V} {kvs : List (Key × V)} {k : Key} {t : TT} {b : Bool}
theorem q_lst (h : VA tb σ H ys) (hl : ys.length ≤ 100000) (q : ∀ p H', Same H H' → H' p = some (.lst ys) → tz D (σ.set i (some (.ref p))) H') : tSeq (tAsg (tLst tb) (gName i)) tz D σ H := s_lst (D := { D with nx := tz D }) h hl q
theorem q_catL (ha : Val ta σ H (.ref l)) (hl : H l = some (.lst xs)) (hb : VA tb σ H ys) (h1 : xs.length ≤ 1000) (h2 : ys.length ≤ 1000)
    (q : ∀ p H', Same H H' → H' p = some (.lst (xs ++ ys)) → tz D (σ.set i (some (.ref p))) H') : tSeq (tAsg (tOp rCat ta (tLst tb)) (gName i)) tz D σ H := s_catL (D := { D with nx := tz D }) ha hl hb h1 h2 q
theorem q_set (h : Val te σ H v) (q : tz D (σ.set i (some v)) H) : tSeq (tAsg te (gName i)) tz D σ H := h _ q
theorem q_put (h0 : Val te σ H (.ref p)) (h : Val tv σ H v) (hp : H p = some (.dK kvs)) (hl : kvs.length ≤ 100) (q : tz D σ (upd H p (.dK (putK kvs k v)))) : tSeq (sDPut te (tC (kV k)) tv) tz D σ H := s_put (D := { D with nx := tz D }) h0 h hp hl q
/-- any expression that is stored: its own reading, then what follows -/
theorem q_asg (h : te σ H fun v H' => tz D (σ.set i (some v)) H') : tSeq (tAsg te (gName i)) tz D σ H := h
theorem q_if (h : Ans t σ H b) (h1 : b = true → t1 { D with nx := tz D } σ H) (h2 : b = false → t2 { D with nx := tz D } σ H) : tSeq (tIfS t t1 t2) tz D σ H := st_if (D := { D with nx := tz D }) h h1 h2
/-- an if without else -/
theorem q_when (h : Ans t σ H b) (h1 : b = true → t1 { D with nx := tz D } σ H) (h2 : b = false → tz D σ H) : tSeq (tIfS t t1 tNext) tz D σ H := st_if (D := { D with nx := tz D }) h h1 h2
theorem q_unless (h : Ans t σ H false) (q : tz D σ H) : tSeq (tIfS t t1 tNext) tz D σ H := st_no (D := { D with nx := tz D }) h q
theorem r_ret (h : te σ H D.rt) : tRet te D σ H := h
end
/-! ### expressions that make things -/
def EM (te : TE) (σ : L2.St) (H : Hp) (P : V → Hp → Prop) : Prop := ∀ Q : VK, (∀ v H', Same H H' → P v H' → Q v H') → te σ H Q
def VM (tb : TA) (σ : L2.St) (H : Hp) (R : List V → Hp → Prop) : Prop := ∀ Q : List V → Hp → Prop, (∀ vs H', Same H H' → R vs H' → Q vs H') → tb σ H Q
def Stays {α : Type} (R : α → Hp → Prop) : Prop := ∀ x H1 H2, Same H1 H2 → R x H1 → R x H2
/-- a row whose items are of one kind each, by their places from k on -/
def Run (P : Nat → V → Hp → Prop) : Nat → List V → Hp → Prop
  | _, [], _ => True
  | k, v :: r, H => P k v H ∧ Run P (k + 1) r H
theorem Run.keep {P : Nat → V → Hp → Prop} (st : ∀ k, Stays (P k)) : ∀ {k : Nat} {xs : List V} {H1 H2 : Hp}, Same H1 H2 → Run P k xs H1 → Run P k xs H2
  | _, [], _, _, _, _ => trivial
  | _, _ :: _, _, _, s, ⟨a, b⟩ => ⟨st _ _ _ _ s a, Run.keep st s b⟩
theorem Run.app {P : Nat → V → Hp → Prop} {H : Hp} : ∀ {k : Nat} {xs ys : List V}, Run P k xs H → Run P (k + xs.length) ys H → Run P k (xs ++ ys) H
  | _, [], _, _, b => b
  | k, v :: r, ys, ⟨a, c⟩, b => ⟨a, Run.app c (by rw [List.length_cons] at b; rw [show k + 1 + r.length = k + (r.length + 1) by omega]; exact b)⟩
theorem Run.get {P : Nat → V → Hp → Prop} {H : Hp} : ∀ {k : Nat} {xs : List V} {i : Nat} {v : V}, Run P k xs H → xs[i]? = some v → P (k + i) v H
  | _, [], _, _, _, e => by simp at e
  | _, _ :: _, 0, _, ⟨a, _⟩, e => by simp at e; subst e; exact a
  | k, _ :: r, i + 1, v, ⟨_, b⟩, e => by
    have q := Run.get (i := i) (v := v) b (by simpa using e)
    rw [show k + (i + 1) = k + 1 + i by omega]
    exact q
/-- the row's kinds, and how many -/
def Rows (P : Nat → V → Hp → Prop) (k n : Nat) (xs : List V) (H : Hp) : Prop := Run P k xs H ∧ xs.length = n
theorem Rows.stays {P : Nat → V → Hp → Prop} (st : ∀ k, Stays (P k)) {k n : Nat} : Stays (Rows P k n) := fun _ _ _ s h => ⟨Run.keep st s h.1, h.2⟩
section
variable {σ : L2.St} {H : Hp} {i : Nat} {ta te : TE} {tb tr : TA} {D : Ends} {l p : Addr} {xs ys ws : List V} {tz : TS} {P : Nat → V → Hp → Prop} {k n : Nat} {R : List V → Hp → Prop}
theorem vm_nil : VM tNil σ H (Rows P k 0) := fun Q q => q [] H (Same.refl H) ⟨trivial, rfl⟩
theorem vm_cons (st : ∀ k, Stays (P k)) (h : EM te σ H (P k)) (hr : ∀ H1, Same H H1 → VM tr σ H1 (Rows P (k + 1) n)) : VM (tCons te tr) σ H (Rows P k (n + 1)) := fun Q q =>
  h _ fun v H1 s1 p1 => hr H1 s1 _ fun r H2 s2 ⟨r2, e2⟩ => q (v :: r) H2 (s1.trans s2) ⟨⟨st k v H1 H2 s2 p1, r2⟩, by rw [List.length_cons, e2]⟩
theorem em_lst (h : VA tb σ H ws) (hl : ws.length ≤ 100000) : EM (tLst tb) σ H (fun v H' => ∃ q, v = .ref q ∧ H' q = some (.lst ws)) := fun Q q =>
  h _ ⟨Nat.le_trans hl (by decide), fun a ha => q _ _ (Same.new' ha) ⟨a, rfl, upd_same⟩⟩
theorem q_lstM (st : Stays R) (h : VM tb σ H R) (hl : ∀ vs H', R vs H' → vs.length ≤ 1000) (q : ∀ p vs H', Same H H' → H' p = some (.lst vs) → R vs H' → tz D (σ.set i (some (.ref p))) H') : tSeq (tAsg (tLst tb) (gName i)) tz D σ H :=
  h _ fun vs H1 s1 r1 => ⟨Nat.le_trans (hl vs H1 r1) (by decide), fun a ha => q a vs _ (s1.trans (Same.new' ha)) upd_same (st _ _ _ (Same.new' ha) r1)⟩
theorem l_catM {Q : VK} (st : Stays R) (ha : Val ta σ H (.ref l)) (hl : H l = some (.lst xs)) (h1 : xs.length ≤ 1000) (h : VM tb σ H R) (h2 : ∀ vs H', R vs H' → vs.length ≤ 1000)
    (q : ∀ p vs H', Same H H' → H' p = some (.lst (xs ++ vs)) → R vs H' → Q (.ref p) H') : tOp rCat ta (tLst tb) σ H Q :=
  ha _ (h _ fun vs H1 s1 r1 => ⟨Nat.le_trans (h2 vs H1 r1) (by decide), fun b nb => ⟨l, b, xs, vs, rfl, rfl, (Same.new' nb) _ _ (s1 _ _ hl), upd_same, Nat.le_trans (Nat.add_le_add h1 (h2 vs H1 r1)) (by decide),
    fun p np => q p vs _ (s1.trans ((Same.new' nb).trans (Same.new' np))) upd_same (st _ _ _ ((Same.new' nb).trans (Same.new' np)) r1)⟩⟩)
theorem q_catM (st : Stays R) (ha : Val ta σ H (.ref l)) (hl : H l = some (.lst xs)) (h1 : xs.length ≤ 1000) (h : VM tb σ H R) (h2 : ∀ vs H', R vs H' → vs.length ≤ 1000)
    (q : ∀ p vs H', Same H H' → H' p = some (.lst (xs ++ vs)) → R vs H' → tz D (σ.set i (some (.ref p))) H') : tSeq (tAsg (tOp rCat ta (tLst tb)) (gName i)) tz D σ H :=
  l_catM (Q := fun v H' => gName i v σ H' (tz D)) st ha hl h1 h h2 q
theorem r_catM (st : Stays R) (ha : Val ta σ H (.ref l)) (hl : H l = some (.lst xs)) (h1 : xs.length ≤ 1000) (h : VM tb σ H R) (h2 : ∀ vs H', R vs H' → vs.length ≤ 1000)
    (q : ∀ p vs H', Same H H' → H' p = some (.lst (xs ++ vs)) → R vs H' → D.rt (.ref p) H') : tRet (tOp rCat ta (tLst tb)) D σ H := l_catM (Q := D.rt) st ha hl h1 h h2 q
end
/-! ### walks, what follows stays as it is written -/
section
variable {K : PySem.W.Frag} {σ : L2.St} {H : Hp} {g : TG} {ta : TA} {te : TE} {tb tz : TS} {D : Ends} {a b : Addr} {xs ys : List V}
theorem q_forR1 {n : Nat} (h : VA ta σ H [.int (n : Int)]) (hn : n ≤ 100000) (Pv : Nat → L2.St → Hp → Prop) (h0 : Pv 0 σ H)
    (hs : ∀ i σ H, i < n → Pv i σ H → g (.int (i : Int)) σ H fun σ2 H2 => tb { D with nx := Pv (i + 1), ct := Pv (i + 1), bk := tz D } σ2 H2) (hd : ∀ σ H, Pv n σ H → tz D σ H) : tSeq (tFor (iRng1 ta) g tb) tz D σ H :=
  h _ ⟨(n : Int), rfl, by omega, by omega, for_range (lo := 0) (n := (n : Int).toNat) (D := { D with nx := tz D }) Pv h0 (fun i σ H hi p => by rw [Int.zero_add]; exact hs i σ H (by omega) p) (fun σ H p => hd σ H (by rw [Int.toNat_natCast] at p; exact p))⟩
theorem q_forL (h : Val te σ H (.ref a)) (hx : SqL K H a xs) (Pv : Nat → L2.St → Hp → Prop) (h0 : Pv 0 σ H) (hl : ∀ i σ H, i ≤ xs.length → Pv i σ H → SqL K H a xs)
    (hs : ∀ i x σ H, xs[i]? = some x → Pv i σ H → g x σ H fun σ2 H2 => tb { D with nx := Pv (i + 1), ct := Pv (i + 1), bk := tz D } σ2 H2) (hd : ∀ σ H, Pv xs.length σ H → tz D σ H) : tSeq (tFor (iList K te) g tb) tz D σ H :=
  h _ ⟨a, rfl, ⟨_, hx⟩, for_list (K := K) (a := a) (xs := xs) (D := { D with nx := tz D }) Pv h0 hl hs hd⟩
theorem q_forE (h : VA ta σ H [.ref a]) (hx : SqL K H a xs) (Pv : Nat → L2.St → Hp → Prop) (h0 : Pv 0 σ H) (hq : ∀ i σ H, Pv i σ H → SqL K H a xs)
    (hs : ∀ (i : Nat) (x : V) (T : Addr) (σ : L2.St) (H : Hp), xs[i]? = some x → Pv i σ H → H T = none → g (.ref T) σ (upd H T (.tup [.int (i : Nat), x])) fun σ2 H2 => tb { D with nx := Pv (i + 1), ct := Pv (i + 1), bk := tz D } σ2 H2)
    (hd : ∀ σ H, Pv xs.length σ H → tz D σ H) : tSeq (tFor (iEnum K ta) g tb) tz D σ H :=
  h _ ⟨a, xs, rfl, hx, for_enumL (D := { D with nx := tz D }) Pv h0 hq hs hd⟩
/-- two names from a pair -/
theorem g_two {i j : Nat} {x y : V} {T : Addr} {K' : L2.St → Hp → Prop} (hT : SqT K H T [x, y]) (q : K' ((σ.set i (some x)).set j (some y)) H) : gTup K 2 (gCons (gName i) (gCons (gName j) gNil)) (.ref T) σ H K' :=
  ⟨T, _, rfl, hT, rfl, x, _, rfl, y, _, rfl, rfl, q⟩
end
section
variable {K : PySem.W.Frag} {σ : L2.St} {H : Hp} {t1 te to : TE} {tb : TA} {D : Ends} {l : Addr} {xs : List V} {v x : V} {i : Nat} {R : List V → Hp → Prop}
theorem g_name {K' : L2.St → Hp → Prop} (q : K' (σ.set i (some v)) H) : gName i v σ H K' := q
/-- xs.append(e) -/
theorem s_app (h : Val to σ H (.ref l)) (hl : H l = some (.lst xs)) (he : te σ H fun v H1 => ∃ ys, H1 l = some (.lst ys) ∧ ys.length ≤ 1000 ∧ D.nx σ (upd H1 l (.lst (ys ++ [v])))) (mono : ∀ {R S : VK}, (∀ v H', R v H' → S v H') → te σ H R → te σ H S) :
    tDrop (tBM K "list" rAppend to (tCons te tNil)) D σ H :=
  h _ ⟨.inl ⟨rfl, _, SqL.of hl⟩, mono (fun v H1 ⟨ys, h1, h2, q⟩ => ⟨l, ys, v, rfl, rfl, h1, Nat.lt_of_le_of_lt h2 (by decide), q⟩) he⟩
theorem s_appC (h : Val to σ H (.ref l)) (hl : H l = some (.lst xs)) (he : te σ H fun v H1 => rAppend (.ref l) [v] H1 fun _ H2 => D.nx σ H2) : tDrop (tBM K "list" rAppend to (tCons te tNil)) D σ H := h _ ⟨.inl ⟨rfl, _, SqL.of hl⟩, he⟩
/-- f(x, [e, ..]) -/
theorem c_callL {sp : Sp} {E : XK} {Q : VK} (h1 : Val t1 σ H x) (st : Stays R) (h2 : VM tb σ H R) (hl : ∀ vs H', R vs H' → vs.length ≤ 1000) (q : ∀ l vs H', Same H H' → H' l = some (.lst vs) → R vs H' → sp [x, .ref l] H' Q E) :
    tCall sp [] E (tCons t1 (tCons (tLst tb) tNil)) σ H Q :=
  h1 _ (h2 _ fun vs H1 s1 r1 => ⟨Nat.le_trans (hl vs H1 r1) (by decide), fun a ha => q a vs _ (s1.trans (Same.new' ha)) upd_same (st _ _ _ (Same.new' ha) r1)⟩)
theorem v_neg {n : Int} (h : Val te σ H (.int n)) : Val (tUn (rU fun i => .int (-i)) te) σ H (.int (-n)) := fun Q q => h _ ⟨n, rfl, q⟩
theorem v_str {n : Int} (h : Val te σ H (.int n)) (hz : n.natAbs.log2 < 1920) : Val (tCB (fun xs H Q => ∃ i, xs = [.int i] ∧ i.natAbs.log2 < 1920 ∧ Q (.str (toString i)) H) (tCons te tNil)) σ H (.str (toString n)) := fun Q q => h _ ⟨n, rfl, hz, q⟩
theorem v_cats {a b : Str} (h1 : Val t1 σ H (.str a)) (h2 : Val te σ H (.str b)) (hz : a.length + b.length ≤ 100000) : Val (tOp (fun x y H Q => ∃ i j, x = .str i ∧ y = .str j ∧ i.length + j.length ≤ sizeLine ∧ Q (.str (i ++ j)) H) t1 te) σ H (.str (a ++ b)) :=
  fun Q q => h1 _ (h2 _ ⟨a, b, rfl, rfl, Nat.le_trans hz (by decide), q⟩)
theorem em_tup {ws : List V} {P : V → Hp → Prop} (h : VA tb σ H ws) (hl : ws.length ≤ 100000) (q : ∀ a H', H' a = some (.tup ws) → P (.ref a) H') : EM (tTup tb) σ H P := fun Q k => l_tup h hl fun a ha => k _ _ (Same.new' ha) (q a _ upd_same)
theorem em_lst' {ws : List V} {P : V → Hp → Prop} (h : VA tb σ H ws) (hl : ws.length ≤ 100000) (q : ∀ a H', H' a = some (.lst ws) → P (.ref a) H') : EM (tLst tb) σ H P := fun Q k => l_lst h hl fun a ha => k _ _ (Same.new' ha) (q a _ upd_same)
/-- {k: e} -/
theorem em_dic1 {key : Key} {P : V → Hp → Prop} (h : ∀ H1, Val te σ H1 v) (q : ∀ a H', H' a = some (.dK [(key, v)]) → P (.ref a) H') : EM (tDisp [(tC (kV key), te)]) σ H P := fun Q k a ha =>
  h _ _ ⟨upd_same, [(key, v)], rfl, by show 1 ≤ 15; decide, k _ _ (by
    have e : mergeK [] [(key, v)] = [(key, v)] := rfl
    rw [e, upd_upd]
    exact Same.new' ha) (q a _ upd_same)⟩
end
section
variable {K : PySem.W.Frag} {σ : L2.St} {H : Hp} {t1 t2 te to : TE} {ta tb : TA} {tu tw tz : TS} {D : Ends} {a b l : Addr} {xs ys : List V} {x y v w : V} {i j : Nat} {r : R2} {Q : VK}
theorem q_lst0 (h : VA tb σ H ys) (hl : ys.length ≤ 100000) (q : ∀ p, H p = none → tz D (σ.set i (some (.ref p))) (upd H p (.lst ys))) : tSeq (tAsg (tLst tb) (gName i)) tz D σ H := h _ ⟨Nat.le_trans hl (by decide), q⟩
theorem Val.is (h : Val te σ H v) (e : v = w) : Val te σ H w := e ▸ h
/-- an if over a comparison, part by part -/
theorem st_cmp (h : t1 σ H fun x H1 => t2 σ H1 fun y H2 => r x y H2 fun z H3 => ∃ b, z = .bl b ∧ if b = true then tu D σ H3 else tw D σ H3) : tIfS (tTest (tOp r t1 t2)) tu tw D σ H := h
theorem q_cmp (h : t1 σ H fun x H1 => t2 σ H1 fun y H2 => r x y H2 fun z H3 => ∃ b, z = .bl b ∧ if b = true then tu { D with nx := tz D } σ H3 else tw { D with nx := tz D } σ H3) : tSeq (tIfS (tTest (tOp r t1 t2)) tu tw) tz D σ H := h
theorem ta_two {Q : List V → Hp → Prop} (h : t1 σ H fun v H1 => t2 σ H1 fun w H2 => Q [v, w] H2) : tCons t1 (tCons t2 tNil) σ H Q := h
theorem cb_one {r : List V → Hp → VK → Prop} (h : te σ H fun v H1 => r [v] H1 Q) : tCB r (tCons te tNil) σ H Q := h
theorem l_slHi (h : Val te σ H (.ref a)) (hx : SqL K H a xs) {n : Int} (hi : Val t1 σ H (.int n)) (q : ∀ p H', Same H H' → H' p = some (.lst (cutV xs none (some n))) → Q (.ref p) H') : tSl (rSlL K) te tNoPart (tPart t1) σ H Q :=
  h _ (hi _ ⟨n, rfl, a, xs, rfl, hx, fun p hp => q p _ (Same.new' hp) upd_same⟩)
theorem v_eq (h1 : Val t1 σ H x) (h2 : Val t2 σ H y) (hs : scal x y = true) : Val (tOp rEq t1 t2) σ H (.bl (decide (x = y))) := val_op h1 h2 fun Q q => ⟨hs, q⟩
/-- [e for x in range(n)] -/
theorem l_lcR1 {n : Nat} {vs : List Nat} (h : VA ta σ H [.int (n : Int)]) (hn : n ≤ 10000) (f : Nat → V) (hw : ∀ x, wipe ((wipe σ vs).set j (some x)) vs = wipe σ vs)
    (hv : ∀ i H1, i < n → Same H H1 → Val te ((wipe σ vs).set j (some (.int (i : Int)))) H1 (f i)) (q : ∀ p H', Same H H' → H' p = some (.lst ((List.range n).map f)) → Q (.ref p) H') : tLc (iRng1 ta) (gName j) tYes te vs σ H Q := by
  refine h _ ⟨(n : Int), rfl, by omega, by omega, fun D hD => lc_range (lo := 0) (n := (n : Int).toNat) (fun i H' => Same H H' ∧ H' D = some (.lst ((List.range i).map f)) ∧ H D = none) ⟨Same.new' hD, upd_same, hD⟩ (fun i H1 hi ⟨s, e, nD⟩ => ?_) (fun H1 ⟨s, e, _⟩ => q D H1 s (by rw [Int.toNat_natCast] at e; exact e))⟩
  refine g_name ⟨hw _, ?_⟩
  show (if true = true then te _ _ _ else (Same H H1 ∧ H1 D = some (.lst ((List.range (i + 1)).map f)) ∧ H D = none))
  rw [if_pos rfl]
  have hv0 : Val te ((wipe σ vs).set j (some (.int (0 + (i : Int))))) H1 (f i) := by
    rw [Int.zero_add]
    exact hv i H1 (by omega) s
  refine hv0 _ ⟨_, e, by rw [List.length_map, List.length_range]; exact Nat.lt_of_lt_of_le (show i < 10000 by omega) (by decide), ?_, ?_, nD⟩
  · intro b o z
    rw [upd_ne (ne_of_none z nD)]
    exact s b o z
  · rw [upd_same, List.range_succ, List.map_append]
    rfl
/-- for a, b in zip(xs, ys) -/
theorem q_forZ {g : TG} (h : ta σ H fun vs H1 => ∃ a b xs ys, vs = [.ref a, .ref b] ∧ SqL K H1 a xs ∧ SqL K H1 b ys ∧ xs.length = ys.length ∧ ∃ Pv : Nat → L2.St → Hp → Prop, Pv 0 σ H1 ∧ (∀ i σ H, Pv i σ H → SqL K H a xs ∧ SqL K H b ys) ∧
      (∀ (i : Nat) (x y : V) (T : Addr) (σ : L2.St) (H : Hp), xs[i]? = some x → ys[i]? = some y → Pv i σ H → H T = none → g (.ref T) σ (upd H T (.tup [x, y])) fun σ2 H2 => tu { D with nx := Pv (i + 1), ct := Pv (i + 1), bk := tz D } σ2 H2) ∧ ∀ σ H, Pv xs.length σ H → tz D σ H)
    (mono : ∀ {R S : List V → Hp → Prop}, (∀ v H', R v H' → S v H') → ta σ H R → ta σ H S) : tSeq (tFor (iZip K ta) g tu) tz D σ H :=
  mono (fun vs H1 ⟨a, b, xs, ys, e, h1, h2, hl, Pv, p0, hq, hs, hd⟩ => ⟨a, b, xs, ys, e, h1, h2, RZ.for_zipL (D := { D with nx := tz D }) hl Pv p0 hq hs hd⟩) h
theorem zipW {g : TG} (hl : xs.length = ys.length) (Pv : Nat → L2.St → Hp → Prop) (p0 : Pv 0 σ H) (hq : ∀ i σ H, Pv i σ H → SqL K H a xs ∧ SqL K H b ys)
    (hs : ∀ (i : Nat) (x y : V) (T : Addr) (σ : L2.St) (H : Hp), xs[i]? = some x → ys[i]? = some y → Pv i σ H → H T = none → g (.ref T) σ (upd H T (.tup [x, y])) fun σ2 H2 => tu { D with nx := Pv (i + 1), ct := Pv (i + 1), bk := tz D } σ2 H2) (hd : ∀ σ H, Pv xs.length σ H → tz D σ H) :
    ∃ W : Nat → Nat → L2.St → Hp → Prop, (∃ m, W 0 m σ H) ∧ ∀ i m σ H, W i m σ H →
      ((Itz K a b).stop i H ∧ tz D σ H) ∨ ((Itz K a b).go i H ∧ ∃ N : L2.St → Hp → Prop, (∀ σ' H', N σ' H' → ∃ m', m' < m ∧ W (i + 1) m' σ' H') ∧ ∀ v H', (Itz K a b).yld i H v H' → g v σ H' fun σ2 H2 => tu { D with nx := N, ct := N, bk := tz D } σ2 H2) :=
  RZ.for_zipL (D := { D with nx := tz D }) hl Pv p0 hq hs hd
/-- .. where the row of both is known -/
theorem q_forZ' {g : TG} (h : ta σ H fun vs H1 => ∃ a b xs ys, vs = [.ref a, .ref b] ∧ SqL K H1 a xs ∧ SqL K H1 b ys ∧ ∃ W : Nat → Nat → L2.St → Hp → Prop, (∃ m, W 0 m σ H1) ∧ ∀ i m σ H, W i m σ H →
      ((Itz K a b).stop i H ∧ tz D σ H) ∨ ((Itz K a b).go i H ∧ ∃ N : L2.St → Hp → Prop, (∀ σ' H', N σ' H' → ∃ m', m' < m ∧ W (i + 1) m' σ' H') ∧ ∀ v H', (Itz K a b).yld i H v H' → g v σ H' fun σ2 H2 => tu { D with nx := N, ct := N, bk := tz D } σ2 H2)) : tSeq (tFor (iZip K ta) g tu) tz D σ H := h
end
/-! ### what the top has written, by names -/
@[irreducible] def fA (mg : Str → Option Value) (x : Str) : Addr := match mg x with
  | some (.ref a) => a
  | _ => 0
@[irreducible] def fDat (K : PySem.W.Frag) (f : Addr) : FuncData := match K.lookup f with
  | some ⟨_, _, .func fd, _⟩ => fd
  | _ => default
/-- the def x of the text -/
structure Df (K : PySem.W.Frag) (mg : Str → Option Value) (x : Str) (st : Stmt) (ps : List Str) : Prop where
  g : mg x = some (.ref (fA mg x))
  F : Fun K x x st (fA mg x) (fDat K (fA mg x))
  b : Binds K (fDat K (fA mg x)) ps []
theorem fA_of {mg : Str → Option Value} {x : Str} {a : Addr} (h : mg x = some (.ref a)) : fA mg x = a := by
  unfold fA
  rw [h]
theorem fDat_of {K : PySem.W.Frag} {f : Addr} {oc : Value} {od : Option Addr} {fd : FuncData} {sl : Array (Option Value)} (h : K.lookup f = some ⟨oc, od, .func fd, sl⟩) : fDat K f = fd := by
  unfold fDat
  rw [h]
theorem Df.mk' {K : PySem.W.Frag} {mg : Str → Option Value} {x : Str} {st : Stmt} {ps : List Str} {h : Heap} {f : Addr} {oc : Value} {od an : Option Addr} {osl : Array (Option Value)} {kV doc pm cdv ct : Value} (X : K.In h) (G : h.Ns mainGlobals mg)
    (a : PySem.W.nsIn K mainGlobals x = some (some (.ref f))) (l : K.lookup f = some ⟨oc, od, .func (PySem.W.fnOf x x (defArgs st) (defBody st) (defScope st) .none kV doc pm an cdv ct), osl⟩)
    (c : PySem.W.codeIn K cdv x = true) (k : PySem.W.keepIn K (.ref f) = true)
    (bi : ∀ (kV doc pm : Value) (an : Option Addr) (cdv ct : Value) (us : List Value), us.length = ps.length → bindArgs (PySem.W.fnOf x x (defArgs st) (defBody st) (defScope st) .none kV doc pm an cdv ct) ⟨us, []⟩ = pure (ps.zip us)) : Df K mg x st ps := by
  have e := PySem.W.mg_of X G a
  have F := fun_mk (st := st) l c k
  have e1 := fA_of e
  have e2 := fDat_of l
  refine ⟨by rw [e1]; exact e, ?_, ?_⟩
  · rw [e1, e2]; exact F
  · rw [e1, e2]; exact F.binds bi
/-- the law's own argument -/
theorem bind_one {x : Str} {st : Stmt} {p : Str} {kV doc pm cdv ct : Value} {an : Option Addr} (h : ∀ u : Value, bindArgs (PySem.W.fnOf x x (defArgs st) (defBody st) (defScope st) .none kV doc pm an cdv ct) ⟨[u], []⟩ = pure [(p, u)]) (s : Shared) (u : Value) :
    BindsTo s (PySem.W.fnOf x x (defArgs st) (defBody st) (defScope st) .none kV doc pm an cdv ct) ⟨[u], []⟩ [(p, u)] := .of_eq (h u)
section
variable {X : Cx} {k : Nat} {x : Str} {st : Stmt} {ps : List Str} {sp : Sp} {p pos : Pos} {e : Expr} {es : List Expr} {t : TA}
/-- a call of the def x -/
theorem pe_c (d : Df X.K X.mg x st ps) (G : FnOk X.prog X.w X.K X.mg X.base CX0 k (fA X.mg x) (fDat X.K (fA X.mg x)) ps sp) (hr : Room k X.A) (ha : PA X (e :: es) t) (hg : Gl X x := by rfl) (hdb : (x == ("__debug__" : Str)) = false := by decide)
    (he : starEach (e :: es) X.env = (false, eval e X.env) :: starEach es X.env := by rfl) (hpl : (backTo pos (starEach es X.env)).any (·.1) = false := by rfl) : PE X (.Call (.Name x p) (e :: es) [] pos) (tCall sp [] E0 t) :=
  pe_call G hr hg d.g d.F.kp d.b .nil pass0 ha hdb he hpl
theorem pe_cG (d : Df X.K X.mg x st ps) (G : OkG X.prog X.w X.K X.mg X.base CX0 k (fA X.mg x) (fDat X.K (fA X.mg x)) ps sp) (hr : Room k X.A) (hq : Quiet X.A) (ha : PA X (e :: es) t) (hg : Gl X x := by rfl) (hdb : (x == ("__debug__" : Str)) = false := by decide)
    (he : starEach (e :: es) X.env = (false, eval e X.env) :: starEach es X.env := by rfl) (hpl : (backTo pos (starEach es X.env)).any (·.1) = false := by rfl) : PE X (.Call (.Name x p) (e :: es) [] pos) (tCall sp [] E0 t) :=
  pe_callG G hr hq hg d.g d.F.kp d.b .nil pass0 ha hdb he hpl
/-- a class's name as a value -/
theorem pe_cls {C : Addr} (hm : X.mg x = some (.ref C)) (hg : Gl X x := by rfl) (hd : (x == ("__debug__" : Str)) = false := by decide) : PE X (.Name x pos) (tC (.ref C)) := pe_glob hg hm rfl hd
end
theorem hu64 {A : Around} {k : Nat} (hr : Room k A) : A.units + 64 < cLine := hr.units

/-! ### the law's end, where nothing is being shown -/
section
variable {P : Program} {w : World} {K : PySem.W.Frag} {mg mb : Str → Option Value} {k : Nat} {fa a : Addr} {fd : FuncData} {x : Str} {sp : Sp} {s₁ : Shared} {vs : List Value} {ns : List Int}
/-- what the law's call must do -/
abbrev Law (P : Program) (w : World) (fa a : Addr) (s₁ : Shared) : Prop :=
  codeAny (model P w) callerA (.call (.ref fa) ⟨[.ref a], []⟩) (fun r s' => r = .ok (.ret (.bool true)) ∧ OldK s₁.heap s'.heap ∧ s'.os = s₁.os ∧ AllBare s'.gens) s₁
/-- from one abstract heap that knows the script at most -/
theorem law_from (KX : K.In s₁.heap) (hns : s₁.heap.Ns mainGlobals mg) (hb : s₁.heap.Ns builtinsNs mb) (hbb : ∀ x : Str, x ≠ "__name__" → mb x = bootBuiltins x) (hlim : s₁.heap.NoLimit) (hg : s₁.gens = #[])
    (ha : s₁.heap.get? a = some { cls := .type "list", data := .seq vs.toArray }) (hr : Room k callerA)
    (F : ∀ base : Heap, K.In base → base.Ns mainGlobals mg → OkG P w K mg base CX0 k fa fd [x] sp) (hbind : ∀ (s : Shared) (u : Value), BindsTo s fd ⟨[u], []⟩ [(x, u)])
    {H : Hp} (hO : Only H) (hsp : sp [.ref a] H (fun v _ => v = .bl true) fun _ _ _ => False) (hok : HOk P w H s₁.heap) (hA : ∀ b, H b ≠ none → b = a) (hK : H a ≠ none → K.lookup a = none) : Law P w fa a s₁ := by
  have off : ∀ {b : Addr}, b ≠ a → H b = none := fun {b} nb => Decidable.byContradiction fun z => nb (hA b z)
  have kOff : ∀ {b : Addr} {o : Obj}, K.lookup b = some o → H b = none := fun {b o} e => Decidable.byContradiction fun z => by
    have q := hA b z
    subst q
    rw [hK z] at e
    cases e
  have dOff : ∀ {b : Addr} {o : Obj} {es : Array DictEntry} {ep : Nat}, s₁.heap.get? b = some o → o.data = .dict es ep → H b = none := fun {b o es ep} e d => by
    by_cases q : b = a
    · subst q
      rw [ha] at e
      cases e
      cases d
    · exact off q
  have ns' : ∀ {b : Addr} {m : Str → Option Value}, s₁.heap.Ns b m → (hidT s₁.heap H).Ns b m := fun {b m} z => by
    obtain ⟨o, es, ep, e, d, r⟩ := z
    exact ⟨o, es, ep, hidT_get e (dOff e d), d, r⟩
  have kIn' : K.In (hidT s₁.heap H) := fun b o e => hidT_get (KX b o e) (kOff e)
  obtain ⟨mc, l1, l2⟩ := hlim
  have e0 : Env0 P w K mg (hidT s₁.heap H) callerA [] s₁ H := ⟨rfl, ⟨kIn', ns' hns, ⟨mb, ns' hb, hbb⟩, ⟨mc, ns' l1, l2⟩⟩, fun b o e => of_hidT e, Nat.le_of_eq (hidT_size _ _), trivial, (fun b z => nomatch z), hok, .of_eq hg⟩
  have run := (F _ kIn' (ns' hns)).run callerA [] s₁ H ⟨[.ref a], []⟩ [.ref a] [.ref a] _ _ hr rfl e0 (hbind s₁ (.ref a)) (.cons rfl .nil) hsp
  refine codeAny_mono run fun r s' z => ?_
  cases r with
  | error e => exact z.elim
  | ok fl => cases fl with
    | next => exact z.elim
    | brk => exact z.elim
    | cont => exact z.elim
    | ret u =>
      obtain ⟨v, H', os, bare, un, hok', rv, ev⟩ := z
      have ev' : v = .bl true := ev
      subst ev'
      cases (show u = Value.bool true from rv)
      refine ⟨rfl, OldK.of_keep fun b o e => ?_, os, bare⟩
      rcases hO b with q | ⟨ob, xs, q⟩
      · exact un.keep b o e q (fun z => nomatch z) (fun z => nomatch z)
      · obtain ⟨e1, _⟩ := hok b _ q
        obtain ⟨e2, _⟩ := hok' b _ (un.frzs b ob _ q)
        rw [e] at e1
        cases e1
        exact e2
theorem law_callG (KX : K.In s₁.heap) (hns : s₁.heap.Ns mainGlobals mg) (hb : s₁.heap.Ns builtinsNs mb) (hbb : ∀ x : Str, x ≠ "__name__" → mb x = bootBuiltins x) (hlim : s₁.heap.NoLimit) (hg : s₁.gens = #[])
    (ha : s₁.heap.get? a = some { cls := .type "list", data := .seq vs.toArray }) (hi : IntsAre vs ns) (hl : ns.length ≤ sizeLine) (hr : Room k callerA)
    (F : ∀ base : Heap, K.In base → base.Ns mainGlobals mg → OkG P w K mg base CX0 k fa fd [x] sp) (hbind : ∀ (s : Shared) (u : Value), BindsTo s fd ⟨[u], []⟩ [(x, u)])
    (hsp : ∀ H : Hp, Only H → SqL K H a (ns.map V.int) → sp [.ref a] H (fun v _ => v = .bl true) fun _ _ _ => False) : Law P w fa a s₁ := by
  have rv := vals_ints hi
  cases hk : K.lookup a with
  | some o =>
    have e := KX a o hk
    rw [ha] at e
    cases e
    have hS : SqL K (fun _ => none) a (ns.map V.int) := .inr ⟨_, vs.toArray, _, hk, rfl, rfl, rfl, by rw [List.size_toArray, hi.length]; exact hl, by simpa using rv⟩
    exact law_from KX hns hb hbb hlim hg ha hr F hbind (H := fun _ => none) (fun _ => .inl rfl) (hsp _ (fun _ => .inl rfl) hS) (fun b u z => nomatch z) (fun b z => (z rfl).elim) (fun z => (z rfl).elim)
  | none =>
    have h0 : ∀ b, b ≠ a → upd (fun _ => none) a (.frz { cls := .type "list", data := .seq vs.toArray } (.lst (ns.map V.int))) b = none := fun b z => upd_ne z
    have hO : Only (upd (fun _ => none) a (.frz { cls := .type "list", data := .seq vs.toArray } (.lst (ns.map V.int)))) := fun b => by
      by_cases q : b = a
      · rw [q]; exact .inr ⟨_, _, upd_same⟩
      · exact .inl (h0 b q)
    refine law_from KX hns hb hbb hlim hg ha hr F hbind hO (hsp _ hO (.inl (.inr ⟨_, upd_same⟩))) (fun b u z => ?_) (fun b z => ?_) (fun _ => hk)
    · by_cases q : b = a
      · subst q
        rw [upd_same] at z
        cases z
        exact ⟨ha, by rw [List.length_map]; exact hl, vs, _, rv, ha⟩
      · rw [h0 b q] at z
        cases z
    · by_cases q : b = a
      · exact q
      · exact (z (h0 b q)).elim
end
/-- the law's row, from its def's promise -/
theorem walk_G {l : PySem.W.OpenLaw} {n k : Nat} {q : Program} {loose : List Str} {XP : (Str → Option Value) → Heap → Prop} {YP : World → Heap → Prop} {d : DefRec} {K : Params → PySem.W.Frag} {sp : PySem.W.Frag → Sp} {x : Str}
    (hn : l.most = some n) (hn2 : n ≤ sizeLine) (hdf : d.params.defaults = []) (hr : Room k callerA) (hY : ∀ (w : World) (h : Heap), YP w h → (K w.params).In h)
    (F : ∀ (w : World) (mg : Str → Option Value) (fa : Addr) (h : Heap), (K w.params).In h → h.Ns mainGlobals mg → mg d.name = some (.ref fa) →
      ∃ fd : FuncData, (∀ (s : Shared) (u : Value), BindsTo s fd ⟨[u], []⟩ [(x, u)]) ∧ ∀ base : Heap, (K w.params).In base → base.Ns mainGlobals mg → OkG l.prog w (K w.params) mg base CX0 k fa fd [x] (sp (K w.params)))
    (hsp : ∀ (K : PySem.W.Frag) (H : Hp) (a : Addr) (ns : List Int), ns.length ≤ n → Only H → SqL K H a (ns.map V.int) → sp K [.ref a] H (fun v _ => v = .bl true) fun _ _ _ => False) :
    PySem.W.WalkO q loose XP YP l.row.toRowW d [] (fun f vs => PySem.call f vs) := by
  refine Att.attach_call hn hdf fun w s₀ s₁ mg mb fa o pm cd doc a vs ns G Y ho hd hcd hmg hobj hints hlen hg => ?_
  have KX := hY w _ Y
  obtain ⟨fd, hb, hF⟩ := F w mg fa _ KX G.T.g hmg
  exact law_callG KX G.T.g G.T.b G.T.builtins G.T.nolimit hg hobj hints (Nat.le_trans hlen hn2) hr hF hb fun H hO hS => hsp _ H a ns hlen hO hS
end GL

/-! Exceptions of the program's own as values: made, asked for their class, their fields read. -/
namespace GL
open PySem PySem.Spec PyProof.Rows L2

/-- an exception of the class at C stands at a, with these fields (none: it has no dict of its own) -/
inductive IsEx (H : Hp) (a C : Addr) : List (Str × V) → Prop
  | bare (e : H a = some (ExO (.ref C) a)) : IsEx H a C []
  | full {dx : Addr} {fs : List (Str × V)} (e : H a = some (exo a C (some dx))) (ed : H dx = some (exd dx fs)) : IsEx H a C fs
theorem IsEx.keep {H H' : Hp} {a C : Addr} {fs : List (Str × V)} (x : IsEx H a C fs) (s : Same H H') : IsEx H' a C fs := by
  cases x with
  | bare e => exact .bare (s _ _ e)
  | full e ed => exact .full (s _ _ e) (s _ _ ed)
section
variable {X : Cx} {pins : List (Addr × Obj)} {σ : L2.St} {H : Hp} {s : Shared} {a C : Addr} {fs : List (Str × V)}
theorem IsEx.inst (I : Inv X pins σ H s) (x : IsEx H a C fs) : ∃ ox od, PySem.W.InstAt s.heap a ox C od := by
  cases x with
  | bare e =>
    have y : ObjOk X.prog X.w H s.heap a (ExO (.ref C) a) := I.hok a _ e
    obtain ⟨⟨oe, vs, h1, ⟨z1, z2⟩, h2, _⟩, _⟩ := y
    refine ⟨oe, none, h1, z1, ?_, ?_⟩
    · unfold PySem.W.notCls; rw [h2] <;> rfl
    · rw [z2]; trivial
  | full e ed =>
    obtain ⟨t1, h1⟩ := exo_at I.hok e
    obtain ⟨mA, hns, _⟩ := exd_at I.hok ed
    obtain ⟨o, es, ep, ho, _⟩ := hns
    exact ⟨_, some o, h1, rfl, rfl, ho⟩

/-! ### isinstance -/
def rIsX (K : PySem.W.Frag) : List V → Hp → VK → Prop := fun xs H Q => ∃ (a C : Addr) (fs : List (Str × V)) (c : V) (cv : Value) (b : Bool), xs = [.ref a, c] ∧ IsEx H a C fs ∧ ExcC K C ∧ (∀ u, RelV c u → u = cv) ∧
  PySem.W.kitOne K (.ref C) cv = some b ∧ Q (.bl b) H
theorem call_isX : CallR X (.builtin "isinstance") (rIsX X.K) := by
  intro pins s σ H xs us Q I r h
  obtain ⟨a, C, fs, c, cv, b, rfl, hx, T, hcv, e, q⟩ := h
  obtain ⟨ox, od, J⟩ := hx.inst I
  cases r with
  | cons ra r1 => cases r1 with
    | cons rc r2 =>
      cases r2
      cases ra
      have ec := hcv _ rc
      subst ec
      have cl : (PySem.W.clsIn X.K C).isSome = true := by
        obtain ⟨cd, h1, _⟩ := PySem.W.any_some T.hd
        rw [h1] <;> rfl
      exact PySem.W.kia_one (PySem.W.kitx_exc cl T.hg T.hk T.hs T.ha T.hn T.ht T.hm) I.kIn J e (fun z => nomatch z) fun tk => ⟨.bl b, H, I.kept (t' := tk) fun _ _ z => z, rfl, q⟩

/-! ### a field -/
def tFldX (K : PySem.W.Frag) (f : Str) (te : TE) : TE := fun σ H Q => te σ H fun x H1 => ∃ (a C dx : Addr) (fs : List (Str × V)) (v : V), x = .ref a ∧ H1 a = some (exo a C (some dx)) ∧ H1 dx = some (exd dx fs) ∧ ExcC K C ∧
  PySem.W.findIn K (.ref C) f = some none ∧ fs.lookup f = some v ∧ Q v H1
theorem pe_fldX {e : Expr} {te : TE} {f : Str} {pos : Pos} (he : PE X e te) (hb : attributeBase e f X.env (eval e X.env) = eval e X.env := by rfl) : PE X (.Attribute e f pos) (tFldX X.K f te) := by
  refine ⟨fun pins s σ H Q I h => attr_of hb (thn (he.run pins s σ H _ I h) fun u s1 hh => ?_)⟩
  obtain ⟨x, H1, I1, rx, a, C, dx, fs, v, ex, ea, ed, T, hno, l, q⟩ := hh
  subst ex
  obtain rfl : u = Value.ref a := rx
  obtain ⟨t1, h1⟩ := exo_at I1.hok ea
  obtain ⟨mA, hns, rel⟩ := exd_at I1.hok ed
  obtain ⟨od, ho, hl⟩ := lookIn_ns hns
  obtain ⟨u, hu, ru⟩ := RelO.some_of (v := v) (o := mA f) (by rw [← l]; exact rel f)
  have J : PySem.W.InstAt s1.heap a _ C (some od) := ⟨h1, rfl, rfl, ho⟩
  exact HandSPX.exc_get I1.kIn J T.hg T.hk T.hs (PySem.W.findObj_own T.hd hno rfl (by rw [hl, hu])) (handed_of ru) ⟨v, H1, I1.tok _, ru, q⟩

/-! ### made: by an __init__ of its own, by none -/
def tExV (C : Addr) (sp : Sp) (ta : TA) : TE := fun σ H Q => ta σ H fun vs H1 => vs.length ≤ 1000 ∧ ∀ a, H1 a = none → sp (.ref a :: vs) (upd H1 a (exo a C none)) (fun v H2 => v = .non ∧ Q (.ref a) H2) (fun _ _ _ => False)
theorem pe_exV {x : Str} {C fI : Addr} {k : Nat} {fd : FuncData} {ps : List Str} {sp : Sp} {p pos : Pos} {e : Expr} {es : List Expr} {ta : TA} (T : OexC X.K C) (iC : PySem.W.findIn X.K (.ref C) "__init__" = some (some (.ref fI)))
    (tI : PySem.W.typeIn X.K (.ref fI) = some (.type "function")) (F1 : FnOk X.prog X.w X.K X.mg X.base CX0 k fI fd ps sp) (hr : Room (k + 1) X.A) (hb : Binds X.K fd ps []) (hg : Gl X x) (hm : X.mg x = some (.ref C)) (ha : PA X (e :: es) ta)
    (hdb : (x == ("__debug__" : Str)) = false := by decide) (he : starEach (e :: es) X.env = (false, eval e X.env) :: starEach es X.env := by rfl) (hpl : (backTo pos (starEach es X.env)).any (·.1) = false := by rfl) :
    PE X (.Call (.Name x p) (e :: es) [] pos) (tExV C sp ta) := by
  refine ⟨fun pins s σ H Q I h => wpAny_Call_Name_kw (ld_glob I hg hm ?_ hdb)⟩
  obtain ⟨nm, q, N, bs, bm, sn, sub, ab, col, dd, k0, k1, k2, k3, k5, hC, hbm⟩ := T.cls
  refine PySem.W.callWith_K (h₀ := X.base) I.ok.mod.kin T.kC (thn (ha.run pos pins s σ H _ I h) fun us s1 ⟨vs, H1, I1, r1, hz, q1⟩ => ⟨I1.kIn, ?_⟩) he hpl
  obtain ⟨hp, g, dr, tk, os⟩ := s1
  show wpAny _ _ (call (.ref C) us) _ _ _
  have le1 : hp.objs.size ≤ hp.objs.size + 1 := Nat.le_succ _
  have q2 := q1 (hp.objs.size + 1) (I1.hok.fresh le1)
  have grown : ∀ b o, hp.get? b = some o → ((hp.push (PySem.W.kdv_tup us)).push (PySem.HandSPX.excO C hp.objs.size)).get? b = some o := fun b o e => Heap.get?_push_of_some _ (Heap.get?_push_of_some _ e)
  have there : ((hp.push (PySem.W.kdv_tup us)).push (PySem.HandSPX.excO C hp.objs.size)).get? (hp.objs.size + 1) = some (PySem.HandSPX.excO C hp.objs.size) := by heap_get
  have I2 : Inv X pins σ (upd H1 (hp.objs.size + 1) (exo (hp.objs.size + 1) C none)) ⟨(hp.push (PySem.W.kdv_tup us)).push (PySem.HandSPX.excO C hp.objs.size), g, dr, tk, os⟩ := I1.laid (t' := tk) grown le1 (exo_ok there)
  have r2 : Vals (V.ref (hp.objs.size + 1) :: vs) (Value.ref (hp.objs.size + 1) :: us) := .cons rfl r1
  have hl : (Value.ref (hp.objs.size + 1) :: us ++ []).length = ps.length := by
    rw [List.append_nil, ← r2.length]
    exact F1.len _ _ _ _ q2
  have bb := hb _ (Value.ref (hp.objs.size + 1) :: us) I2.kIn hl
  rw [List.append_nil] at bb
  have hus : us.length ≤ sizeLine := by
    rw [← r1.length, sizeLine_eq]
    omega
  refine wpAny_call (PySem.HandSPX.call_own F.excBase_ValueError (fun Y => PySem.HandSPX.refsVE_contains Y bm hbm) (I1.kIn _ _ hC) (PySem.W.looks_findIn I1.kIn iC) (fun self => PySem.W.bind_fn I1.kIn self tI) hus
    (codeAny_mono (F1.run _ X.stack _ _ _ _ _ _ _ (hr.make C us []) (I2.env0.make C us []) bb r2 q2) fun r s' z => ?_))
  cases r with
  | error er => exact z.elim
  | ok fl => cases fl with
    | ret u =>
      obtain ⟨v, H', I3, rv, ev, q3⟩ := I2.after z
      subst ev
      exact ⟨rv, ⟨V.ref (hp.objs.size + 1), H', I3, rfl, q3⟩⟩
    | next => exact z.elim
    | brk => exact z.elim
    | cont => exact z.elim
theorem pe_exV0 {C : Addr} {bmB : List Value} {B newId initId : String} {x : Str} {p pos : Pos} (F : ExcBaseFacts B newId initId bmB) (q : PySem.W.excIn X.K C bmB newId = true) (gC : X.mg x = some (.ref C)) (kC : PySem.W.keepIn X.K (.ref C) = true) (hg : Gl X x)
    (hdb : (x == ("__debug__" : Str)) = false := by decide) : PE X (.Call (.Name x p) [] [] pos) (fun σ H Q => ∀ a, H a = none → Q (.ref a) (upd H a (ExO (.ref C) a))) := by
  refine ⟨fun pins s σ H Q I h => wpAny_Call_Name_kw (ld_glob I hg gC (PySem.W.callWith_K0 I.kIn kC ?_) hdb)⟩
  obtain ⟨bm, N, nm, qn, bs, hdct, sn, sub, ab, col, dd, k0, k1, k2, k3, k5, mN, hC, hN, hni, T⟩ := exc_obj I.kIn q
  refine wpAny_call_exc_subT F T hC hN hni (fun h' a hm => ?_) (by show 0 ≤ sizeLine; rw [sizeLine_eq]; omega)
  have hn : H a = none := I.hok.gone hm.new
  obtain ⟨t, ht, _, _⟩ := hm.there
  exact ⟨.ref a, upd H a (ExO (.ref C) a), I.laidN hm.keeps hm.new hn (exO_ok ht ⟨rfl, rfl⟩ rfl rfl rfl (show 4 < 6 by decide)), rfl, h a hn⟩
end

/-! ### the classes, by names -/
@[irreducible] def iA (K : PySem.W.Frag) (C : Addr) : Addr := match PySem.W.findIn K (.ref C) "__init__" with
  | some (some (.ref f)) => f
  | _ => 0
/-- what is asked of a class without an __init__ -/
structure Cl0 (K : PySem.W.Frag) (mg : Str → Option Value) (x : Str) : Prop where
  g : mg x = some (.ref (fA mg x))
  k : PySem.W.keepIn K (.ref (fA mg x)) = true
  e : ExcC K (fA mg x)
  q : PySem.W.excIn K (fA mg x) [.type "ValueError", .type "Exception", .type "BaseException", .type "object"] "ValueError.__new__" = true
/-- .. of one with an __init__ that stores the fields fs -/
structure ClI (K : PySem.W.Frag) (mg : Str → Option Value) (x qual : Str) (st : Stmt) (ps fs : List Str) : Prop where
  g : mg x = some (.ref (fA mg x))
  e : ExcC K (fA mg x)
  o : OexC K (fA mg x)
  i : PySem.W.findIn K (.ref (fA mg x)) "__init__" = some (some (.ref (iA K (fA mg x))))
  t : PySem.W.typeIn K (.ref (iA K (fA mg x))) = some (.type "function")
  F : Fun K "__init__" qual st (iA K (fA mg x)) (fDat K (iA K (fA mg x)))
  b : Binds K (fDat K (iA K (fA mg x))) ps []
  n : ∀ f ∈ fs, PySem.W.findIn K (.ref (fA mg x)) f = some none
theorem iA_of {K : PySem.W.Frag} {C f : Addr} (h : PySem.W.findIn K (.ref C) "__init__" = some (some (.ref f))) : iA K C = f := by
  unfold iA
  rw [h]
theorem Cl0.mk' {K : PySem.W.Frag} {mg : Str → Option Value} {x : Str} {h : Heap} {C : Addr} (X : K.In h) (G : h.Ns mainGlobals mg) (a : PySem.W.nsIn K mainGlobals x = some (some (.ref C))) (k : PySem.W.keepIn K (.ref C) = true) (e : ExcC K C)
    (q : PySem.W.excIn K C [.type "ValueError", .type "Exception", .type "BaseException", .type "object"] "ValueError.__new__" = true) : Cl0 K mg x := by
  have m := PySem.W.mg_of X G a
  have c := fA_of m
  exact ⟨by rw [c]; exact m, by rw [c]; exact k, by rw [c]; exact e, by rw [c]; exact q⟩
theorem ClI.mk' {K : PySem.W.Frag} {mg : Str → Option Value} {x qual : Str} {st : Stmt} {ps fs : List Str} {h : Heap} {C f : Addr} {oc : Value} {od an : Option Addr} {osl : Array (Option Value)} {kV doc pm cdv ct : Value} (X : K.In h) (G : h.Ns mainGlobals mg)
    (a : PySem.W.nsIn K mainGlobals x = some (some (.ref C))) (e : ExcC K C) (o : OexC K C) (i : PySem.W.findIn K (.ref C) "__init__" = some (some (.ref f))) (t : PySem.W.typeIn K (.ref f) = some (.type "function"))
    (l : K.lookup f = some ⟨oc, od, .func (PySem.W.fnOf "__init__" qual (defArgs st) (defBody st) (defScope st) .none kV doc pm an cdv ct), osl⟩) (c : PySem.W.codeIn K cdv qual = true) (k : PySem.W.keepIn K (.ref f) = true)
    (bi : ∀ (kV doc pm : Value) (an : Option Addr) (cdv ct : Value) (us : List Value), us.length = ps.length → bindArgs (PySem.W.fnOf "__init__" qual (defArgs st) (defBody st) (defScope st) .none kV doc pm an cdv ct) ⟨us, []⟩ = pure (ps.zip us))
    (n : ∀ f ∈ fs, PySem.W.findIn K (.ref C) f = some none) : ClI K mg x qual st ps fs := by
  have m := PySem.W.mg_of X G a
  have c1 := fA_of m
  have c2 : iA K (fA mg x) = f := by rw [c1]; exact iA_of i
  have c3 := fDat_of l
  have F := fun_mk (st := st) l c k
  refine ⟨by rw [c1]; exact m, by rw [c1]; exact e, by rw [c1]; exact o, by rw [c2, c1]; exact i, by rw [c2]; exact t, by rw [c2, c3]; exact F, by rw [c2, c3]; exact F.binds bi, by rw [c1]; exact n⟩
def spI1 (C : Addr) (f : Str) : Sp := fun vs H Q _ => ∃ a v, vs = [.ref a, v] ∧ H a = some (exo a C none) ∧ ∀ dx, H dx = none → dx ≠ a → Q .non (upd (upd H dx (exd dx [(f, v)])) a (exo a C (some dx)))
def spI2 (C : Addr) (f g : Str) : Sp := fun vs H Q _ => ∃ a v u, vs = [.ref a, v, u] ∧ H a = some (exo a C none) ∧ ∀ dx, H dx = none → dx ≠ a → Q .non (upd (upd (upd H dx (exd dx [(f, v)])) a (exo a C (some dx))) dx (exd dx [(g, u), (f, v)]))
section
variable {K : PySem.W.Frag} {σ : L2.St} {H : Hp} {D : Ends} {a C dx : Addr} {f g : Str} {v u : V} {ta : TA} {Q : VK}
theorem s_ost1 (T : OexC K C) (n : PySem.W.findIn K (.ref C) f = some none) (h : H a = some (exo a C none)) (h0 : σ[0]? = some (some (.ref a))) {i : Nat} (h1 : σ[i]? = some (some v))
    (q : ∀ dx, H dx = none → dx ≠ a → D.nx σ (upd (upd H dx (exd dx [(f, v)])) a (exo a C (some dx)))) : tOst K f (tVar 0) (tVar i) D σ H := ⟨v, h1, _, h0, a, C, rfl, T, n, .inl ⟨h, q⟩⟩
theorem s_ost2 (T : OexC K C) (n : PySem.W.findIn K (.ref C) g = some none) (h : H a = some (exo a C (some dx))) (hd : H dx = some (exd dx [(f, v)])) (h0 : σ[0]? = some (some (.ref a))) {i : Nat} (h1 : σ[i]? = some (some u))
    (q : D.nx σ (upd H dx (exd dx [(g, u), (f, v)]))) : tOst K g (tVar 0) (tVar i) D σ H := ⟨u, h1, _, h0, a, C, rfl, T, n, .inr ⟨dx, _, h, hd, by show 1 ≤ 900; decide, q⟩⟩
/-- what the making of one hands on -/
theorem made1 (h : VA ta σ H [v]) (k : ∀ a H', Same H H' → IsEx H' a C [(f, v)] → Q (.ref a) H') : tExV C (spI1 C f) ta σ H Q :=
  h _ ⟨by show 1 ≤ 1000; decide, fun a ha => ⟨a, v, rfl, upd_same, fun dx hd ne => ⟨rfl, k a _ (fun b o e => by
    have hb : b ≠ a := ne_of_none e ha
    rw [upd_ne ne] at hd
    rw [upd_ne hb, upd_ne (ne_of_none e hd), upd_ne hb]
    exact e) (.full upd_same (by rw [upd_ne ne, upd_same]))⟩⟩⟩
theorem made2 (h : VA ta σ H [v, u]) (k : ∀ a H', Same H H' → IsEx H' a C [(g, u), (f, v)] → Q (.ref a) H') : tExV C (spI2 C f g) ta σ H Q :=
  h _ ⟨by show 2 ≤ 1000; decide, fun a ha => ⟨a, v, u, rfl, upd_same, fun dx hd ne => ⟨rfl, k a _ (fun b o e => by
    have hb : b ≠ a := ne_of_none e ha
    rw [upd_ne ne] at hd
    have hb2 : b ≠ dx := ne_of_none e hd
    rw [upd_ne hb2, upd_ne hb, upd_ne hb2, upd_ne hb]
    exact e) (.full (by rw [upd_ne (Ne.symm ne), upd_same]) upd_same)⟩⟩⟩
theorem made0 (k : ∀ a H', Same H H' → IsEx H' a C [] → Q (.ref a) H') : (fun (σ : L2.St) (H : Hp) (Q : VK) => ∀ a, H a = none → Q (.ref a) (upd H a (ExO (.ref C) a))) σ H Q :=
  fun a ha => k a _ (Same.new' ha) (.bare upd_same)
/-- isinstance of one -/
theorem v_isx {te : TE} {fs : List (Str × V)} {c : V} {cv : Value} {b : Bool} (h : Val te σ H (.ref a)) (x : IsEx H a C fs) (e : ExcC K C) (r : ∀ w, RelV c w → w = cv) (k : PySem.W.kitOne K (.ref C) cv = some b) :
    Val (tCB (rIsX K) (tCons te (tCons (tC c) tNil))) σ H (.bl b) := v_cb (va_cons h (va_cons val_c va_nil)) fun Q q => ⟨a, C, fs, c, cv, b, rfl, x, e, r, k, q⟩
theorem v_fldx {te : TE} {fs : List (Str × V)} (h : Val te σ H (.ref a)) (x : IsEx H a C fs) (hf : fs.lookup f = some v) (e : ExcC K C) (n : PySem.W.findIn K (.ref C) f = some none) : Val (tFldX K f te) σ H v := by
  intro Q q
  cases x with
  | bare _ => cases hf
  | full e1 e2 => exact h _ ⟨a, C, _, fs, v, rfl, e1, e2, e, n, hf, q⟩
end
end GL

/-! What data the heap holds, dicts among it, and what repr tells of it. -/
namespace GL
open PySem PySem.Spec PyProof.Rows L2

def keyD : Key → PyData
  | .inl i => .int i
  | .inr x => .str x
mutual
/-- the data of a value: as Dp, dicts too -/
inductive Dd (K : PySem.W.Frag) (H : Hp) : V → PyData → Prop
  | non : Dd K H .non .none
  | bl (b : Bool) : Dd K H (.bl b) (.bool b)
  | int (i : Int) : Dd K H (.int i) (.int i)
  | str (x : Str) : Dd K H (.str x) (.str x)
  | lst {a : Addr} {xs : List V} {ds : List PyData} : SqL K H a xs → DdAll K H xs ds → Dd K H (.ref a) (.list ds)
  | tup {a : Addr} {xs : List V} {ds : List PyData} : SqT K H a xs → DdAll K H xs ds → Dd K H (.ref a) (.tuple ds)
  | dic {a : Addr} {kvs : List (Key × V)} {ps : List (PyData × PyData)} : H a = some (.dK kvs) → DdKv K H kvs ps → Dd K H (.ref a) (.dict ps)
inductive DdAll (K : PySem.W.Frag) (H : Hp) : List V → List PyData → Prop
  | nil : DdAll K H [] []
  | cons {v : V} {vs : List V} {d : PyData} {ds : List PyData} : Dd K H v d → DdAll K H vs ds → DdAll K H (v :: vs) (d :: ds)
inductive DdKv (K : PySem.W.Frag) (H : Hp) : List (Key × V) → List (PyData × PyData) → Prop
  | nil : DdKv K H [] []
  | cons {k : Key} {v : V} {r : List (Key × V)} {d : PyData} {ps : List (PyData × PyData)} : Dd K H v d → DdKv K H r ps → DdKv K H ((k, v) :: r) ((keyD k, d) :: ps)
end
theorem sqt_same {K : PySem.W.Frag} {H H' : Hp} {a : Addr} {xs : List V} (e : Same H H') (h : SqT K H a xs) : SqT K H' a xs := by
  rcases h with (h | ⟨o, h⟩) | h
  · exact .inl (.inl (e _ _ h))
  · exact .inl (.inr ⟨o, e _ _ h⟩)
  · exact .inr h
mutual
theorem Dd.same {K : PySem.W.Frag} {H H' : Hp} (s : Same H H') : ∀ (d : PyData) (v : V), Dd K H v d → Dd K H' v d
  | .none, _, h => by cases h; exact .non
  | .bool _, _, h => by cases h; exact .bl _
  | .int _, _, h => by cases h; exact .int _
  | .str _, _, h => by cases h; exact .str _
  | .list ds, _, h => by
    cases h with
    | lst a b => exact .lst (s.seq a) (Dd.sameAll s ds _ b)
  | .tuple ds, _, h => by
    cases h with
    | tup a b => exact .tup (sqt_same s a) (Dd.sameAll s ds _ b)
  | .dict ps, _, h => by
    cases h with
    | dic a b => exact .dic (s _ _ a) (Dd.sameKv s ps _ b)
theorem Dd.sameAll {K : PySem.W.Frag} {H H' : Hp} (s : Same H H') : ∀ (ds : List PyData) (vs : List V), DdAll K H vs ds → DdAll K H' vs ds
  | [], _, h => by cases h; exact .nil
  | d :: ds, _, h => by
    cases h with
    | cons a b => exact .cons (Dd.same s d _ a) (Dd.sameAll s ds _ b)
theorem Dd.sameKv {K : PySem.W.Frag} {H H' : Hp} (s : Same H H') : ∀ (ps : List (PyData × PyData)) (kvs : List (Key × V)), DdKv K H kvs ps → DdKv K H' kvs ps
  | [], _, h => by cases h; exact .nil
  | (_, d) :: ps, _, h => by
    cases h with
    | cons a b => exact .cons (Dd.same s d _ a) (Dd.sameKv s ps _ b)
end
section
variable {X : Cx} {pins : List (Addr × Obj)} {σ : L2.St} {H : Hp} {s : Shared}
/-- what repr tells of a value whose data are known -/
def Shows (X : Cx) (h : Heap) (d : PyData) (u : Value) : Prop := (∃ as, Reads h u d as) ∧ ∃ bs, ReadAtMost h d.depth bs ∧ ReprK X.prog X.w bs h d.depth u d.shown
def ShowsAll (X : Cx) (h : Heap) (ds : List PyData) (us : List Value) : Prop := (∃ as, ReadsAll h us ds as) ∧ ∃ bs, ReadAtMost h (PyData.depthAll ds) bs ∧ ReprAllK X.prog X.w bs h (PyData.depthAll ds) us (PyData.shownAll ds)
theorem ShowsAll.nil {h : Heap} : ShowsAll X h [] [] := ⟨⟨_, .nil⟩, [], (fun _ z => nomatch z), .nil⟩
theorem ShowsAll.cons {h : Heap} {d : PyData} {ds : List PyData} {u : Value} {us : List Value} (a : Shows X h d u) (b : ShowsAll X h ds us) : ShowsAll X h (d :: ds) (u :: us) := by
  obtain ⟨⟨as1, r1⟩, b1, h1, k1⟩ := a
  obtain ⟨⟨as2, r2⟩, b2, h2, k2⟩ := b
  have m1 : d.depth ≤ PyData.depthAll (d :: ds) := Nat.le_max_left _ _
  have m2 : PyData.depthAll ds ≤ PyData.depthAll (d :: ds) := Nat.le_max_right _ _
  exact ⟨⟨_, .cons r1 r2⟩, b1 ++ b2, (h1.mono m1).append (h2.mono m2), .cons ((k1.more fun _ z => List.mem_append_left _ z).level_le m1) (k2.more_le (fun _ z => List.mem_append_right _ z) m2)⟩
theorem Shows.lst {h : Heap} {ds : List PyData} {us : List Value} {a : Addr} {o : Obj} {n : Nat} (ha : h.get? a = some o) (hc : o.cls = .type "list") (hd : o.data = .seq us.toArray n) (b : ShowsAll X h ds us) : Shows X h (.list ds) (.ref a) := by
  obtain ⟨⟨as, r⟩, bs, hb, k⟩ := b
  have R : Reads h (.ref a) (.list ds) _ := .list ha hc hd r
  have off : a ∉ bs := not_mem_of_deeper R (by simp only [PyData.depth]; omega) hb
  refine ⟨⟨_, R⟩, a :: bs, ReadAtMost.cons R (by simp only [PyData.depth]; omega) hb, ?_⟩
  cases us with
  | nil =>
    cases r
    exact ReprK.listEmpty ha hc hd
  | cons u us => exact ReprK.list ha hc hd off (by simpa using k.length_eq) fun i y e => k.item i y (by simpa using e)
theorem Shows.tup {h : Heap} {ds : List PyData} {us : List Value} {a : Addr} (ha : IsTup h a us.toArray) (b : ShowsAll X h ds us) : Shows X h (.tuple ds) (.ref a) := by
  obtain ⟨⟨as, r⟩, bs, hb, k⟩ := b
  obtain ⟨o, ho, hc, n, hd⟩ := ha
  have R : Reads h (.ref a) (.tuple ds) _ := .tuple ho hc hd r
  exact ⟨⟨_, R⟩, a :: bs, ReadAtMost.cons R (by simp only [PyData.depth]; omega) hb, ReprK.tuple ho hc hd (not_mem_of_deeper R (by simp only [PyData.depth]; omega) hb) k⟩
theorem shows_key {h : Heap} {k : Key} {u : Value} (e : keyIs k u = true) (hs : (keyD k).showable = true) (hz : (keyD k).shown.length ≤ sizeLine) : Shows X h (keyD k) u := by
  rcases keyIs_shape e with ⟨i, t, rfl, rfl⟩ | ⟨x, t, rfl, rfl⟩
  · exact ⟨⟨_, .int i t⟩, [], (fun _ z => nomatch z), .of_is (ReprIs.int t (of_decide_eq_true hs)) _ _ _⟩
  · exact ⟨⟨_, .str x t⟩, [], (fun _ z => nomatch z), .of_is (ReprIs.str x t hz) _ _ _⟩
theorem Shows.dic {h : Heap} {ps : List (PyData × PyData)} {es : Array DictEntry} {a : Addr} {o : Obj} {n : Nat} (ho : h.get? a = some o) (hc : o.cls = .type "dict") (hd : o.data = .dict es n) (hsys : (a == sysModules) = false)
    (b1 : ShowsAll X h (ps.map (·.1)) (es.toList.map (·.key))) (b2 : ShowsAll X h (ps.map (·.2)) (es.toList.map (·.val))) : Shows X h (.dict ps) (.ref a) := by
  obtain ⟨⟨as1, r1⟩, c1, h1, k1⟩ := b1
  obtain ⟨⟨as2, r2⟩, c2, h2, k2⟩ := b2
  have R : Reads h (.ref a) (.dict ps) _ := .dict ho hc hd r1 r2
  have hb : ReadAtMost h (PyData.depthKv ps) (c1 ++ c2) := (h1.mono (PyData.depthAll_keys_le ps)).append (h2.mono (PyData.depthAll_vals_le ps))
  refine ⟨⟨_, R⟩, a :: (c1 ++ c2), ReadAtMost.cons R (by simp only [PyData.depth]; omega) hb, ?_⟩
  simp only [PyData.depth, PyData.shown, PyData.shownKv_eq]
  exact ReprK.dict ho hc hd hsys (not_mem_of_deeper R (by simp only [PyData.depth]; omega) hb) (ReprEntriesK.of_two es.toList _ _
    (k1.more_le (fun _ z => List.mem_append_left _ z) (PyData.depthAll_keys_le ps)) (k2.more_le (fun _ z => List.mem_append_right _ z) (PyData.depthAll_vals_le ps)))
theorem all_le {ds : List PyData} {d : PyData} (hd : d ∈ ds) : d.shown ∈ PyData.shownAll ds := by
  induction ds with
  | nil => cases hd
  | cons x xs ih =>
    simp only [PyData.shownAll]
    rcases List.mem_cons.mp hd with e | e
    · rw [e]; exact List.mem_cons_self ..
    · exact List.mem_cons_of_mem _ (ih e)
mutual
theorem Dd.shows (I : Inv X pins σ H s) : ∀ (d : PyData) (v : V) (u : Value), Dd X.K H v d → RelV v u → d.showable = true → d.shown.length ≤ sizeLine → Shows X s.heap d u
  | .none, _, _, h, r, _, _ => by
    cases h; cases r
    exact ⟨⟨_, .none⟩, [], (fun _ z => nomatch z), .of_is ReprIs.none _ _ _⟩
  | .bool b, _, _, h, r, _, _ => by
    cases h; cases r
    exact ⟨⟨_, .bool b⟩, [], (fun _ z => nomatch z), .of_is (ReprIs.bool b) _ _ _⟩
  | .int i, _, _, h, r, hs, _ => by
    cases h
    obtain ⟨t, rfl⟩ := r
    exact ⟨⟨_, .int i t⟩, [], (fun _ z => nomatch z), .of_is (ReprIs.int t (of_decide_eq_true hs)) _ _ _⟩
  | .str x, _, _, h, r, _, hz => by
    cases h
    obtain ⟨t, rfl⟩ := r
    exact ⟨⟨_, .str x t⟩, [], (fun _ z => nomatch z), .of_is (ReprIs.str x t hz) _ _ _⟩
  | .list ds, _, _, h, r, hs, hz => by
    cases h with
    | lst hq ha =>
      cases r
      obtain ⟨its, rv, ⟨o, n, ho, hc, _, hd⟩, _⟩ := I.list hq
      have hz' : (listText (PyData.shownAll ds)).length ≤ sizeLine := by simpa only [PyData.shown] using hz
      exact Shows.lst ho hc hd (Dd.showsAll I ds _ its ha rv (by simpa [PyData.showable] using hs) fun t ht => Nat.le_trans (listText_mem_le ht) hz')
  | .tuple ds, _, _, h, r, hs, hz => by
    cases h with
    | tup hq ha =>
      cases r
      obtain ⟨its, rv, ⟨o, ho, hc, n, hd⟩, _⟩ := I.tuple hq
      have hz' : (tupleText (PyData.shownAll ds)).length ≤ sizeLine := by simpa only [PyData.shown] using hz
      exact Shows.tup ⟨o, ho, hc, n, hd⟩ (Dd.showsAll I ds _ its ha rv (by simpa [PyData.showable] using hs) fun t ht => Nat.le_trans (tupleText_mem_le ht) hz')
  | .dict ps, _, _, h, r, hs, hz => by
    cases h with
    | dic hq ha =>
      cases r
      obtain ⟨_, hsys, vs, kv, o, es, ep, ho, ⟨hc, _, _⟩, hd, _, pr, _⟩ := I.hok _ _ hq
      have hz' : (dictText (PyData.shownKv ps)).length ≤ sizeLine := by simpa only [PyData.shown] using hz
      obtain ⟨b1, b2⟩ := Dd.showsKv I ps _ vs es.toList ha kv pr (by simpa [PyData.showable] using hs) (fun t ht => Nat.le_trans (dictText_mem_le ht) hz')
      exact Shows.dic ho hc hd hsys b1 b2
theorem Dd.showsAll (I : Inv X pins σ H s) : ∀ (ds : List PyData) (vs : List V) (us : List Value), DdAll X.K H vs ds → Vals vs us → PyData.showableAll ds = true → (∀ t ∈ PyData.shownAll ds, t.length ≤ sizeLine) → ShowsAll X s.heap ds us
  | [], _, _, h, r, _, _ => by
    cases h; cases r
    exact .nil
  | d :: ds, _, _, h, r, hs, hz => by
    cases h with
    | cons h1 h2 => cases r with
      | cons r1 r2 =>
        have hs' : d.showable = true ∧ PyData.showableAll ds = true := by simpa [PyData.showableAll] using hs
        exact .cons (Dd.shows I d _ _ h1 r1 hs'.1 (hz _ (by simp only [PyData.shownAll]; exact List.mem_cons_self ..))) (Dd.showsAll I ds _ _ h2 r2 hs'.2 fun t ht => hz t (by simp only [PyData.shownAll]; exact List.mem_cons_of_mem _ ht))
theorem Dd.showsKv (I : Inv X pins σ H s) : ∀ (ps : List (PyData × PyData)) (kvs : List (Key × V)) (vs : List (Key × Value)) (es : List DictEntry), DdKv X.K H kvs ps → KV kvs vs → Pairs (mixKind X.prog X.w) es vs → PyData.showableKv ps = true →
    (∀ t ∈ PyData.shownKv ps, t.length ≤ sizeLine) → ShowsAll X s.heap (ps.map (·.1)) (es.map (·.key)) ∧ ShowsAll X s.heap (ps.map (·.2)) (es.map (·.val))
  | [], _, _, _, h, kv, pr, _, _ => by
    cases h; cases kv; cases pr
    exact ⟨.nil, .nil⟩
  | (k, d) :: ps, _, _, _, h, kv, pr, hs, hz => by
    cases h with
    | cons h1 h2 => cases kv with
      | cons e kv2 => cases pr with
        | cons p1 p2 p3 =>
          rename_i k0 v0 _ q _ en _
          have hs' : ((keyD k0).showable = true ∧ d.showable = true) ∧ PyData.showableKv ps = true := by simpa [PyData.showableKv] using hs
          have z0 := hz _ (by simp only [PyData.shownKv]; exact List.mem_cons_self ..)
          obtain ⟨e1, e2⟩ := e
          have z1 : (keyD k0).shown.length ≤ sizeLine := Nat.le_trans (by simp only [Str.length_append]; omega) z0
          have z2 : d.shown.length ≤ sizeLine := Nat.le_trans (by simp only [Str.length_append]; omega) z0
          obtain ⟨i1, i2⟩ := Dd.showsKv I ps _ _ _ h2 kv2 p3 hs'.2 fun t ht => hz t (by simp only [PyData.shownKv]; exact List.mem_cons_of_mem _ ht)
          have q1 : k0 = q.1 := e1
          have ky : keyIs k0 en.key = true := by rw [q1]; exact p1
          refine ⟨.cons (shows_key ky hs'.1.1 z1) i1, .cons (Dd.shows I d v0 _ h1 ?_ hs'.1.2 z2) i2⟩
          show RelV v0 en.val
          rw [p2]; exact e2
end
/-- repr of any such data -/
def rShow (K : PySem.W.Frag) : List V → Hp → VK → Prop := fun xs H Q => ∃ (v : V) (d : PyData), xs = [v] ∧ Dd K H v d ∧ d.showable = true ∧ d.depth ≤ 40 ∧ d.shown.length ≤ sizeLine ∧ Q (.str d.shown) H
theorem call_show (hq : Quiet X.A) (hu : X.A.units + 64 < cLine) : CallR X (.builtin "repr") (rShow X.K) := by
  intro pins s σ H xs us Q I r h
  obtain ⟨v, d, rfl, hd, hs, hp, hz, q⟩ := h
  cases r with
  | cons rv rn =>
    rename_i u us'
    cases rn
    have done : ∀ h' tk, (∀ b o, s.heap.get? b = some o → h'.get? b = some o) → ∀ z, EP X pins σ Q (.str d.shown z) { s with heap := h', toks := tk } := fun h' tk hk z => ⟨.str _, H, I.kept hk, ⟨z, rfl⟩, q⟩
    cases hd with
    | non => cases rv; exact PySem.P.repr_of_none ⟨.str _, H, I.tok _, ⟨_, rfl⟩, q⟩
    | bl b => cases rv; exact PySem.P.repr_of_bool ⟨.str _, H, I.tok _, ⟨_, rfl⟩, q⟩
    | int i =>
      obtain ⟨t, rfl⟩ := rv
      exact PySem.P.repr_of_int (of_decide_eq_true hs) ⟨.str _, H, I.tok _, ⟨_, rfl⟩, q⟩
    | str x =>
      obtain ⟨t, rfl⟩ := rv
      exact PySem.P.repr_of_str ⟨.str _, H, I.tok _, ⟨_, rfl⟩, q⟩
    | @lst a xs ds hq2 ha =>
      cases rv
      obtain ⟨its, rv2, ⟨o, n, ho, hc, _, hd2⟩, _⟩ := I.list hq2
      have hz' : (listText (PyData.shownAll ds)).length ≤ sizeLine := by simpa only [PyData.shown] using hz
      have hp' : PyData.depthAll ds + 1 ≤ 40 := by simpa only [PyData.depth] using hp
      obtain ⟨⟨as, r⟩, bs, hb, k⟩ := Dd.showsAll I ds _ its ha rv2 (by simpa [PyData.showable] using hs) fun t ht => Nat.le_trans (listText_mem_le ht) hz'
      have R : Reads s.heap (.ref a) (.list ds) _ := .list ho hc hd2 r
      have off : a ∉ bs := not_mem_of_deeper R (by simp only [PyData.depth]; omega) hb
      refine call_repr_slot (by omega) ⟨o, ho, hc⟩ F.slot_list_repr.toG ?_
      simp only [PyData.shown] at done
      cases its with
      | nil =>
        cases r
        simp only [PyData.shownAll, listText_nil] at done
        exact call_list_repr_empty ⟨o, ho, hc⟩ ho hd2 ⟨_, _, rfl, done s.heap _ (fun _ _ e => e) _⟩
      | cons u us => exact call_list_reprK ho hc hd2 off (by simpa using k.length_eq) (fun i y e => k.item i y (by simpa using e)) hq (fun b _ => Clear.nil b) (by show X.A.units + 1 + (PyData.depthAll ds + 1) < cLine; omega) (fun _ _ e => e) (fun h' u tk hk => ⟨_, _, rfl, done h' tk hk u⟩) hz'
    | @tup a xs ds hq2 ha =>
      cases rv
      obtain ⟨its, rv2, ⟨o, ho, hc, n, hd2⟩, _⟩ := I.tuple hq2
      have hz' : (tupleText (PyData.shownAll ds)).length ≤ sizeLine := by simpa only [PyData.shown] using hz
      have hp' : PyData.depthAll ds + 1 ≤ 40 := by simpa only [PyData.depth] using hp
      obtain ⟨⟨as, r⟩, bs, hb, k⟩ := Dd.showsAll I ds _ its ha rv2 (by simpa [PyData.showable] using hs) fun t ht => Nat.le_trans (tupleText_mem_le ht) hz'
      have R : Reads s.heap (.ref a) (.tuple ds) _ := .tuple ho hc hd2 r
      have off : a ∉ bs := not_mem_of_deeper R (by simp only [PyData.depth]; omega) hb
      simp only [PyData.shown] at done
      exact call_repr_slot (by omega) ⟨o, ho, hc⟩ F.slot_tuple_repr (call_tuple_reprK ho hc hd2 off k hq (fun b _ => Clear.nil b) (by show X.A.units + 1 + (PyData.depthAll ds + 1) < cLine; omega) (fun _ _ e => e) (fun h' u tk hk => ⟨_, _, rfl, done h' tk hk u⟩) hz')
    | @dic a kvs ps hq2 ha =>
      cases rv
      obtain ⟨_, hsys, vs, kv, o, es, ep, ho, ⟨hc, _, _⟩, hd2, _, pr, _⟩ := I.hok _ _ hq2
      have hz' : (dictText (PyData.shownKv ps)).length ≤ sizeLine := by simpa only [PyData.shown] using hz
      have hp' : PyData.depthKv ps + 1 ≤ 40 := by simpa only [PyData.depth] using hp
      obtain ⟨⟨⟨as1, r1⟩, c1, h1, k1⟩, ⟨as2, r2⟩, c2, h2, k2⟩ := Dd.showsKv I ps _ vs es.toList ha kv pr (by simpa [PyData.showable] using hs) (fun t ht => Nat.le_trans (dictText_mem_le ht) hz')
      have R : Reads s.heap (.ref a) (.dict ps) _ := .dict ho hc hd2 r1 r2
      have hb : ReadAtMost s.heap (PyData.depthKv ps) (c1 ++ c2) := (h1.mono (PyData.depthAll_keys_le ps)).append (h2.mono (PyData.depthAll_vals_le ps))
      have off : a ∉ c1 ++ c2 := not_mem_of_deeper R (by simp only [PyData.depth]; omega) hb
      simp only [PyData.shown] at done
      exact call_repr_slot (by omega) ⟨o, ho, hc⟩ F.slot_dict_repr (call_dict_reprK ho hc hd2 hsys off (ReprEntriesK.of_two es.toList _ _
        (k1.more_le (fun _ z => List.mem_append_left _ z) (PyData.depthAll_keys_le ps)) (k2.more_le (fun _ z => List.mem_append_right _ z) (PyData.depthAll_vals_le ps)) |> fun z => by rw [← PyData.shownKv_eq] at z; exact z)
        hq (fun b _ => Clear.nil b) (by show X.A.units + 1 + (PyData.depthKv ps + 1) < cLine; omega) (fun _ _ e => e) (fun h' u tk hk => ⟨_, _, rfl, done h' tk hk u⟩) hz')
end
section
variable {K : PySem.W.Frag} {σ : L2.St} {H : Hp} {te : TE} {v : V} {d : PyData}
theorem v_show (h : Val te σ H v) (hd : Dd K H v d) (hs : d.showable = true) (hp : d.depth ≤ 40) (hz : d.shown.length ≤ 100000) : Val (tCB (rShow K) (tCons te tNil)) σ H (.str d.shown) := v_cb (va_cons h va_nil) fun Q q => ⟨v, d, rfl, hd, hs, hp, Nat.le_trans hz (by decide), q⟩
end
end GL

/-! several clauses 'except X as e' in one try -/
namespace TM
open PySem PySem.Spec PyProof.Rows L2
abbrev Cl := Value × Nat × (Addr → Value → Option Addr → TS)
/-- what the clauses wish of an exception, the first one first -/
def wNames (K : PySem.W.Frag) (Wout : WX) (D : Ends) (l : List Cl) : WX := l.foldr (fun q W => wAs K q.1 q.2.1 q.2.2 W D) Wout
/-- asked only of states that hold every name -/
def wLen (n : Nat) (W : WX) : WX := fun cls d σ H => σ.length = n → W cls d σ H
inductive Clauses (X : Cx) : List ExceptHandler → List Cl → Prop
  | nil : Clauses X [] []
  | cons {x n : Str} {c : Value} {i : Nat} {ts : Addr → Value → Option Addr → TS} {b : Stmt} {r : List Stmt} {np hp : Pos} {hds : List ExceptHandler} {l : List Cl} (hi : X.N[i]? = some n) (hn : X.env.kindOf n = some .local) (hc : Names X x c)
      (suite : ∀ (a : Addr) (oe : Obj) (cls : Value) (d : Option Addr) (pn : List (Addr × Obj)), Zc cls d oe → (∃ vs, oe.data = .fields vs) → PSs (X.suite a ((a, oe) :: pn)) (b :: r) (ts a cls d)) (more : Clauses X hds l) :
      Clauses X (.ExceptHandler (some (.Name x np)) (some n) (b :: r) hp :: hds) ((c, i, ts) :: l)
section
variable {X : Cx} {body : List Stmt} {h₀ : ExceptHandler} {hds : List ExceptHandler} {l : List Cl} {pos : Pos} {tb : WX → TS} {Wout : WX}
theorem ps_try_names (hs : X.stack = X.env :: X.outer) (hf : X.env.frame = some X.env.locals) (hN : X.N.Nodup) (tk : Takes X Wout)
    (hb : ∀ (W : WX) (pn : List (Addr × Obj)) (xe : Value → Shared → Prop), Takes (X.tr pn xe) W → PassesOwn (model X.prog X.w) X.A X.env xe → PSs (X.tr pn xe) body (tb W))
    (cl : Clauses X (h₀ :: hds) l) : PS X (.Try body (h₀ :: hds) [] [] pos) (fun D σ H => tb (wLen X.N.length (wNames X.K Wout D l)) D σ H) := by
  refine ⟨fun pins s σ H D I h => ?_⟩
  have ok := I.ok
  have frames : X.A.frames = some (X.env :: X.outer) := by rw [ok.frames, hs]
  refine wpAny_Try_except ?_
  have run := (hb (wLen X.N.length (wNames X.K Wout D l)) (X.pn ++ pins) (fun e t => wpAny (model X.prog X.w) X.A (noteFrame e X.env) (fun _ t2 => wpAny (model X.prog X.w) X.A (setFlight e none) (fun _ t3 =>
    wpAny (model X.prog X.w) X.A (handleBy e X.env (h₀ :: hds)) (SP X pins D) X.xe t3) X.xe t2) X.xe t) (fun u s' xx => ?_) PassesOwn.looking).run [] s σ H D (I.toTry _) h
  · refine wpAny_mono run (fun f s1 e => ?_) (fun e s1 he => he)
    cases f with
    | next =>
      obtain ⟨σ', H', J', q⟩ := e
      exact wpAny_execs_nil ⟨σ', H', J'.ofTry ok, q⟩
    | brk =>
      obtain ⟨σ', H', J', q⟩ := e
      exact ⟨σ', H', J'.ofTry ok, q⟩
    | cont =>
      obtain ⟨σ', H', J', q⟩ := e
      exact ⟨σ', H', J'.ofTry ok, q⟩
    | ret u =>
      obtain ⟨v, σ', H', J', r, q⟩ := e
      exact ⟨v, σ', H', J'.ofTry ok, r, q⟩
  · obtain ⟨a, B, sI, pins', σ', H', cls, d, rfl, J', nb, up, sky, na, os, ag, w⟩ := xx
    have J : Inv X pins σ' H' sI := J'.ofTry ok
    have sky' : Sky B (X.env :: X.outer) a (Zc cls d) X.env.locals s'.heap := by rw [← hs]; exact sky
    show wpAny (model X.prog X.w) X.A (noteFrame (.ref a) X.env) _ _ _
    refine Sky.land Zc.steady frames hf sky' fun h3 fl3 up3 => ?_
    have J3 : Inv X pins σ' H' { s' with heap := h3 } := J.landed nb fl3.1 (up.trans up3) os ag
    obtain ⟨oe, vs, he, hz, hd⟩ := fl3.there
    have away : a ∉ frs (X.env :: X.outer) := fun hm => by
      obtain ⟨_, o', e', no⟩ := fl3.2.2.1.mem hm
      rw [he] at e'; cases e'
      exact no _ hd
    have nL : a ≠ X.env.locals := fun z => away (List.mem_filterMap.mpr ⟨X.env, List.mem_cons_self, by rw [hf, z]⟩)
    have nF : a ∉ X.fs := fun hm => by
      obtain ⟨e, m, q⟩ := List.mem_filterMap.mp hm
      exact away (List.mem_filterMap.mpr ⟨e, List.mem_cons_of_mem _ m, q⟩)
    have S3 := J3.suite he hd na nL nF
    have looks : PySem.W.Looks (model X.prog X.w) h3 (typeOf (.ref a)) cls := fun A Q E s k q => wpAny_typeOf_ref (k _ _ he) (by rw [hz.1]; exact q)
    suffices go : ∀ {hs' : List ExceptHandler} {l' : List Cl}, Clauses X hs' l' → wNames X.K Wout D l' cls d σ' H' → wpAny (model X.prog X.w) X.A (handleBy (.ref a) X.env hs') (SP X pins D) X.xe { s' with heap := h3 } from go cl (w J.len)
    intro hs' l' k
    induction k with
    | nil =>
      intro w
      refine wpAny_handleBy_nil ?_
      obtain ⟨k1, k2, k3, oe2, vs2, T, oT, ts', he2, hz2, hd2, h1, hr⟩ := id fl3
      unfold PySem.passOn
      refine wpAny_bind (wpAny_field he2 hd2 h1 ?_)
      rw [if_neg (show ¬ ((Value.ref T == Value.none) = true) from by simp)]
      have out : wpAny (model X.prog X.w) X.A (setFlight (.ref a) X.env.frame) (fun _ s4 => wpAny (model X.prog X.w) X.A (throw (.ref a) : Sem Flow) (SP X pins D) X.xe s4) X.xe { s' with heap := h3 } := by
        rw [hf]
        refine HandSPX.setFlight_upZ fl3 fun h4 hh4 up4 => wpAny_throw (tk _ _ ?_)
        exact ⟨a, B, sI, pins, σ', H', cls, d, rfl, J, nb, (up.trans up3).trans up4, .inr (.inr (by rw [hs]; exact hh4)), na, os, ag, w⟩
      first
        | exact wpAny_bind (wpAny_pure (wpAny_bind out))
        | exact wpAny_bind out
    | @cons x n c i ts b r np hp hds2 l2 hi hn hc suite more ih =>
      intro w
      obtain ⟨t, ht, yes, no⟩ := w
      refine wpAny_handleBy_cons (codeAny_handlers_test ?_) (by intro q; cases q)
      have LM := PySem.W.exm_one (M := model X.prog X.w) (J3.kIn) looks ht
      have test : ∀ {Q : Value → Shared → Prop} {E : Value → Shared → Prop}, Q c { s' with heap := h3 } → wpAny (model X.prog X.w) (X.A.mark (some (.ref a))) (eval (.Name x np) X.env) Q E { s' with heap := h3 } := fun {Q E} q => by
        obtain ⟨g, db, hm | ⟨hm, hv, nn⟩⟩ := hc
        · exact ld_glob (X := X.suite a ((a, oe) :: (X.pn ++ pins))) S3 g hm q db
        · exact ld_blt (X := X.suite a ((a, oe) :: (X.pn ++ pins))) S3 g hm hv q nn db
      refine test (LM.here ?_)
      cases t with
      | false => exact ih (no rfl)
      | true =>
        refine codeAny_handlers_suite_as ?_
        refine HandSPX.lands_againZ fl3 fun h4 fl4 up4 => ?_
        have J4 : Inv X pins σ' H' { s' with heap := h4 } := J.landed nb fl4.1 ((up.trans up3).trans up4) os ag
        obtain ⟨oe4, vs4, he4, hz4, hd4⟩ := fl4.there
        have S4 := J4.suite he4 hd4 na nL nF
        refine store_ok (X := X.suite a ((a, oe4) :: (X.pn ++ pins))) (v := .ref a) S4 hN hi (.inl hn) rfl (fun s5 S5 => ?_) (.inr hn)
        refine wpAny_mono ((suite a oe4 cls d (X.pn ++ pins) hz4 ⟨_, hd4⟩).run [] s5 _ H' _ S5 (yes rfl a na)) (fun f s6 e => ?_) (fun _ _ z => False.elim z)
        cases f with
        | next =>
          obtain ⟨σ6, H6, S6, q6⟩ := e
          exact gone_ok (S6.unsuite ok) hN hi hn fun s7 J7 => ⟨_, _, J7, q6⟩
        | brk =>
          obtain ⟨σ6, H6, S6, q6⟩ := e
          exact gone_ok (S6.unsuite ok) hN hi hn fun s7 J7 => ⟨_, _, J7, q6⟩
        | cont =>
          obtain ⟨σ6, H6, S6, q6⟩ := e
          exact gone_ok (S6.unsuite ok) hN hi hn fun s7 J7 => ⟨_, _, J7, q6⟩
        | ret u =>
          obtain ⟨v6, σ6, H6, S6, r6, q6⟩ := e
          exact gone_ok (S6.unsuite ok) hN hi hn fun s7 J7 => ⟨_, _, _, J7, r6, q6⟩
end
end TM

namespace LW
open PySem PySem.Spec PyProof.Rows L2 GL
def top (i : Nat) : Stmt := PySem.Challenge.pw_flowpapers_k22_rooms_refused.main.body.getD i (.Pass ⟨0, 0, 0, 0⟩)
abbrev sis_ratio : Stmt := top 7
theorem scis_ratio : FnScope ["value"] ["value"] (defScope sis_ratio) := ⟨rfl, rfl, rfl, by decide +kernel, rfl, by decide +kernel, by decide +kernel⟩
abbrev stold : Stmt := top 8
theorem sctold : FnScope ["value", "what", "top", "bottom"] ["value", "what"] (defScope stold) := ⟨rfl, rfl, rfl, by decide +kernel, rfl, by decide +kernel, by decide +kernel⟩
abbrev sminus : Stmt := top 9
theorem scminus : FnScope ["one", "other", "top", "bottom", "other_top", "other_bottom"] ["one", "other"] (defScope sminus) := ⟨rfl, rfl, rfl, by decide +kernel, rfl, by decide +kernel, by decide +kernel⟩
abbrev sis_integer : Stmt := top 10
theorem scis_integer : FnScope ["value"] ["value"] (defScope sis_integer) := ⟨rfl, rfl, rfl, by decide +kernel, rfl, by decide +kernel, by decide +kernel⟩
abbrev s_parts : Stmt := top 11
theorem sc_parts : FnScope ["value", "what"] ["value", "what"] (defScope s_parts) := ⟨rfl, rfl, rfl, by decide +kernel, rfl, by decide +kernel, by decide +kernel⟩
abbrev s_lowest : Stmt := top 12
theorem sc_lowest : FnScope ["top", "bottom", "divisor"] ["top", "bottom"] (defScope s_lowest) := ⟨rfl, rfl, rfl, by decide +kernel, rfl, by decide +kernel, by decide +kernel⟩
abbrev sis_row : Stmt := top 14
theorem scis_row : FnScope ["value", "number"] ["value"] (defScope sis_row) := ⟨rfl, rfl, rfl, by decide +kernel, rfl, by decide +kernel, by decide +kernel⟩
abbrev sis_row_of : Stmt := top 15
theorem scis_row_of : FnScope ["value", "many"] ["value", "many"] (defScope sis_row_of) := ⟨rfl, rfl, rfl, by decide +kernel, rfl, by decide +kernel, by decide +kernel⟩
abbrev sis_place : Stmt := top 16
theorem scis_place : FnScope ["value"] ["value"] (defScope sis_place) := ⟨rfl, rfl, rfl, by decide +kernel, rfl, by decide +kernel, by decide +kernel⟩
abbrev spair_of : Stmt := top 17
theorem scpair_of : FnScope ["value"] ["value"] (defScope spair_of) := ⟨rfl, rfl, rfl, by decide +kernel, rfl, by decide +kernel, by decide +kernel⟩
abbrev splace_of : Stmt := top 18
theorem scplace_of : FnScope ["value"] ["value"] (defScope splace_of) := ⟨rfl, rfl, rfl, by decide +kernel, rfl, by decide +kernel, by decide +kernel⟩
abbrev sbottom_of : Stmt := top 20
theorem scbottom_of : FnScope ["pairs", "below", "_", "bottom"] ["pairs"] (defScope sbottom_of) := ⟨rfl, rfl, rfl, by decide +kernel, rfl, by decide +kernel, by decide +kernel⟩
abbrev swhole_row : Stmt := top 21
theorem scwhole_row : FnScope ["pairs", "below", "top", "bottom"] ["pairs"] (defScope swhole_row) := ⟨rfl, rfl, rfl, by decide +kernel, rfl, by decide +kernel, by decide +kernel⟩
abbrev sborder_of : Stmt := top 23
theorem scborder_of : FnScope ["value", "place", "places"] ["value"] (defScope sborder_of) := ⟨rfl, rfl, rfl, by decide +kernel, rfl, by decide +kernel, by decide +kernel⟩
abbrev sgrid_of : Stmt := top 24
theorem scgrid_of : FnScope ["rows", "wide", "_", "row", "place", "high", "points", "found", "start"] ["rows"] (defScope sgrid_of) := ⟨rfl, rfl, rfl, by decide +kernel, rfl, by decide +kernel, by decide +kernel⟩
abbrev ssides_of : Stmt := top 25
theorem scsides_of : FnScope ["places"] ["places"] (defScope ssides_of) := ⟨rfl, rfl, rfl, by decide +kernel, rfl, by decide +kernel, by decide +kernel⟩
abbrev sturned_sides : Stmt := top 26
theorem scturned_sides : FnScope ["places", "is_against", "goes_against"] ["places", "is_against"] (defScope sturned_sides) := ⟨rfl, rfl, rfl, by decide +kernel, rfl, by decide +kernel, by decide +kernel⟩
abbrev sarea_of : Stmt := top 27
theorem scarea_of : FnScope ["places", "wide", "below", "x", "_", "high", "further_below", "y"] ["places"] (defScope sarea_of) := ⟨rfl, rfl, rfl, by decide +kernel, rfl, by decide +kernel, by decide +kernel⟩
abbrev swhere : Stmt := top 28
theorem scwhere : FnScope ["point", "row", "x", "y", "found", "a", "b", "c", "d", "turn"] ["point", "row"] (defScope swhere) := ⟨rfl, rfl, rfl, by decide +kernel, rfl, by decide +kernel, by decide +kernel⟩
abbrev shas_apart : Stmt := top 29
theorem schas_apart : FnScope ["rows", "last", "edges", "row"] ["rows"] (defScope shas_apart) := ⟨rfl, rfl, rfl, by decide +kernel, rfl, by decide +kernel, by decide +kernel⟩
abbrev s_goes_once : Stmt := top 30
theorem sc_goes_once : FnScope ["row", "many", "k", "point", "edges"] ["row"] (defScope s_goes_once) := ⟨rfl, rfl, rfl, by decide +kernel, rfl, by decide +kernel, by decide +kernel⟩
abbrev s_edges : Stmt := top 31
theorem sc_edges : FnScope ["row", "a", "b", "c", "d"] ["row"] (defScope s_edges) := ⟨rfl, rfl, rfl, by decide +kernel, rfl, by decide +kernel, by decide +kernel⟩
abbrev s_have_meeting : Stmt := top 32
theorem sc_have_meeting : FnScope ["edges", "others", "left", "right", "low", "high", "a", "b", "other_left", "other_right", "other_low", "other_high", "c", "d"] ["edges", "others"] (defScope s_have_meeting) := ⟨rfl, rfl, rfl, by decide +kernel, rfl, by decide +kernel, by decide +kernel⟩
abbrev s_turn : Stmt := top 33
theorem sc_turn : FnScope ["a", "b", "c", "found"] ["a", "b", "c"] (defScope s_turn) := ⟨rfl, rfl, rfl, by decide +kernel, rfl, by decide +kernel, by decide +kernel⟩
abbrev s_twice_area : Stmt := top 34
theorem sc_twice_area : FnScope ["row", "a", "b", "c", "d"] ["row"] (defScope s_twice_area) := ⟨rfl, rfl, rfl, by decide +kernel, rfl, by decide +kernel, by decide +kernel⟩
abbrev s_told_holes : Stmt := top 37
theorem sc_told_holes : FnScope ["holes", "corners", "found", "hole", "border"] ["holes", "corners"] (defScope s_told_holes) := ⟨rfl, rfl, rfl, by decide +kernel, rfl, by decide +kernel, by decide +kernel⟩
abbrev s_law_pen : Stmt := top 39
theorem sc_law_pen : FnScope ["_law_script", "_law_fold", "_law_cell"] ["_law_script"] (defScope s_law_pen) := ⟨rfl, rfl, rfl, by decide +kernel, rfl, by decide +kernel, by decide +kernel⟩
abbrev s_law_draw : Stmt := top 40
theorem sc_law_draw : FnScope ["_law_pen_here", "_law_many", "_law_cell", "_law_digit", "_law_mixed"] ["_law_pen_here", "_law_many"] (defScope s_law_draw) := ⟨rfl, rfl, rfl, by decide +kernel, rfl, by decide +kernel, by decide +kernel⟩
abbrev s_law_pick : Stmt := top 41
theorem sc_law_pick : FnScope ["_law_pen_here", "_law_some"] ["_law_pen_here", "_law_some"] (defScope s_law_pick) := ⟨rfl, rfl, rfl, by decide +kernel, rfl, by decide +kernel, by decide +kernel⟩
abbrev s_law_gcd : Stmt := top 42
theorem sc_law_gcd : FnScope ["_law_one", "_law_two", "_law_lap"] ["_law_one", "_law_two"] (defScope s_law_gcd) := ⟨rfl, rfl, rfl, by decide +kernel, rfl, by decide +kernel, by decide +kernel⟩
abbrev s_law_q : Stmt := top 43
theorem sc_law_q : FnScope ["_law_top", "_law_bottom", "_law_by"] ["_law_top", "_law_bottom"] (defScope s_law_q) := ⟨rfl, rfl, rfl, by decide +kernel, rfl, by decide +kernel, by decide +kernel⟩
abbrev s_law_minus : Stmt := top 44
theorem sc_law_minus : FnScope ["_law_one", "_law_two"] ["_law_one", "_law_two"] (defScope s_law_minus) := ⟨rfl, rfl, rfl, by decide +kernel, rfl, by decide +kernel, by decide +kernel⟩
abbrev s_law_turned_row : Stmt := top 45
theorem sc_law_turned_row : FnScope ["_law_pen_here", "_law_row", "_law_k", "_law_found"] ["_law_pen_here", "_law_row"] (defScope s_law_turned_row) := ⟨rfl, rfl, rfl, by decide +kernel, rfl, by decide +kernel, by decide +kernel⟩
abbrev s_law_fault : Stmt := top 46
theorem sc_law_fault : FnScope ["_law_call", "_law_told", "error"] ["_law_call"] (defScope s_law_fault) := ⟨rfl, rfl, rfl, by decide +kernel, rfl, by decide +kernel, by decide +kernel⟩
abbrev s_law_bad_rows : Stmt := top 47
theorem sc_law_bad_rows : FnScope ["_law_found"] [] (defScope s_law_bad_rows) := ⟨rfl, rfl, rfl, by decide +kernel, rfl, by decide +kernel, by decide +kernel⟩
abbrev s_law_bad_holes : Stmt := top 48
theorem sc_law_bad_holes : FnScope ["_law_found"] [] (defScope s_law_bad_holes) := ⟨rfl, rfl, rfl, by decide +kernel, rfl, by decide +kernel, by decide +kernel⟩
abbrev s_law_crossed_rows : Stmt := top 49
theorem sc_law_crossed_rows : FnScope ["_law_found"] [] (defScope s_law_crossed_rows) := ⟨rfl, rfl, rfl, by decide +kernel, rfl, by decide +kernel, by decide +kernel⟩
abbrev s_law_long_rows : Stmt := top 50
theorem sc_law_long_rows : FnScope ["_law_one"] [] (defScope s_law_long_rows) := ⟨rfl, rfl, rfl, by decide +kernel, rfl, by decide +kernel, by decide +kernel⟩
abbrev s_law_crossings_right : Stmt := top 51
theorem sc_law_crossings_right : FnScope ["_law_pen_here", "_law_square", "_law_first", "_law_row", "_law_notch", "_law_bar", "_law_other", "_law_good", "_law_near", "_law_both", "_law_wide", "_law_many", "_law_before"] ["_law_pen_here", "_law_square", "_law_first"] (defScope s_law_crossings_right) := ⟨rfl, rfl, rfl, by decide +kernel, rfl, by decide +kernel, by decide +kernel⟩
abbrev slaw : Stmt := top 52
theorem sclaw : FnScope ["_law_script", "_law_pen_here", "_law_square", "_law_first", "_law_lap", "_law_bad", "_law_hole", "_law_odd", "_law_other", "_law_near", "_law_due", "_law_close", "_law_comb"] ["_law_script"] (defScope slaw) := ⟨rfl, rfl, rfl, by decide +kernel, rfl, by decide +kernel, by decide +kernel⟩
/-! ### the pen -/
abbrev kCe : Key := Sum.inr ("cells" : Str)
abbrev kAt : Key := Sum.inr ("at" : Str)
abbrev kDi : Key := Sum.inr ("digits" : Str)
abbrev kCo : Key := Sum.inr ("count" : Str)
abbrev kFo : Key := Sum.inr ("fold" : Str)
def penK (c : Addr) (a d n f : Int) : List (Key × V) := [(kCe, .ref c), (kAt, .int a), (kDi, .int d), (kCo, .int n), (kFo, .int f)]
theorem sneCeAt : ¬ (("cells" : Str) = "at") := by decide +kernel
theorem neCeAt : ¬ (kCe = kAt) := by decide +kernel
theorem sneCeDi : ¬ (("cells" : Str) = "digits") := by decide +kernel
theorem neCeDi : ¬ (kCe = kDi) := by decide +kernel
theorem sneCeCo : ¬ (("cells" : Str) = "count") := by decide +kernel
theorem neCeCo : ¬ (kCe = kCo) := by decide +kernel
theorem sneCeFo : ¬ (("cells" : Str) = "fold") := by decide +kernel
theorem neCeFo : ¬ (kCe = kFo) := by decide +kernel
theorem sneAtCe : ¬ (("at" : Str) = "cells") := by decide +kernel
theorem neAtCe : ¬ (kAt = kCe) := by decide +kernel
theorem sneAtDi : ¬ (("at" : Str) = "digits") := by decide +kernel
theorem neAtDi : ¬ (kAt = kDi) := by decide +kernel
theorem sneAtCo : ¬ (("at" : Str) = "count") := by decide +kernel
theorem neAtCo : ¬ (kAt = kCo) := by decide +kernel
theorem sneAtFo : ¬ (("at" : Str) = "fold") := by decide +kernel
theorem neAtFo : ¬ (kAt = kFo) := by decide +kernel
theorem sneDiCe : ¬ (("digits" : Str) = "cells") := by decide +kernel
theorem neDiCe : ¬ (kDi = kCe) := by decide +kernel
theorem sneDiAt : ¬ (("digits" : Str) = "at") := by decide +kernel
theorem neDiAt : ¬ (kDi = kAt) := by decide +kernel
theorem sneDiCo : ¬ (("digits" : Str) = "count") := by decide +kernel
theorem neDiCo : ¬ (kDi = kCo) := by decide +kernel
theorem sneDiFo : ¬ (("digits" : Str) = "fold") := by decide +kernel
theorem neDiFo : ¬ (kDi = kFo) := by decide +kernel
theorem sneCoCe : ¬ (("count" : Str) = "cells") := by decide +kernel
theorem neCoCe : ¬ (kCo = kCe) := by decide +kernel
theorem sneCoAt : ¬ (("count" : Str) = "at") := by decide +kernel
theorem neCoAt : ¬ (kCo = kAt) := by decide +kernel
theorem sneCoDi : ¬ (("count" : Str) = "digits") := by decide +kernel
theorem neCoDi : ¬ (kCo = kDi) := by decide +kernel
theorem sneCoFo : ¬ (("count" : Str) = "fold") := by decide +kernel
theorem neCoFo : ¬ (kCo = kFo) := by decide +kernel
theorem sneFoCe : ¬ (("fold" : Str) = "cells") := by decide +kernel
theorem neFoCe : ¬ (kFo = kCe) := by decide +kernel
theorem sneFoAt : ¬ (("fold" : Str) = "at") := by decide +kernel
theorem neFoAt : ¬ (kFo = kAt) := by decide +kernel
theorem sneFoDi : ¬ (("fold" : Str) = "digits") := by decide +kernel
theorem neFoDi : ¬ (kFo = kDi) := by decide +kernel
theorem sneFoCo : ¬ (("fold" : Str) = "count") := by decide +kernel
theorem neFoCo : ¬ (kFo = kCo) := by decide +kernel
theorem pen_cells {c : Addr} {a d n f : Int} : valV (penK c a d n f) kCe = some (.ref c) := by
  unfold penK
  rw [valV_pos rfl]
theorem pen_at {c : Addr} {a d n f : Int} : valV (penK c a d n f) kAt = some (.int a) := by
  unfold penK
  rw [valV_neg neCeAt, valV_pos rfl]
theorem pen_digits {c : Addr} {a d n f : Int} : valV (penK c a d n f) kDi = some (.int d) := by
  unfold penK
  rw [valV_neg neCeDi, valV_neg neAtDi, valV_pos rfl]
theorem pen_count {c : Addr} {a d n f : Int} : valV (penK c a d n f) kCo = some (.int n) := by
  unfold penK
  rw [valV_neg neCeCo, valV_neg neAtCo, valV_neg neDiCo, valV_pos rfl]
theorem pen_fold {c : Addr} {a d n f : Int} : valV (penK c a d n f) kFo = some (.int f) := by
  unfold penK
  rw [valV_neg neCeFo, valV_neg neAtFo, valV_neg neDiFo, valV_neg neCoFo, valV_pos rfl]
theorem put_at {c : Addr} {a d n f x : Int} : putK (penK c a d n f) kAt (.int x) = penK c x d n f := by
  simp [putK, penK, sneCeAt, sneDiAt, sneCoAt, sneFoAt]
theorem put_digits {c : Addr} {a d n f x : Int} : putK (penK c a d n f) kDi (.int x) = penK c a x n f := by
  simp [putK, penK, sneCeDi, sneAtDi, sneCoDi, sneFoDi]
theorem put_count {c : Addr} {a d n f x : Int} : putK (penK c a d n f) kCo (.int x) = penK c a d x f := by
  simp [putK, penK, sneCeCo, sneAtCo, sneDiCo, sneFoCo]
theorem put_fold {c : Addr} {a d n f x : Int} : putK (penK c a d n f) kFo (.int x) = penK c a d n x := by
  simp [putK, penK, sneCeFo, sneAtFo, sneDiFo, sneCoFo]
theorem merge_pen {c : Addr} {f : Int} : mergeK [] (penK c 0 0 0 f) = penK c 0 0 0 f := by
  simp [mergeK, putK, penK, sneCeAt, sneCeDi, sneCeCo, sneCeFo, sneAtDi, sneAtCo, sneAtFo, sneDiCo, sneDiFo, sneCoFo]
/-- a pen stands at p: at most m draws were made -/
def PenAt (H : Hp) (p c : Addr) (m : Nat) : Prop := ∃ (a d n f : Int) (ns : List Int), H p = some (.dK (penK c a d n f)) ∧ H c = some (.lst (ns.map V.int)) ∧
  0 ≤ a ∧ a ≤ ns.length ∧ 0 ≤ d ∧ 0 ≤ n ∧ n ≤ m ∧ 0 ≤ f ∧ f < 2147483587
theorem PenAt.le {H : Hp} {p c : Addr} {m m' : Nat} (h : PenAt H p c m) (l : m ≤ m') : PenAt H p c m' := by
  obtain ⟨a, d, n, f, ns, h1, h2, h3, h4, h5, h6, h7, h8⟩ := h
  exact ⟨a, d, n, f, ns, h1, h2, h3, h4, h5, h6, by omega, h8⟩
/-- all that stood stands, but what the pen's own dict holds -/
def But (p : Addr) (H H' : Hp) : Prop := ∀ b o, H b = some o → b ≠ p → H' b = some o
theorem But.refl {p : Addr} {H : Hp} : But p H H := fun _ _ h _ => h
theorem But.trans {p : Addr} {H H1 H2 : Hp} (a : But p H H1) (b : But p H1 H2) : But p H H2 := fun c o h n => b c o (a c o h n) n
theorem But.of {p : Addr} {H H' : Hp} (a : Same H H') : But p H H' := fun b o h _ => a b o h
/-- a list of its own may change -/
theorem PenAt.off {H H' : Hp} {p c : Addr} {m : Nat} (h : PenAt H p c m) (s1 : ∀ o, H p = some o → H' p = some o) (s2 : ∀ o, H c = some o → H' c = some o) : PenAt H' p c m := by
  obtain ⟨a, d, n, f, ns, h1, h2, h3⟩ := h
  exact ⟨a, d, n, f, ns, s1 _ h1, s2 _ h2, h3⟩
theorem Same.new {H : Hp} {p : Addr} {o : HO} (h : H p = none) : Same H (upd H p o) := fun b u e => by
  rw [upd_ne (ne_of_none e h)]
  exact e
theorem PenAt.same {H H' : Hp} {p c : Addr} {m : Nat} (h : PenAt H p c m) (s : Same H H') : PenAt H' p c m := by
  obtain ⟨a, d, n, f, ns, h1, h2, h3⟩ := h
  exact ⟨a, d, n, f, ns, s _ _ h1, s _ _ h2, h3⟩

/-! ### what they promise -/
def spPen (K : PySem.W.Frag) : Sp := fun vs H Q _ => ∃ (a : Addr) (ns : List Int), vs = [.ref a] ∧ SqL K H a (ns.map V.int) ∧ ns.length ≤ 63 ∧ ∀ (p c : Addr) (H' : Hp), Same H H' → PenAt H' p c 0 → Q (.ref p) H'
/-- the number of draws that may have been made -/
def most : Nat := 1000000000
def spDraw : Sp := fun vs H Q _ => ∃ (p c : Addr) (many : Int) (m : Nat), vs = [.ref p, .int many] ∧ PenAt H p c m ∧ m < most ∧ 0 < many ∧ many < 1000000000 ∧
  ∀ (r : Int) (H' : Hp), 0 ≤ r → r < many → But p H H' → PenAt H' p c (m + 1) → Q (.int r) H'

structure Txt (K : PySem.W.Frag) (mg : Str → Option Value) : Prop where
  int : mg "int" = none
  bool : mg "bool" = none
  list : mg "list" = none
  tuple : mg "tuple" = none
  len : mg "len" = none
  range : mg "range" = none
  isinstance : mg "isinstance" = none
  repr : mg "repr" = none
  abs : mg "abs" = none
  all : mg "all" = none
  zip : mg "zip" = none
  any : mg "any" = none
  sum : mg "sum" = none
  enumerate : mg "enumerate" = none
  gcd : mg "gcd" = some (.builtin "math.gcd")
  lcm : mg "lcm" = some (.builtin "math.lcm")
  is_ratio : Df K mg "is_ratio" sis_ratio ["value"]
  told : Df K mg "told" stold ["value", "what"]
  minus : Df K mg "minus" sminus ["one", "other"]
  is_integer : Df K mg "is_integer" sis_integer ["value"]
  _parts : Df K mg "_parts" s_parts ["value", "what"]
  _lowest : Df K mg "_lowest" s_lowest ["top", "bottom"]
  is_row : Df K mg "is_row" sis_row ["value"]
  is_row_of : Df K mg "is_row_of" sis_row_of ["value", "many"]
  is_place : Df K mg "is_place" sis_place ["value"]
  pair_of : Df K mg "pair_of" spair_of ["value"]
  place_of : Df K mg "place_of" splace_of ["value"]
  bottom_of : Df K mg "bottom_of" sbottom_of ["pairs"]
  whole_row : Df K mg "whole_row" swhole_row ["pairs"]
  border_of : Df K mg "border_of" sborder_of ["value"]
  grid_of : Df K mg "grid_of" sgrid_of ["rows"]
  sides_of : Df K mg "sides_of" ssides_of ["places"]
  turned_sides : Df K mg "turned_sides" sturned_sides ["places", "is_against"]
  area_of : Df K mg "area_of" sarea_of ["places"]
  «where» : Df K mg "where" swhere ["point", "row"]
  has_apart : Df K mg "has_apart" shas_apart ["rows"]
  _goes_once : Df K mg "_goes_once" s_goes_once ["row"]
  _edges : Df K mg "_edges" s_edges ["row"]
  _have_meeting : Df K mg "_have_meeting" s_have_meeting ["edges", "others"]
  _turn : Df K mg "_turn" s_turn ["a", "b", "c"]
  _twice_area : Df K mg "_twice_area" s_twice_area ["row"]
  _told_holes : Df K mg "_told_holes" s_told_holes ["holes", "corners"]
  _law_pen : Df K mg "_law_pen" s_law_pen ["_law_script"]
  _law_draw : Df K mg "_law_draw" s_law_draw ["_law_pen_here", "_law_many"]
  _law_pick : Df K mg "_law_pick" s_law_pick ["_law_pen_here", "_law_some"]
  _law_gcd : Df K mg "_law_gcd" s_law_gcd ["_law_one", "_law_two"]
  _law_q : Df K mg "_law_q" s_law_q ["_law_top", "_law_bottom"]
  _law_minus : Df K mg "_law_minus" s_law_minus ["_law_one", "_law_two"]
  _law_turned_row : Df K mg "_law_turned_row" s_law_turned_row ["_law_pen_here", "_law_row"]
  _law_fault : Df K mg "_law_fault" s_law_fault ["_law_call"]
  _law_bad_rows : Df K mg "_law_bad_rows" s_law_bad_rows []
  _law_bad_holes : Df K mg "_law_bad_holes" s_law_bad_holes []
  _law_crossed_rows : Df K mg "_law_crossed_rows" s_law_crossed_rows []
  _law_long_rows : Df K mg "_law_long_rows" s_law_long_rows []
  _law_crossings_right : Df K mg "_law_crossings_right" s_law_crossings_right ["_law_pen_here", "_law_square", "_law_first"]
  law : Df K mg "law" slaw ["_law_script"]
  BadNumber : ClI K mg "BadNumber" "BadNumber.__init__" (inClass (top 3) 0) ["self", "what", "number"] ["what", "number"]
  BadRow : ClI K mg "BadRow" "BadRow.__init__" (inClass (top 4) 0) ["self", "row"] ["row"]
  Shared : ClI K mg "Shared" "Shared.__init__" (inClass (top 5) 0) ["self", "plane"] ["plane"]
  xBadRowBadNumber : PySem.W.exmOne K (.ref (fA mg "BadRow")) (.ref (fA mg "BadNumber")) = some false
  xBadRowBadRow : PySem.W.exmOne K (.ref (fA mg "BadRow")) (.ref (fA mg "BadRow")) = some true
  lb : ∀ (s : PySem.Shared) (u : PySem.Value), BindsTo s (fDat K (fA mg "law")) ⟨[u], []⟩ [("_law_script", u)]
section
variable {P : Program} {w : World} {K : PySem.W.Frag} {mg : Str → Option Value} {base : Heap}
theorem scI_BadNumber : FnScope ["self", "what", "number"] ["self", "what", "number"] (defScope (inClass (top 3) 0)) := ⟨rfl, rfl, rfl, by decide +kernel, rfl, by decide +kernel, by decide +kernel⟩
theorem init_BadNumber (T : Txt K mg) : FnOk P w K mg base CX0 1 (iA K (fA mg "BadNumber")) (fDat K (iA K (fA mg "BadNumber"))) ["self", "what", "number"] (spI2 (fA mg "BadNumber") "what" "number") := by
  refine T.BadNumber.F.ok scI_BadNumber (fun vs H Q E h => ?_) (fun cdv A outer s H vs Q E hr h => ?_)
  · obtain ⟨a, v, u, rfl, _⟩ := h
    rfl
  · obtain ⟨a, v, u, rfl, ha, k⟩ := h
    refine ⟨_, pss_cons (ps_ost (pv 0) (pv 1)) (pss_one (ps_ost (pv 0) (pv 2))), s_ost1 T.BadNumber.o (T.BadNumber.n _ (by simp)) ha rfl rfl fun dx hd ne => ?_⟩
    exact s_ost2 T.BadNumber.o (T.BadNumber.n _ (by simp)) upd_same (by rw [upd_ne ne, upd_same]) rfl rfl (k dx hd ne)

/-! ### kinds of values -/
def kinds : List String := ["int", "bool", "str", "NoneType", "dict", "list", "tuple"]
theorem kit_int {n : String} (h : n ∈ kinds) : PySem.W.kitOne K (.type n) (.type "int") = some (decide (n = "int") || decide (n = "bool")) := by
  simp only [kinds, List.mem_cons, List.not_mem_nil, or_false] at h
  rcases h with rfl | rfl | rfl | rfl | rfl | rfl | rfl <;> exact kit_ty (by decide +kernel)
theorem kit_bool {n : String} (h : n ∈ kinds) : PySem.W.kitOne K (.type n) (.type "bool") = some (decide (n = "bool")) := by
  simp only [kinds, List.mem_cons, List.not_mem_nil, or_false] at h
  rcases h with rfl | rfl | rfl | rfl | rfl | rfl | rfl <;> exact kit_ty (by decide +kernel)
theorem kit_tuple {n : String} (h : n ∈ kinds) : PySem.W.kitOne K (.type n) (.type "tuple") = some (decide (n = "tuple")) := by
  simp only [kinds, List.mem_cons, List.not_mem_nil, or_false] at h
  rcases h with rfl | rfl | rfl | rfl | rfl | rfl | rfl <;> exact kit_ty (by decide +kernel)
theorem kit_list {n : String} (h : n ∈ kinds) : PySem.W.kitOne K (.type n) (.type "list") = some (decide (n = "list")) := by
  simp only [kinds, List.mem_cons, List.not_mem_nil, or_false] at h
  rcases h with rfl | rfl | rfl | rfl | rfl | rfl | rfl <;> exact kit_ty (by decide +kernel)
theorem kit_seq {n : String} (h : n ∈ kinds) : PySem.W.kitAny K (.type n) [.type "tuple", .type "list"] = some (decide (n = "tuple") || decide (n = "list")) := by
  refine kitAny_cons (kit_tuple h) (fun e => ?_) (fun e => by rw [e]; rfl)
  rw [e]
  exact kitAny_cons (kit_list h) (fun e2 => by rw [e2]; rfl) (fun e2 => by rw [e2]; rfl)
/-- a value's kind, by its name -/
inductive Is (H : Hp) : V → String → Prop
  | int (i : Int) : Is H (.int i) "int"
  | bl (b : Bool) : Is H (.bl b) "bool"
  | str (x : Str) : Is H (.str x) "str"
  | non : Is H .non "NoneType"
  | lst {a : Addr} {xs : List V} (e : H a = some (.lst xs)) : Is H (.ref a) "list"
  | tup {a : Addr} {xs : List V} (e : H a = some (.tup xs)) : Is H (.ref a) "tuple"
  | dic {a : Addr} {kvs : List (Key × V)} (e : H a = some (.dK kvs)) : Is H (.ref a) "dict"
theorem Is.ty {K : PySem.W.Frag} {H : Hp} {v : V} {n : String} (h : Is H v n) : TyX K H v (.type n) ∧ n ∈ kinds := by
  cases h with
  | int i => exact ⟨.base (.int i), by decide⟩
  | bl b => exact ⟨.base (.bl b), by decide⟩
  | str x => exact ⟨.base (.str x), by decide⟩
  | non => exact ⟨.base .non, by decide⟩
  | lst e => exact ⟨.base (.lst e), by decide⟩
  | tup e => exact ⟨.base (.tup e), by decide⟩
  | dic e => exact ⟨.base (.dK e), by decide⟩
theorem Is.same {H H' : Hp} {v : V} {n : String} (h : Is H v n) (s : Same H H') : Is H' v n := by
  cases h with
  | int i => exact .int i
  | bl b => exact .bl b
  | str x => exact .str x
  | non => exact .non
  | lst e => exact .lst (s _ _ e)
  | tup e => exact .tup (s _ _ e)
  | dic e => exact .dic (s _ _ e)
theorem v_isi {σ : L2.St} {H : Hp} {te : TE} {v : V} {n c : String} {b : Bool} (h : Val te σ H v) (ty : TyX K H v (.type n)) (k : PySem.W.kitOne K (.type n) (.type c) = some b) :
    Val (tCB (rIsi K) (tCons te (tCons (tC (.ty c)) tNil))) σ H (.bl b) := v_cb (va_cons h (va_cons val_c va_nil)) fun Q q => ⟨v, _, _, _, b, rfl, .ty c, ty, k, q⟩
def spInt : Sp := fun vs H Q _ => ∃ (v : V) (n : String), vs = [v] ∧ Is H v n ∧ Q (.bl (decide (n = "int"))) H
theorem ok_is_integer (T : Txt K mg) : FnOk P w K mg base CX0 1 (fA mg "is_integer") (fDat K (fA mg "is_integer")) ["value"] spInt := by
  refine T.is_integer.F.ok scis_integer (fun vs H Q E h => ?_) (fun cdv A outer s H vs Q E hr h => ?_)
  · obtain ⟨v, n, rfl, _⟩ := h
    rfl
  · obtain ⟨v, n, rfl, is, k⟩ := h
    obtain ⟨ty, hn⟩ := is.ty (K := K)
    refine ⟨_, (pss_one (ps_ret (pe_and (pe_callB call_isi (by rfl) T.isinstance (by decide +kernel) (pa_cons (pv 0) (pa_cons (pe_bltn (v := .ty "int") (by rfl) T.int (by decide +kernel) rfl) pa_nil))) (pe_one (pe_not (pe_callB call_isi (by rfl) T.isinstance (by decide +kernel) (pa_cons (pv 0) (pa_cons (pe_bltn (v := .ty "bool") (by rfl) T.bool (by decide +kernel) rfl) pa_nil)))))))), ?_⟩
    refine r_ret ?_
    refine (v_isi (val_var rfl) ty (kit_int hn)) _ ?_
    refine ⟨_, rfl, ?_⟩
    by_cases h1 : n = "int"
    · subst h1
      refine iteT ?_
      refine (v_isi (val_var rfl) ty (kit_bool hn)) _ ?_
      exact ⟨_, rfl, k⟩
    · by_cases h2 : n = "bool"
      · subst h2
        refine iteT ?_
        refine (v_isi (val_var rfl) ty (kit_bool hn)) _ ?_
        exact ⟨_, rfl, k⟩
      · have e : (decide (n = "int") || decide (n = "bool")) = false := by simp [h1, h2]
        rw [e]
        refine iteF ?_
        rw [decide_eq_false h1] at k
        exact k

/-! ### is_ratio -/
/-- a list or a tuple stands at a -/
def Sq (H : Hp) (a : Addr) (xs : List V) : Prop := H a = some (.lst xs) ∨ H a = some (.tup xs)
theorem Sq.same {H H' : Hp} {a : Addr} {xs : List V} (h : Sq H a xs) (s : Same H H') : Sq H' a xs := h.elim (fun z => .inl (s _ _ z)) fun z => .inr (s _ _ z)
theorem Sq.is {H : Hp} {a : Addr} {xs : List V} (h : Sq H a xs) : ∃ n, Is H (.ref a) n ∧ (n = "list" ∨ n = "tuple") := by
  rcases h with h | h
  · exact ⟨"list", .lst h, .inl rfl⟩
  · exact ⟨"tuple", .tup h, .inr rfl⟩
theorem Sq.sq {K : PySem.W.Frag} {H : Hp} {a : Addr} {xs : List V} (h : Sq H a xs) : SqL K H a xs ∨ SqT K H a xs := h.elim (fun z => .inl (SqL.of z)) fun z => .inr (SqT.of z)
theorem v_ixS {K : PySem.W.Frag} {σ : L2.St} {H : Hp} {te tb : TE} {a : Addr} {xs : List V} {n : Nat} {v : V} (h : Val te σ H (.ref a)) (hi : Val tb σ H (.int (n : Int))) (hx : Sq H a xs) (he : xs[n]? = some v) : Val (tOp (rIx K) te tb) σ H v :=
  val_op h hi fun Q q => hx.elim (fun z => .inl ⟨a, xs, n, v, rfl, rfl, SqL.of z, atI_nat he, q⟩) fun z => .inr (.inl ⟨a, xs, n, v, rfl, rfl, SqT.of z, atI_nat he, q⟩)
/-- what is_ratio answers -/
inductive RatQ (H : Hp) : V → Bool → Prop
  | int (i : Int) : RatQ H (.int i) true
  | odd {v : V} {n : String} (h : Is H v n) (o : n = "bool" ∨ n = "str" ∨ n = "NoneType" ∨ n = "dict") : RatQ H v false
  | len {a : Addr} {xs : List V} (h : Sq H a xs) (l : xs.length ≠ 2) : RatQ H (.ref a) false
  | fst {a : Addr} {x y : V} {n : String} (h : Sq H a [x, y]) (hx : Is H x n) (o : n ≠ "int") : RatQ H (.ref a) false
  | snd {a : Addr} {i : Int} {y : V} {n : String} (h : Sq H a [.int i, y]) (hx : Is H y n) (o : n ≠ "int") : RatQ H (.ref a) false
  | pair {a : Addr} {i j : Int} (h : Sq H a [.int i, .int j]) : RatQ H (.ref a) (decide (0 < j))
theorem RatQ.same {H H' : Hp} {v : V} {b : Bool} (h : RatQ H v b) (s : Same H H') : RatQ H' v b := by
  cases h with
  | int i => exact .int i
  | odd h o => exact .odd (h.same s) o
  | len h l => exact .len (h.same s) l
  | fst h hx o => exact .fst (h.same s) (hx.same s) o
  | snd h hx o => exact .snd (h.same s) (hx.same s) o
  | pair h => exact .pair (h.same s)
def spRat : Sp := fun vs H Q _ => ∃ (v : V) (b : Bool), vs = [v] ∧ RatQ H v b ∧ ∀ H', Same H H' → Q (.bl b) H'
/-- if not t: .. -/
theorem q_ifNot {σ : L2.St} {H : Hp} {t : TT} {t1 tz : TS} {D : Ends} (h : t σ H fun c H1 => if (!c) = true then t1 { D with nx := tz D } σ H1 else tz D σ H1) : tSeq (tIfS (tNot t) t1 tNext) tz D σ H := h
/-- if not t or u: .. -/
theorem q_ifOrNot {σ : L2.St} {H : Hp} {t u : TT} {t1 tz : TS} {D : Ends} (h : t σ H fun c H1 => if (!c) = true then (if true = true then t1 { D with nx := tz D } σ H1 else tz D σ H1) else
    u σ H1 fun b H2 => if b = true then t1 { D with nx := tz D } σ H2 else tz D σ H2) : tSeq (tIfS (tOr (tNot t) u) t1 tNext) tz D σ H := h
theorem ok_is_ratio (T : Txt K mg) : FnOk P w K mg base CX0 3 (fA mg "is_ratio") (fDat K (fA mg "is_ratio")) ["value"] spRat := by
  have Gis_integer := ok_is_integer (P := P) (w := w) (base := base) T
  refine T.is_ratio.F.ok scis_ratio (fun vs H Q E h => ?_) (fun cdv A outer s H vs Q E hr h => ?_)
  · obtain ⟨v, b, rfl, _⟩ := h
    rfl
  · obtain ⟨v, b, rfl, hR, k⟩ := h
    refine ⟨_, (pss_cons (ps_if (pt_val (pe_c T.is_integer Gis_integer (hr.mono (by decide)) (pa_cons (pv 0) pa_nil))) (pss_one (ps_ret pe_bl)) pss_nil)
  (pss_cons (ps_if (PW.pt (pw_or (pt_not (pt_val (pe_callB call_isiT (by rfl) T.isinstance (by decide +kernel) (pa_cons (pv 0) (pa_cons (pe_tup (pa_cons (pe_bltn (v := .ty "tuple") (by rfl) T.tuple (by decide +kernel) rfl) (pa_cons (pe_bltn (v := .ty "list") (by rfl) T.list (by decide +kernel) rfl) pa_nil))) pa_nil))))) (pw_or1 (pt_cmpR op_ne (pe_callB call_len_seq (by rfl) T.len PySem.boot_len (pa_cons (pv 0) pa_nil)) pe_int (nomark _))))) (pss_one (ps_ret pe_bl)) pss_nil)
  (pss_one (ps_ret (pe_and (pe_c T.is_integer Gis_integer (hr.mono (by decide)) (pa_cons (pe_ix ix_seq (pv 0) pe_int (fun _ _ => rfl)) pa_nil)) (pe_and (pe_c T.is_integer Gis_integer (hr.mono (by decide)) (pa_cons (pe_ix ix_seq (pv 0) pe_int (fun _ _ => rfl)) pa_nil)) (pe_one (pe_cmpR op_gt (pe_ix ix_seq (pv 0) pe_int (fun _ _ => rfl)) pe_int (nomark _))))))))), ?_⟩
    have whole : ∀ {te : TE} {σ : L2.St} {H1 : Hp} {v : V} {n : String}, Val te σ H1 v → Is H1 v n → Val (tCall spInt [] E0 (tCons te tNil)) σ H1 (.bl (decide (n = "int"))) := fun h i Q q => c_call (va_cons h va_nil) ⟨_, _, rfl, i, q⟩
    have no : ∀ {n : String}, n ≠ "int" → decide (n = "int") = false := fun h => decide_eq_false h
    -- isinstance(value, (tuple, list)): a new tuple of both
    have both : ∀ {H1 : Hp} {v : V} {n : String} {Q : Bool → Hp → Prop}, Is H1 v n → (∀ H2, Same H1 H2 → Q (decide (n = "tuple") || decide (n = "list")) H2) →
        tB (tCB (rIsiT K) (tCons (tVar 0) (tCons (tTup (tCons (tC (.ty "tuple")) (tCons (tC (.ty "list")) tNil))) tNil))) [some v] H1 Q := fun {H1 v n Q} i q =>
      ⟨v, rfl, ⟨by show 2 ≤ sizeLine; decide, fun p hp => ⟨v, p, [.ty "tuple", .ty "list"], _, [.type "tuple", .type "list"], _, rfl, upd_same, .cons (.ty _) (.cons (.ty _) .nil), (i.same (Same.new' hp)).ty.1, kit_seq (i.ty (K := K)).2, _, rfl, q _ (Same.new' hp)⟩⟩⟩
    have notI : ∀ {a : Addr} {xs : List V}, Sq H a xs → ∃ n, Is H (.ref a) n ∧ n ≠ "int" ∧ (decide (n = "tuple") || decide (n = "list")) = true := fun {a xs} h => by
      obtain ⟨n, i, o⟩ := h.is
      exact ⟨n, i, by rcases o with rfl | rfl <;> decide, by rcases o with rfl | rfl <;> decide⟩
    have lenOf : ∀ {a : Addr} {xs : List V} {H2 : Hp}, Sq H2 a xs → Val (tCB (fun xs H Q => ∃ p ys, xs = [.ref p] ∧ (SqL K H p ys ∨ SqT K H p ys) ∧ Q (.int ys.length) H) (tCons (tVar 0) tNil)) [some (.ref a)] H2 (.int (xs.length : Int)) := fun h => v_len (val_var rfl) h.sq
    have two : ∀ {a : Addr} {x y : V} {H2 : Hp} {j : Nat} {v : V}, Sq H2 a [x, y] → [x, y][j]? = some v → Val (tOp (rIx K) (tVar 0) (tC (.int (j : Int)))) [some (.ref a)] H2 v := fun h e => v_ixS (val_var rfl) val_c h e
    cases hR with
    | int i => exact q_when (b := true) (ans_val (whole (val_var rfl) (.int i))) (fun _ => st_ret val_c (k H (Same.refl H))) (fun z => nomatch z)
    | @odd _ n h o =>
      have ni : n ≠ "int" := by rcases o with rfl | rfl | rfl | rfl <;> decide
      have ns : (decide (n = "tuple") || decide (n = "list")) = false := by rcases o with rfl | rfl | rfl | rfl <;> decide
      refine q_unless (Ans.to (ans_val (whole (val_var rfl) h)) (no ni)) ?_
      refine q_ifOrNot (both h fun H2 s2 => ?_)
      rw [ns]
      exact iteT (iteT (st_ret val_c (k H2 s2)))
    | @len a xs h l =>
      obtain ⟨n, i, ni, ns⟩ := notI h
      refine q_unless (Ans.to (ans_val (whole (val_var rfl) i)) (no ni)) ?_
      refine q_ifOrNot (both i fun H2 s2 => ?_)
      rw [ns]
      refine iteF ?_
      refine (ans_ne (lenOf (h.same s2)) val_c rfl (b := true) (by simp; omega)) _ ?_
      exact iteT (st_ret val_c (k H2 s2))
    | @fst a x y n h hx o =>
      obtain ⟨m, i, ni, ns⟩ := notI h
      refine q_unless (Ans.to (ans_val (whole (val_var rfl) i)) (no ni)) ?_
      refine q_ifOrNot (both i fun H2 s2 => ?_)
      rw [ns]
      refine iteF ?_
      refine (ans_ne (lenOf (h.same s2)) val_c rfl (b := false) (by simp)) _ ?_
      refine iteF ?_
      refine r_ret ?_
      refine (whole (two (j := 0) (h.same s2) rfl) (hx.same s2)) _ ⟨_, rfl, ?_⟩
      rw [no o]
      exact iteF (k H2 s2)
    | @snd a i y n h hx o =>
      obtain ⟨m, j, ni, ns⟩ := notI h
      refine q_unless (Ans.to (ans_val (whole (val_var rfl) j)) (no ni)) ?_
      refine q_ifOrNot (both j fun H2 s2 => ?_)
      rw [ns]
      refine iteF ?_
      refine (ans_ne (lenOf (h.same s2)) val_c rfl (b := false) (by simp)) _ ?_
      refine iteF ?_
      refine r_ret ?_
      refine (whole (two (j := 0) (h.same s2) rfl) (.int i)) _ ⟨_, rfl, ?_⟩
      refine iteT ?_
      refine (whole (two (j := 1) (h.same s2) rfl) (hx.same s2)) _ ⟨_, rfl, ?_⟩
      rw [no o]
      exact iteF (k H2 s2)
    | @pair a i j h =>
      obtain ⟨m, i2, ni, ns⟩ := notI h
      refine q_unless (Ans.to (ans_val (whole (val_var rfl) i2)) (no ni)) ?_
      refine q_ifOrNot (both i2 fun H2 s2 => ?_)
      rw [ns]
      refine iteF ?_
      refine (ans_ne (lenOf (h.same s2)) val_c rfl (b := false) (by simp)) _ ?_
      refine iteF ?_
      refine r_ret ?_
      refine (whole (two (j := 0) (h.same s2) rfl) (.int i)) _ ⟨_, rfl, ?_⟩
      refine iteT ?_
      refine (whole (two (j := 1) (h.same s2) rfl) (.int j)) _ ⟨_, rfl, ?_⟩
      refine iteT ?_
      refine (two (j := 1) (h.same s2) rfl) _ ?_
      exact ⟨_, _, rfl, rfl, k H2 s2⟩

/-! ### the parts of a ratio -/
inductive Rt (H : Hp) : V → Int → Int → Prop
  | int (i : Int) : Rt H (.int i) i 1
  | pair {a : Addr} {i j : Int} (h : Sq H a [.int i, .int j]) (p : 0 < j) : Rt H (.ref a) i j
theorem Rt.same {H H' : Hp} {v : V} {i j : Int} (h : Rt H v i j) (s : Same H H') : Rt H' v i j := by
  cases h with
  | int i => exact .int i
  | pair h p => exact .pair (h.same s) p
theorem Rt.pos {H : Hp} {v : V} {i j : Int} (h : Rt H v i j) : 0 < j := by
  cases h with
  | int i => decide
  | pair h p => exact p
theorem Rt.yes {H : Hp} {v : V} {i j : Int} (h : Rt H v i j) : RatQ H v true := by
  cases h with
  | int i => exact .int i
  | pair h p =>
    have q := RatQ.pair h
    rw [decide_eq_true p] at q
    exact q
/-- BadNumber(what, number) leaves -/
def Bad (mg : Str → Option Value) (H : Hp) (wh v : V) (E : XK) : Prop := ∀ (d : Addr) (H' : Hp), Same H H' → H d = none → H' d = some (.xd [("number", v), ("what", wh)]) → E (.ref (fA mg "BadNumber")) (some d) H'
theorem Bad.from {mg : Str → Option Value} {H H' : Hp} {wh v : V} {E : XK} (b : Bad mg H wh v E) (s : Same H H') : Bad mg H' wh v E := fun d H2 s2 n e => b d H2 (s.trans s2) (s.free n) e
theorem x_made2 {σ : L2.St} {H : Hp} {ta : TA} {C : Addr} {f g : Str} {v u : V} {Q : XK} (h : VA ta σ H [v, u]) (k : ∀ d H', Same H H' → H d = none → H' d = some (.xd [(g, u), (f, v)]) → Q (.ref C) (some d) H') : tMkO C (spI2 C f g) [] ta σ H Q :=
  h _ ⟨by show 2 ≤ 1000; decide, fun a ha => ⟨a, v, u, rfl, upd_same, fun dx hd ne => by
    rw [upd_ne ne] at hd
    refine ⟨rfl, dx, _, by rw [upd_ne (Ne.symm ne), upd_same], upd_same, hd, k dx _ (fun b o e => ?_) hd upd_same⟩
    have hb : b ≠ a := ne_of_none e ha
    have hb2 : b ≠ dx := ne_of_none e hd
    rw [upd_ne hb2, del_ne hb, upd_ne hb2, upd_ne hb, upd_ne hb2, upd_ne hb]
    exact e⟩⟩
def spParts (mg : Str → Option Value) : Sp := fun vs H Q E => ∃ (v wh : V), vs = [v, wh] ∧ ((∃ i j, Rt H v i j ∧ ∀ (p : Addr) (H' : Hp), Same H H' → H' p = some (.tup [.int i, .int j]) → Q (.ref p) H') ∨ (RatQ H v false ∧ Bad mg H wh v E))
theorem ok_parts (T : Txt K mg) : FnOk P w K mg base (L2.CX P w) 5 (fA mg "_parts") (fDat K (fA mg "_parts")) ["value", "what"] (spParts mg) := by
  have Gis_ratio := ok_is_ratio (P := P) (w := w) (base := base) T
  have Gi_BadNumber := init_BadNumber (P := P) (w := w) (base := base) T
  refine T._parts.F.okX sc_parts (fun vs H Q E h => ?_) (fun cdv A outer s H vs Q E hr h => ?_)
  · obtain ⟨v, wh, rfl, _⟩ := h
    rfl
  · obtain ⟨v, wh, rfl, h⟩ := h
    refine ⟨_, (pss_cons (ps_if (pt_not (pt_val (pe_c T.is_ratio Gis_ratio (hr.mono (by decide)) (pa_cons (pv 0) pa_nil)))) (pss_one (ps_raise rfl (takes_of rfl rfl rfl rfl) (pmk_oex T.BadNumber.o T.BadNumber.i T.BadNumber.t Gi_BadNumber (hr.mono (by decide)) T.BadNumber.b .nil pass0 (by rfl) T.BadNumber.g (pa_cons (pv 1) (pa_cons (pv 0) pa_nil))))) pss_nil)
  (pss_cons (ps_if (pt_val (pe_callB call_isi (by rfl) T.isinstance (by decide +kernel) (pa_cons (pv 0) (pa_cons (pe_bltn (v := .ty "int") (by rfl) T.int (by decide +kernel) rfl) pa_nil)))) (pss_one (ps_ret (pe_tup (pa_cons (pv 0) (pa_cons pe_int pa_nil))))) pss_nil)
  (pss_one (ps_ret (pe_tup (pa_cons (pe_ix ix_seq (pv 0) pe_int (fun _ _ => rfl)) (pa_cons (pe_ix ix_seq (pv 0) pe_int (fun _ _ => rfl)) pa_nil))))))), ?_⟩
    have rat : ∀ {b : Bool} {X : Bool → Hp → Prop}, RatQ H v b → (∀ H', Same H H' → X b H') → (tB (tCall spRat [] E0 (tCons (tVar 0) tNil))) [some v, some wh] H X := fun r k =>
      c_call (va_cons (val_var rfl) va_nil) ⟨_, _, rfl, r, fun H' s => ⟨_, rfl, k H' s⟩⟩
    rcases h with ⟨i, j, r, k⟩ | ⟨r, k⟩
    · refine q_ifNot (rat r.yes fun H1 s1 => ?_)
      refine iteF ?_
      have r1 := r.same s1
      cases r1 with
      | int i =>
        obtain ⟨ty, hn⟩ := (Is.int (H := H1) i).ty (K := K)
        refine q_when (b := true) (ans_val (v_isi (val_var rfl) ty (kit_int hn))) (fun _ => ?_) (fun z => nomatch z)
        exact r_ret (te := tTup _) ((va_cons (val_var rfl) (va_cons val_c va_nil)) _ ⟨by show 2 ≤ sizeLine; decide, fun p hp => k p _ (s1.trans (Same.new' hp)) upd_same⟩)
      | @pair a i j h p =>
        obtain ⟨n, is, o⟩ := h.is
        have e : (decide (n = "int") || decide (n = "bool")) = false := by rcases o with rfl | rfl <;> decide
        obtain ⟨ty, hn⟩ := is.ty (K := K)
        have z := v_isi (K := K) (σ := [some (.ref a), some wh]) (te := tVar 0) (val_var rfl) ty (kit_int hn)
        rw [e] at z
        refine q_unless (ans_val z) ?_
        exact r_ret (te := tTup _) ((va_cons (v_ixS (n := 0) (val_var rfl) val_c h rfl) (va_cons (v_ixS (n := 1) (val_var rfl) val_c h rfl) va_nil)) _ ⟨by show 2 ≤ sizeLine; decide, fun p hp => k p _ (s1.trans (Same.new' hp)) upd_same⟩)
    · refine q_ifNot (rat r fun H1 s1 => ?_)
      exact iteT (x_made2 (va_cons (val_var rfl) (va_cons (val_var rfl) va_nil)) fun d H' s n e => k d H' (s1.trans s) (s1.free n) e)

theorem op_fdivS {X : Cx} : OpR X (binaryOp .FloorDiv) (rI (fun _ j => j ≠ 0 ∧ j.natAbs.log2 < 9000) fun i j => .int (i.fdiv j)) := opI fun _ _ _ _ _ _ _ hc q => floordiv_int hc.1 q (.inl (PyProof.noPylong_of_log2 hc.2))
/-! ### lowest terms -/
def gI (i j : Int) : Int := ((Nat.gcd i.natAbs j.natAbs : Nat) : Int)
theorem gI_pos {i j : Int} (h : 0 < j) : 0 < gI i j := by
  have : 0 < Nat.gcd i.natAbs j.natAbs := Nat.gcd_pos_of_pos_right _ (by omega)
  unfold gI
  omega
theorem gI_le {i j : Int} (h : 0 < j) : gI i j ≤ j := by
  have : Nat.gcd i.natAbs j.natAbs ≤ j.natAbs := Nat.le_of_dvd (by omega) (Nat.gcd_dvd_right _ _)
  unfold gI
  omega
def wd : Nat := 4000
def spLow : Sp := fun vs H Q _ => ∃ i j : Int, vs = [.int i, .int j] ∧ 0 < j ∧ j.natAbs < 2 ^ wd ∧ ∀ (p : Addr) (H' : Hp), Same H H' → H' p = some (.tup [.int (i / gI i j), .int (j / gI i j)]) → Q (.ref p) H'
theorem ok_lowest (T : Txt K mg) : FnOk P w K mg base CX0 1 (fA mg "_lowest") (fDat K (fA mg "_lowest")) ["top", "bottom"] spLow := by
  refine T._lowest.F.ok sc_lowest (fun vs H Q E h => ?_) (fun cdv A outer s H vs Q E hr h => ?_)
  · obtain ⟨i, j, rfl, _⟩ := h
    rfl
  · obtain ⟨i, j, rfl, hj, hb, k⟩ := h
    refine ⟨_, (pss_cons (ps_set (i := 2) sc_lowest.nd rfl (Or.inl rfl) (pe_callBfun cr_gcd (by rfl) T.gcd (pa_cons (pv 0) (pa_cons (pv 1) pa_nil))))
  (pss_one (ps_ret (pe_tup (pa_cons (pe_op op_fdivW (pv 0) (pv 2)) (pa_cons (pe_op op_fdivW (pv 1) (pv 2)) pa_nil)))))), ?_⟩
    have hd : CDivW i (gI i j) ∧ CDivW j (gI i j) := by
      have h := wide_div (i := i) (gI_pos (i := i) hj) (b := wd) (wide_le (Int.le_of_lt (gI_pos hj)) (gI_le hj) hb) (by decide) (by decide)
      exact ⟨h, h⟩
    refine q_set (v := .int (gI i j)) (v_cb (va_cons (val_var rfl) (va_cons (val_var rfl) va_nil)) fun Q q => ⟨i, j, rfl, q⟩) ?_
    exact r_ret (te := tTup _) ((va_cons (v_div (val_var rfl) (val_var rfl) hd.1) (va_cons (v_div (val_var rfl) (val_var rfl) hd.2) va_nil)) _ ⟨by show 2 ≤ sizeLine; decide, fun p hp => k p _ (Same.new' hp) upd_same⟩)
/-- a ratio of any terms below 2 ^ 1000, and its parts -/
def Fit (i j : Int) : Prop := i.natAbs < 2 ^ 1000 ∧ j.natAbs < 2 ^ 1000
theorem fit_mul {i j : Int} (h : i.natAbs < 2 ^ 1000) (g : j.natAbs < 2 ^ 1000) : CMulW i j := wide_mul h g (by decide) (by decide) (by decide)
theorem fit_lt {i j : Int} (h : i.natAbs < 2 ^ 1000) (g : j.natAbs < 2 ^ 1000) : (i * j).natAbs < 2 ^ wd := Nat.lt_of_lt_of_le (wide_lt h g) (Nat.pow_le_pow_right (by decide) (by decide))
theorem fit_add {i j : Int} (h : i.natAbs < 2 ^ (1000 + 1000)) (g : j.natAbs < 2 ^ (1000 + 1000)) : (i + j).natAbs < 2 ^ wd := by
  have e : 2 ^ (1000 + 1000) + 2 ^ (1000 + 1000) = 2 ^ (1000 + 1000 + 1) := by rw [Nat.pow_succ (n := 2) (m := 1000 + 1000)]; exact (Nat.mul_two _).symm
  have l : 2 ^ (1000 + 1000 + 1) ≤ 2 ^ wd := Nat.pow_le_pow_right (by decide) (by decide)
  exact Nat.lt_of_lt_of_le (Nat.lt_of_le_of_lt (Int.natAbs_add_le i j) (Nat.add_lt_add h g)) (Nat.le_trans (Nat.le_of_eq e) l)
theorem fit_sub {i j : Int} (h : i.natAbs < 2 ^ (1000 + 1000)) (g : j.natAbs < 2 ^ (1000 + 1000)) : (i - j).natAbs < 2 ^ wd := by
  rw [Int.sub_eq_add_neg]
  exact fit_add h (by rw [Int.natAbs_neg]; exact g)
theorem q_parts {mg : Str → Option Value} {K : PySem.W.Frag} {σ : L2.St} {H : Hp} {E : XK} {ta : TA} {v wh : V} {a b : Int} {i j n : Nat} {tz : TS} {D : Ends} (hn : n = 2) (h : VA ta σ H [v, wh]) (r : Rt H v a b)
    (q : ∀ H', Same H H' → tz D ((σ.set i (some (.int a))).set j (some (.int b))) H') : tSeq (tAsg (tCall (spParts mg) [] E ta) (gTup K n (gCons (gName i) (gCons (gName j) gNil)))) tz D σ H := by
  subst hn
  exact (show tAsg _ _ _ _ _ from c_call h ⟨v, wh, rfl, .inl ⟨a, b, r, fun p H' s e => g_two (SqT.of e) (q H' s)⟩⟩)
theorem q_partsX {mg : Str → Option Value} {σ : L2.St} {H : Hp} {E : XK} {ta : TA} {v wh : V} {g : TG} {tz : TS} {D : Ends} (h : VA ta σ H [v, wh]) (r : RatQ H v false) (b : Bad mg H wh v E) :
    tSeq (tAsg (tCall (spParts mg) [] E ta) g) tz D σ H := (show tAsg _ _ _ _ _ from c_call h ⟨v, wh, rfl, .inr ⟨r, b⟩⟩)

def sp_told (mg : Str → Option Value) : Sp := fun vs H Q E => ∃ (v wh : V), vs = [v, wh] ∧ ((∃ i j, Rt H v i j ∧ Fit i j ∧ ∀ (p : Addr) (H' : Hp), Same H H' → H' p = some (.tup [.int ((i) / gI (i) (j)), .int ((j) / gI (i) (j))]) → Q (.ref p) H') ∨ (RatQ H v false ∧ Bad mg H wh v E))
theorem ok_told (T : Txt K mg) : FnOk P w K mg base (L2.CX P w) 6 (fA mg "told") (fDat K (fA mg "told")) ["value", "what"] (sp_told mg) := by
  have G_parts := ok_parts (P := P) (w := w) (base := base) T
  have G_lowest := ok_lowest (P := P) (w := w) (base := base) T
  refine T.told.F.okX sctold (fun vs H Q E h => ?_) (fun cdv A outer s H vs Q E hr h => ?_)
  · obtain ⟨v, u, rfl, _⟩ := h
    rfl
  · obtain ⟨v, u, rfl, h⟩ := h
    refine ⟨_, (pss_cons (ps_asg (pe_call G_parts (hr.mono (by decide)) (by rfl) T._parts.g T._parts.F.kp T._parts.b .nil (passes_call (takes_of rfl rfl rfl rfl) (fun _ _ _ _ h => h)) (pa_cons (pv 0) (pa_cons (pv 1) pa_nil))) (pg_tup rfl (pgs_cons (pg_name (i := 2) sctold.nd rfl (Or.inl rfl)) (pgs_cons (pg_name (i := 3) sctold.nd rfl (Or.inl rfl)) pgs_nil))))
  (pss_one (ps_ret (pe_c T._lowest G_lowest (hr.mono (by decide)) (pa_cons (pv 2) (pa_cons (pv 3) pa_nil)))))), ?_⟩
    rcases h with ⟨i, j, r, ⟨fi, fj⟩, q⟩ | ⟨r, b⟩
    · refine q_parts rfl (va_cons (val_var rfl) (va_cons (val_var rfl) va_nil)) r fun H1 s1 => ?_
      exact r_ret (te := tCall _ _ _ _) (c_call (va_cons (val_var rfl) (va_cons (val_var rfl) va_nil)) ⟨_, _, rfl, r.pos, Nat.lt_of_lt_of_le fj (Nat.pow_le_pow_right (by decide) (by decide)), fun p H' s e => q p H' (s1.trans s) e⟩)
    · exact q_partsX (va_cons (val_var rfl) (va_cons (val_var rfl) va_nil)) r b
theorem q_told {mg : Str → Option Value} {K : PySem.W.Frag} {σ : L2.St} {H : Hp} {E : XK} {ta : TA} {v wh : V} {a b : Int} {i j n : Nat} {tz : TS} {D : Ends} (hn : n = 2) (h : VA ta σ H [v, wh]) (r : Rt H v a b) (f : Fit a b)
    (q : ∀ H', Same H H' → tz D ((σ.set i (some (.int (a / gI a b)))).set j (some (.int (b / gI a b)))) H') : tSeq (tAsg (tCall (sp_told mg) [] E ta) (gTup K n (gCons (gName i) (gCons (gName j) gNil)))) tz D σ H := by
  subst hn
  exact (show tAsg _ _ _ _ _ from c_call h ⟨v, wh, rfl, .inl ⟨a, b, r, f, fun p H' s e => g_two (SqT.of e) (q H' s)⟩⟩)
theorem q_toldX {mg : Str → Option Value} {σ : L2.St} {H : Hp} {E : XK} {ta : TA} {v wh : V} {g : TG} {tz : TS} {D : Ends} (h : VA ta σ H [v, wh]) (r : RatQ H v false) (b : Bad mg H wh v E) :
    tSeq (tAsg (tCall (sp_told mg) [] E ta) g) tz D σ H := (show tAsg _ _ _ _ _ from c_call h ⟨v, wh, rfl, .inr ⟨r, b⟩⟩)

theorem q_while0 {t : TT} {tb tz : TS} {D : Ends} {σ : L2.St} {H : Hp} (h : Ans t σ H false) (q : tz D σ H) : tSeq (tWhile t tb) tz D σ H :=
  ⟨fun _ σ' H' => σ' = σ ∧ H' = H, ⟨0, rfl, rfl⟩, fun m σ' H' ⟨e1, e2⟩ => by
    subst e1 e2
    exact h _ (iteF q)⟩
theorem q_app0 {to te : TE} {tz : TS} {D : Ends} {σ : L2.St} {H : Hp} {l : Addr} {xs : List V} (h : Val to σ H (.ref l)) (hl : H l = some (.lst xs)) (he : te σ H fun v H1 => rAppend (.ref l) [v] H1 fun _ H2 => tz D σ H2) :
    tSeq (tDrop (tBM K "list" rAppend to (tCons te tNil))) tz D σ H := s_appC (D := { D with nx := tz D }) h hl he
theorem op_l {r : R2} {ta tb : TE} {σ : L2.St} {H : Hp} {Q : VK} {x : V} (h : Val ta σ H x) (k : tb σ H fun y H1 => r x y H1 Q) : tOp r ta tb σ H Q := h _ k
theorem v_tif {t : TT} {x y z : V} {σ : L2.St} {H : Hp} {b : Bool} (h : Ans t σ H b) (e : (if b = true then x else y) = z) : Val (tIf t (tC x) (tC y)) σ H z := fun Q q => h _ (by
  subst e
  cases b <;> exact q)
theorem ok_pen {f : Addr} {fd : FuncData} (F : Fun K "_law_pen" "_law_pen" s_law_pen f fd) (T : Txt K mg) : FnOk P w K mg base CX0 1 f fd ["_law_script"] (spPen K) := by
  refine F.ok sc_law_pen (fun vs H Q E h => ?_) (fun cdv A outer s H vs Q E hr h => ?_)
  · obtain ⟨a, ns, rfl, _⟩ := h
    rfl
  · obtain ⟨a, ns, rfl, hS, hl, k⟩ := h
    refine ⟨_, pss_cons (ps_set (i := 1) sc_law_pen.nd rfl (Or.inl rfl) pe_int)
      (pss_cons (ps_for PassesOwn.never rfl (pi_list (pv 0)) (pg_name (i := 2) sc_law_pen.nd rfl (Or.inl rfl))
        (pss_one (ps_set (i := 1) sc_law_pen.nd rfl (Or.inl rfl) (pe_op op_mod (pe_callTy call_int1 (by rfl) T.int (by decide +kernel) (pa_cons (pe_op op_add (pe_op op_mul (pv 1) pe_int) (pv 2)) pa_nil)) pe_int))))
      (pss_one (ps_ret (pe_disp (pps_cons pe_str (pe_callTy call_list_of (by rfl) T.list (by decide +kernel) (pa_cons (pv 0) pa_nil)) (pps_cons pe_str pe_int (pps_cons pe_str pe_int (pps_cons pe_str pe_int (pps_cons pe_str (pv 1) pps_nil))))) (by rfl) (by rfl) (fun z => by cases z) (by decide))))), ?_⟩
    refine ⟨_, rfl, a, rfl, ⟨_, hS⟩, for_list (K := K) (a := a) (xs := ns.map V.int) (fun i σ H' => ∃ (v : Int) (c : Option V), σ = [some (.ref a), some (.int v), c] ∧ H' = H ∧ 0 ≤ v ∧ v < 1000000007)
      ⟨0, none, rfl, rfl, by decide, by decide⟩ (fun i σ H' _ ⟨_, _, _, e, _⟩ => e ▸ hS) ?_ ?_⟩
    · rintro i y σ H' hi ⟨v, c, rfl, rfl, h0, h1⟩
      obtain ⟨z, rfl⟩ : ∃ z, y = V.int z := by
        rw [List.getElem?_map] at hi
        cases e : ns[i]? with
        | none => rw [e] at hi; cases hi
        | some z => rw [e] at hi; exact ⟨z, (Option.some.inj hi).symm⟩
      refine ⟨_, rfl, _, _, rfl, rfl, .inl ⟨by omega, by omega⟩, _, rfl, _, _, rfl, rfl, .inl ⟨_, rfl, ?_⟩⟩
      refine ⟨_, _, rfl, rfl, (by show (0 : Int) < 1000000007; decide), ?_⟩
      exact ⟨_, _, rfl, rfl, Int.emod_nonneg _ (by decide), Int.emod_lt_of_pos _ (by decide)⟩
    · rintro σ H' ⟨v, c, rfl, rfl, h0, h1⟩
      intro p hp
      refine ⟨_, rfl, a, _, rfl, .inl (Same.seq (Same.new hp) hS), fun l hl' => ?_⟩
      refine ⟨_, rfl, ?_⟩
      have npl : p ≠ l := ne_of_none upd_same hl'
      refine ⟨by rw [upd_ne npl, upd_same], penK l 0 0 0 v, rfl, (by show 5 ≤ 15; decide), ?_⟩
      rw [merge_pen]
      have hl0 : H' l = none := (Same.new hp).free hl'
      refine k p l _ (fun b o e => ?_) ⟨0, 0, 0, v, ns, upd_same, ?_, by decide, by omega, by decide, by decide, by decide, h0, by omega⟩
      · rw [upd_ne (ne_of_none e hp), upd_ne (ne_of_none e hl0), upd_ne (ne_of_none e hp)]
        exact e
      · rw [upd_ne npl.symm, upd_same]
theorem ok_draw {f : Addr} {fd : FuncData} (F : Fun K "_law_draw" "_law_draw" s_law_draw f fd) (T : Txt K mg) : FnOk P w K mg base CX0 1 f fd ["_law_pen_here", "_law_many"] spDraw := by
  refine F.ok sc_law_draw (fun vs H Q E h => ?_) (fun cdv A outer s H vs Q E hr h => ?_)
  · obtain ⟨p, c, many, m, rfl, _⟩ := h
    rfl
  · obtain ⟨p, c, many, m, rfl, hP, hm, h0, h1, k⟩ := h
    have hu := hu_of hr
    refine ⟨_, pss_cons (ps_dput hu (pv 0) pe_str (pe_op op_add (pe_dget hu (pv 0) pe_str (fun _ _ => rfl)) pe_int) rfl)
      (C8.pss_cut (ps_if (PW.pt (pw_and (pt_cmpR op_eq (pe_dget hu (pv 0) pe_str (fun _ _ => rfl)) pe_int (nomark _))
          (pw_and1 (pt_cmpR op_lt (pe_dget hu (pv 0) pe_str (fun _ _ => rfl)) (pe_callB call_len_seq (by rfl) T.len PySem.boot_len (pa_cons (pe_dget hu (pv 0) pe_str (fun _ _ => rfl)) pa_nil)) (nomark _)))))
        (pss_cons (ps_set (i := 2) sc_law_draw.nd rfl (Or.inl rfl) (pe_ix ix_list (pe_dget hu (pv 0) pe_str (fun _ _ => rfl)) (pe_dget hu (pv 0) pe_str (fun _ _ => rfl)) (fun _ _ => rfl)))
        (pss_cons (ps_dput hu (pv 0) pe_str (pe_op op_add (pe_dget hu (pv 0) pe_str (fun _ _ => rfl)) pe_int) rfl)
        (pss_one (ps_if (pt_cmpR op_ge (pv 2) (pe_op op_pow pe_int pe_int) (nomark _))
          (pss_one (ps_dput hu (pv 0) pe_str (pe_op op_sub (pv 2) (pe_op op_pow pe_int pe_int)) rfl))
          (pss_one (ps_dput hu (pv 0) pe_str (pe_op op_mod (pe_callTy call_int1 (by rfl) T.int (by decide +kernel) (pa_cons (pe_op op_add (pe_op op_mul (pe_dget hu (pv 0) pe_str (fun _ _ => rfl)) pe_int) (pv 2)) pa_nil)) pe_int) rfl))))))
        pss_nil)
      (pss_cons (ps_if (pt_cmpR op_gt (pe_dget hu (pv 0) pe_str (fun _ _ => rfl)) pe_int (nomark _))
        (pss_cons (ps_set (i := 3) sc_law_draw.nd rfl (Or.inl rfl) (pe_op op_modN (pe_callTy call_int1 (by rfl) T.int (by decide +kernel) (pa_cons (pe_dget hu (pv 0) pe_str (fun _ _ => rfl)) pa_nil)) (pv 1)))
        (pss_cons (ps_dput hu (pv 0) pe_str (pe_op op_fdivN (pe_dget hu (pv 0) pe_str (fun _ _ => rfl)) (pv 1)) rfl)
        (pss_one (ps_ret (pv 3)))))
        pss_nil)
      (pss_cons (ps_set (i := 4) sc_law_draw.nd rfl (Or.inl rfl) (pe_op op_add (pe_op op_add (pe_dget hu (pv 0) pe_str (fun _ _ => rfl)) (pe_op op_mul (pe_dget hu (pv 0) pe_str (fun _ _ => rfl)) pe_int)) pe_int))
      (pss_one (ps_ret (pe_op op_modN (pe_op op_fdiv (pe_callTy call_int1 (by rfl) T.int (by decide +kernel) (pa_cons (pe_op op_mod (pe_op op_pow (pv 4) pe_int) pe_int) pa_nil)) pe_int) (pv 1))))))), ?_⟩
    obtain ⟨a, d, n, fo, ns, hp, hc, b1, b2, b3, b4, b5, b6, b7⟩ := hP
    have npc : c ≠ p := ne_of hc hp (by intro z; cases z)
    have get : ∀ {z1 z2 z3 : Option V} {H1 : Hp} {c : Addr} {a d n f : Int} {k : Key} {v : V}, H1 p = some (.dK (penK c a d n f)) → valV (penK c a d n f) k = some v →
      Val (tDGet (tVar 0) (tC (kV k))) [some (.ref p), some (.int many), z1, z2, z3] H1 v := fun h1 h2 => v_get (val_var rfl) h1 h2
    have pn : ∀ {H1 : Hp} {o : HO}, H1 c = some (.lst (ns.map V.int)) → upd H1 p o c = some (.lst (ns.map V.int)) := fun e => by rw [upd_ne npc]; exact e
    have bu : ∀ {H1 : Hp} {o : HO}, But p H H1 → But p H (upd H1 p o) := fun e b o h ne => by rw [upd_ne ne]; exact e b o h ne
    -- count
    refine s_put (k := kCo) (val_var rfl) (v_I0 (get (k := kCo) hp pen_count) val_c) hp (by show 5 ≤ 100; decide) ?_
    rw [put_count]
    have hp1 : upd H p (HO.dK (penK c a d (n + 1) fo)) p = some (.dK (penK c a d (n + 1) fo)) := upd_same
    have hc1 : upd H p (HO.dK (penK c a d (n + 1) fo)) c = some (.lst (ns.map V.int)) := pn hc
    have bt : But p H (upd H p (HO.dK (penK c a d (n + 1) fo))) := bu But.refl
    generalize upd H p (HO.dK (penK c a d (n + 1) fo)) = H1 at hp1 hc1 bt
    refine ⟨fun σ' H' => ∃ (a' d' f' : Int) (z : Option V), σ' = [some (.ref p), some (.int many), z, none, none] ∧ But p H H' ∧ H' p = some (.dK (penK c a' d' (n + 1) f')) ∧ H' c = some (.lst (ns.map V.int)) ∧
      0 ≤ a' ∧ a' ≤ ns.length ∧ 0 ≤ d' ∧ 0 ≤ f' ∧ f' < 2147483587, ?_, ?_⟩
    · -- a cell is taken
      refine st_if (b := decide (d = 0) && decide (a < ns.length)) (ans_and2 ((ans_eq (get (k := kDi) hp1 pen_digits) val_c rfl rfl).to (by simp)) ((a_I (get (k := kAt) hp1 pen_at) (v_len (get (k := kCe) hp1 pen_cells) (.inl (SqL.of hc1)))).to (by simp))) (fun e => ?_) (fun e => ?_)
      · have e1 : d = 0 ∧ a < ns.length := by simpa using e
        obtain ⟨i, rfl⟩ : ∃ i : Nat, a = i := ⟨a.toNat, by omega⟩
        have hi : i < ns.length := by omega
        refine st_set (v := .int ns[i]) (v_ixL (get (k := kCe) hp1 pen_cells) (get (k := kAt) hp1 pen_at) (SqL.of hc1) (by simp [hi])) ?_
        refine s_put (k := kAt) (val_var rfl) (v_I0 (get (k := kAt) hp1 pen_at) val_c) hp1 (by show 5 ≤ 100; decide) ?_
        rw [put_at]
        refine st_if (b := decide (ns[i] ≥ 10 ^ 18)) ((a_I (val_var rfl) (v_pow val_c val_c ⟨by decide, by decide, by decide⟩)).to ?_) (fun e2 => ?_) (fun e2 => ?_)
        · simp
        · refine s_put (k := kDi) (val_var rfl) (v_I0 (val_var rfl) (v_pow val_c val_c ⟨by decide, by decide, by decide⟩)) upd_same (by show 5 ≤ 100; decide) ?_
          rw [put_digits]
          exact ⟨_, _, _, _, rfl, bu (bu bt), upd_same, pn (pn hc1), by omega, by omega, by simp at e2; simp; omega, b6, b7⟩
        · refine s_put (k := kFo) (val_var rfl) (v_I (v_int1 (v_I0 (v_I (get (k := kFo) upd_same pen_fold) val_c (.inl ⟨by omega, by omega⟩)) (val_var rfl))) val_c (by decide)) upd_same (by show 5 ≤ 100; decide) ?_
          rw [put_fold]
          exact ⟨_, _, _, _, rfl, bu (bu bt), upd_same, pn (pn hc1), by omega, by omega, b3, Int.emod_nonneg _ (by decide), Int.emod_lt_of_pos _ (by decide)⟩
      · exact ⟨a, d, fo, none, rfl, bt, hp1, hc1, b1, b2, b3, b6, b7⟩
    · rintro σ' H' ⟨a', d', f', z, rfl, bt', hp', hc', g1, g2, g3, g4, g5⟩
      refine st_if (b := decide (0 < d')) ((a_I (get (k := kDi) hp' pen_digits) val_c).to (by simp)) (fun e => ?_) (fun e => ?_)
      · have e1 : 0 < d' := by simpa using e
        refine st_set (v_I (v_int1 (get (k := kDi) hp' pen_digits)) (val_var rfl) (by omega)) ?_
        refine s_put (k := kDi) (val_var rfl) (v_I (get (k := kDi) hp' pen_digits) (val_var rfl) ⟨by omega, by omega⟩) hp' (by show 5 ≤ 100; decide) ?_
        rw [put_digits]
        refine st_ret (val_var rfl) ?_
        refine k _ _ (Int.fmod_nonneg_of_pos _ h0) (Int.fmod_lt_of_pos _ h0) (bu bt') ⟨_, _, _, _, _, upd_same, pn hc', g1, g2, Int.fdiv_nonneg (by omega) (by omega), by omega, by omega, g4, g5⟩
      · refine st_set (v_add (v_add (get (k := kFo) hp' pen_fold) (v_mul (get (k := kCo) hp' pen_count) val_c (.inl ⟨by omega, by unfold most at hm; omega⟩))) val_c) ?_
        refine st_ret (v_fmod (v_div (v_int1 (v_mod (v_pow (val_var rfl) val_c ⟨by decide, by decide, by unfold most at hm; omega⟩) val_c (by decide))) val_c ⟨by decide, by decide⟩) (val_var rfl) (by omega)) ?_
        exact k _ _ (Int.fmod_nonneg_of_pos _ h0) (Int.fmod_lt_of_pos _ h0) bt' ⟨_, _, _, _, _, hp', hc', g1, g2, g3, by omega, by omega, g4, g5⟩
theorem But.seq {K : PySem.W.Frag} {H H' : Hp} {p q : Addr} {kvs : List (Key × V)} {xs : List V} (b : But p H H') (hp : H p = some (.dK kvs)) (h : SqL K H q xs) : SqL K H' q xs := by
  rcases h with (h | ⟨o, h⟩) | h
  · exact .inl (.inl (b _ _ h (ne_of h hp (by intro z; cases z))))
  · exact .inl (.inr ⟨o, b _ _ h (ne_of h hp (by intro z; cases z))⟩)
  · exact .inr h
theorem PenAt.dk {H : Hp} {p c : Addr} {m : Nat} (h : PenAt H p c m) : ∃ kvs, H p = some (.dK kvs) := by
  obtain ⟨a, d, n, f, ns, h1, _⟩ := h
  exact ⟨_, h1⟩
/-- one item of a list is drawn -/
def spPick (K : PySem.W.Frag) : Sp := fun vs H Q _ => ∃ (p c q : Addr) (xs : List V) (m : Nat), vs = [.ref p, .ref q] ∧ PenAt H p c m ∧ m < most ∧ SqL K H q xs ∧ 0 < xs.length ∧ xs.length < 1000000000 ∧
  ∀ (v : V) (H' : Hp), v ∈ xs → But p H H' → PenAt H' p c (m + 1) → Q v H'
theorem ok_pick (T : Txt K mg) : FnOk P w K mg base CX0 3 (fA mg "_law_pick") (fDat K (fA mg "_law_pick")) ["_law_pen_here", "_law_some"] (spPick K) := by
  have G_law_draw := ok_draw (P := P) (w := w) (base := base) T._law_draw.F T
  refine T._law_pick.F.ok sc_law_pick (fun vs H Q E h => ?_) (fun cdv A outer s H vs Q E hr h => ?_)
  · obtain ⟨p, c, q, xs, m, rfl, _⟩ := h
    rfl
  · obtain ⟨p, c, q, xs, m, rfl, hP, hm, hS, h0, h1, k⟩ := h
    refine ⟨_, (pss_one (ps_ret (pe_ix ix_list (pv 1) (pe_c T._law_draw G_law_draw (hr.mono (by decide)) (pa_cons (pv 0) (pa_cons (pe_callB call_len_seq (by rfl) T.len PySem.boot_len (pa_cons (pv 1) pa_nil)) pa_nil))) (fun _ _ => rfl)))), ?_⟩
    refine ⟨_, rfl, c_call (va_cons (val_var rfl) (va_cons (v_len (val_var rfl) (.inl hS)) va_nil)) ⟨p, c, _, m, rfl, hP, hm, by omega, by omega, fun r H' r0 r1 b P' => ?_⟩⟩
    obtain ⟨kvs, hd⟩ := hP.dk
    obtain ⟨i, rfl⟩ : ∃ i : Nat, r = i := ⟨r.toNat, by omega⟩
    have hi : i < xs.length := by omega
    exact ⟨q, xs, i, xs[i], rfl, rfl, b.seq hd hS, atI_nat (List.getElem?_eq_getElem hi), k _ _ (List.getElem_mem hi) b P'⟩

/-! ### the law's own ratios -/
theorem half {a b : Nat} (h : b < a) (h0 : 0 < b) : b * (a % b) * 2 ≤ a * b := by
  have h1 := Nat.mod_lt a h0
  have h2 := Nat.mod_add_div a b
  have h3 : 1 ≤ a / b := Nat.div_pos (Nat.le_of_lt h) h0
  have h4 : b ≤ b * (a / b) := Nat.le_mul_of_pos_right _ h3
  have h5 : a % b * 2 ≤ a := by omega
  rw [Nat.mul_assoc, Nat.mul_comm a b]
  exact Nat.mul_le_mul_left _ h5
theorem v_abs {te : TE} {σ : L2.St} {H : Hp} {x : Int} (h : Val te σ H (.int x)) : Val (tCB (fun xs H Q => ∃ i, xs = [.int i] ∧ Q (.int (if i < 0 then -i else i)) H) (tCons te tNil)) σ H (.int (x.natAbs : Int)) := fun Q q => h _ ⟨x, rfl, by
  have e : (if x < 0 then -x else x) = (x.natAbs : Int) := by split <;> omega
  rw [e]
  exact q⟩
def spLGcd : Sp := fun vs H Q _ => ∃ x y : Int, vs = [.int x, .int y] ∧ x.natAbs < 2 ^ wd ∧ y.natAbs < 2 ^ wd ∧ Q (.int (gI x y)) H
theorem ok_law_gcd (T : Txt K mg) : FnOk P w K mg base CX0 1 (fA mg "_law_gcd") (fDat K (fA mg "_law_gcd")) ["_law_one", "_law_two"] spLGcd := by
  refine T._law_gcd.F.ok sc_law_gcd (fun vs H Q E h => ?_) (fun cdv A outer s H vs Q E hr h => ?_)
  · obtain ⟨x, y, rfl, _⟩ := h
    rfl
  · obtain ⟨x, y, rfl, hx, hy, k⟩ := h
    refine ⟨_, (pss_cons (ps_par (i := 0) (j := 1) (by rfl) sc_law_gcd.nd rfl rfl (by decide) rfl rfl (pa_cons (pe_callB call_abs (by rfl) T.abs (by decide +kernel) (pa_cons (pv 0) pa_nil)) (pa_cons (pe_callB call_abs (by rfl) T.abs (by decide +kernel) (pa_cons (pv 1) pa_nil)) pa_nil)) (by rfl))
  (pss_cons (ps_for PassesOwn.never rfl (pi_range1 (by rfl) T.range (pa_cons pe_int pa_nil)) (pg_name (i := 2) sc_law_gcd.nd rfl (Or.inl rfl))
  (pss_cons (ps_if (pt_cmpR op_eq (pv 1) pe_int (nomark _)) (pss_one ps_break) pss_nil)
  (pss_one (ps_par (i := 0) (j := 1) (by rfl) sc_law_gcd.nd rfl rfl (by decide) rfl rfl (pa_cons (pv 1) (pa_cons (pe_op op_modN (pe_callTy call_int1 (by rfl) T.int (by decide +kernel) (pa_cons (pv 0) pa_nil)) (pv 1)) pa_nil)) (by rfl)))))
  (pss_one (ps_ret (pv 0))))), ?_⟩
    have hM : x.natAbs * y.natAbs < 2 ^ (wd + wd) := by
      rw [Nat.pow_add]
      exact Nat.mul_lt_mul'' hx hy
    refine (show tPar 0 1 _ _ _ _ from ?_)
    refine (va_cons (v_abs (val_var rfl)) (va_cons (v_abs (val_var rfl)) va_nil)) _ ⟨_, _, rfl, ?_⟩
    refine q_forR1 (n := 50000) (va_cons val_c va_nil) (by decide) (fun i σ H' => ∃ (a b : Nat) (z : Option V), σ = [some (.int a), some (.int b), z] ∧ H' = H ∧ Nat.gcd a b = Nat.gcd x.natAbs y.natAbs ∧ (i = 0 ∨ b < a) ∧ a * b * 2 ^ (i - 1) ≤ x.natAbs * y.natAbs)
      ⟨x.natAbs, y.natAbs, none, rfl, rfl, rfl, .inl rfl, by simp⟩ ?_ ?_
    · rintro i σ H' hi ⟨a, b, z, rfl, rfl, hg, hb, hm⟩
      refine (show tSeq (tIfS _ _ _) _ _ _ _ from ?_)
      by_cases b0 : b = 0
      · subst b0
        refine q_when (b := true) (ans_eq (x := .int ((0 : Nat) : Int)) (y := .int 0) (val_var rfl) val_c rfl rfl) (fun _ => ?_) (fun z => nomatch z)
        unfold tBreak
        refine st_ret (val_var rfl) ?_
        have e : gI x y = (a : Int) := by
          unfold gI
          rw [← hg, Nat.gcd_zero_right]
        rw [← e]
        exact k
      · refine q_unless (ans_eq (x := .int (b : Int)) (y := .int 0) (val_var rfl) val_c rfl (decide_eq_false (by simp [b0]))) ?_
        have e : ((a : Int).fmod (b : Int)) = ((a % b : Nat) : Int) := by
          rw [Int.fmod_eq_emod_of_nonneg _ (by omega)]
          exact (Int.natCast_emod a b).symm
        refine (show tPar 0 1 _ _ _ _ from ?_)
        refine (va_cons (val_var rfl) (va_cons (v_fmod (i := (a : Int)) (j := (b : Int)) (v_int1 (val_var rfl)) (val_var rfl) (by omega)) va_nil)) _ ⟨_, _, rfl, ?_⟩
        rw [e]
        refine ⟨b, a % b, _, rfl, rfl, ?_, .inr (Nat.mod_lt _ (by omega)), ?_⟩
        · rw [← hg, Nat.gcd_comm b, ← Nat.gcd_rec, Nat.gcd_comm]
        · rcases hb with rfl | hb
          · refine Nat.le_trans ?_ hm
            simp only [Nat.zero_add, Nat.sub_self, Nat.zero_sub, Nat.pow_zero, Nat.mul_one]
            rw [Nat.mul_comm a b]
            exact Nat.mul_le_mul_left _ (Nat.mod_le _ _)
          · cases i with
            | zero => 
              refine Nat.le_trans ?_ hm
              simp only [Nat.zero_add, Nat.sub_self, Nat.zero_sub, Nat.pow_zero, Nat.mul_one]
              rw [Nat.mul_comm a b]
              exact Nat.mul_le_mul_left _ (Nat.mod_le _ _)
            | succ i =>
              refine Nat.le_trans ?_ hm
              have h := Nat.mul_le_mul_right (2 ^ i) (half hb (by omega))
              simp only [Nat.add_sub_cancel]
              rw [Nat.pow_succ, Nat.mul_comm (2 ^ i) 2, ← Nat.mul_assoc]
              exact h
    · rintro σ H' ⟨a, b, z, rfl, rfl, hg, hb, hm⟩
      have b0 : b = 0 := by
        rcases Nat.eq_zero_or_pos b with h | h
        · exact h
        · exfalso
          have ha : b < a := hb.resolve_left (by decide)
          have h1 : 1 ≤ a * b := Nat.mul_pos (by omega) h
          have h2 : 2 ^ (50000 - 1) ≤ a * b * 2 ^ (50000 - 1) := Nat.le_mul_of_pos_left _ h1
          have h3 : 2 ^ (wd + wd) ≤ 2 ^ (50000 - 1) := Nat.pow_le_pow_right (by decide) (by decide)
          exact Nat.lt_irrefl _ (Nat.lt_of_le_of_lt (Nat.le_trans h3 (Nat.le_trans h2 hm)) hM)
      subst b0
      refine st_ret (val_var rfl) ?_
      have e : gI x y = (a : Int) := by
        unfold gI
        rw [← hg, Nat.gcd_zero_right]
      rw [← e]
      exact k
def spLQ : Sp := fun vs H Q _ => ∃ x y : Int, vs = [.int x, .int y] ∧ x.natAbs < 2 ^ wd ∧ y.natAbs < 2 ^ wd ∧ ((0 < y ∧ ∀ (p : Addr) (H' : Hp), Same H H' → H' p = some (.tup [.int (x / gI x y), .int (y / gI x y)]) → Q (.ref p) H') ∨
  (y < 0 ∧ ∀ (p : Addr) (H' : Hp), Same H H' → H' p = some (.tup [.int ((-x) / gI x y), .int ((-y) / gI x y)]) → Q (.ref p) H'))
theorem ok_law_q (T : Txt K mg) : FnOk P w K mg base CX0 2 (fA mg "_law_q") (fDat K (fA mg "_law_q")) ["_law_top", "_law_bottom"] spLQ := by
  have G_law_gcd := ok_law_gcd (P := P) (w := w) (base := base) T
  refine T._law_q.F.ok sc_law_q (fun vs H Q E h => ?_) (fun cdv A outer s H vs Q E hr h => ?_)
  · obtain ⟨x, y, rfl, _⟩ := h
    rfl
  · obtain ⟨x, y, rfl, hx, hy, k⟩ := h
    refine ⟨_, (pss_cons (ps_set (i := 2) sc_law_q.nd rfl (Or.inl rfl) (pe_c T._law_gcd G_law_gcd (hr.mono (by decide)) (pa_cons (pv 0) (pa_cons (pv 1) pa_nil))))
  (pss_cons (ps_set (i := 2) sc_law_q.nd rfl (Or.inl rfl) (pe_ifExp (pt_cmpR op_lt (pv 1) pe_int (nomark _)) (pe_un un_neg (pv 2)) (pv 2)))
  (pss_one (ps_ret (pe_tup (pa_cons (pe_op op_fdivS (pv 0) (pv 2)) (pa_cons (pe_op op_fdivS (pv 1) (pv 2)) pa_nil))))))), ?_⟩
    refine q_asg (c_call (va_cons (val_var rfl) (va_cons (val_var rfl) va_nil)) ⟨x, y, rfl, hx, hy, ?_⟩)
    have big : ∀ {d : Int}, d = gI x y ∨ d = -gI x y → 0 < gI x y → y ≠ 0 → d ≠ 0 ∧ d.natAbs.log2 < 9000 := fun {d} h g y0 => by
      have l : gI x y ≤ y.natAbs := by
        have : Nat.gcd x.natAbs y.natAbs ≤ y.natAbs := Nat.le_of_dvd (by omega) (Nat.gcd_dvd_right _ _)
        unfold gI
        omega
      have n : d.natAbs ≤ y.natAbs := by omega
      exact ⟨by omega, Nat.lt_of_lt_of_le (PySem.Flt.log2_lt_of (k := wd) (by decide) (Nat.lt_of_le_of_lt n hy)) (by decide)⟩
    rcases k with ⟨y0, k⟩ | ⟨y0, k⟩
    · have g := gI_pos (i := x) y0
      refine q_asg ((a_I (i := y) (j := 0) (val_var rfl) val_c) _ ?_)
      rw [decide_eq_false (by omega : ¬ y < 0)]
      refine iteF ?_
      refine (val_var rfl) _ ?_
      refine r_ret (te := tTup _) ((va_cons (v_fdiv (i := x) (j := gI x y) (val_var rfl) (val_var rfl) (big (.inl rfl) g (by omega))) (va_cons (v_fdiv (i := y) (j := gI x y) (val_var rfl) (val_var rfl) (big (.inl rfl) g (by omega))) va_nil)) _ ⟨by show 2 ≤ sizeLine; decide, fun p hp => k p _ (Same.new' hp) ?_⟩)
      rw [Int.fdiv_eq_ediv_of_nonneg _ (by omega), Int.fdiv_eq_ediv_of_nonneg _ (by omega)]
      exact upd_same
    · have g : 0 < gI x y := by
        have : 0 < Nat.gcd x.natAbs y.natAbs := Nat.gcd_pos_of_pos_right _ (by omega)
        unfold gI
        omega
      have ng : ∀ x d : Int, 0 < d → x.fdiv (-d) = (-x) / d := fun x d h => by
        have e := Int.neg_fdiv_neg (-x) d
        rw [Int.neg_neg] at e
        rw [e, Int.fdiv_eq_ediv_of_nonneg _ (by omega)]
      refine q_asg ((a_I (i := y) (j := 0) (val_var rfl) val_c) _ ?_)
      rw [decide_eq_true (by omega : y < 0)]
      refine iteT ?_
      refine (v_neg (n := gI x y) (val_var rfl)) _ ?_
      refine r_ret (te := tTup _) ((va_cons (v_fdiv (i := x) (j := -gI x y) (val_var rfl) (val_var rfl) (big (.inr rfl) g (by omega))) (va_cons (v_fdiv (i := y) (j := -gI x y) (val_var rfl) (val_var rfl) (big (.inr rfl) g (by omega))) va_nil)) _ ⟨by show 2 ≤ sizeLine; decide, fun p hp => k p _ (Same.new' hp) ?_⟩)
      rw [ng _ _ g, ng _ _ g]
      exact upd_same

def sp_law_plus : Sp := fun vs H Q _ => ∃ (p q : Addr) (i j k l : Int), vs = [.ref p, .ref q] ∧ H p = some (.tup [.int i, .int j]) ∧ H q = some (.tup [.int k, .int l]) ∧ Fit i j ∧ Fit k l ∧ 0 < j ∧ 0 < l ∧ ∀ (p : Addr) (H' : Hp), Same H H' → H' p = some (.tup [.int ((i * l + k * j) / gI (i * l + k * j) (j * l)), .int ((j * l) / gI (i * l + k * j) (j * l))]) → Q (.ref p) H'
def sp_law_times : Sp := fun vs H Q _ => ∃ (p q : Addr) (i j k l : Int), vs = [.ref p, .ref q] ∧ H p = some (.tup [.int i, .int j]) ∧ H q = some (.tup [.int k, .int l]) ∧ Fit i j ∧ Fit k l ∧ 0 < j ∧ 0 < l ∧ ∀ (p : Addr) (H' : Hp), Same H H' → H' p = some (.tup [.int ((i * k) / gI (i * k) (j * l)), .int ((j * l) / gI (i * k) (j * l))]) → Q (.ref p) H'
def sp_law_minus : Sp := fun vs H Q _ => ∃ (p q : Addr) (i j k l : Int), vs = [.ref p, .ref q] ∧ H p = some (.tup [.int i, .int j]) ∧ H q = some (.tup [.int k, .int l]) ∧ Fit i j ∧ Fit k l ∧ 0 < j ∧ 0 < l ∧ ∀ (p : Addr) (H' : Hp), Same H H' → H' p = some (.tup [.int ((i * l - k * j) / gI (i * l - k * j) (j * l)), .int ((j * l) / gI (i * l - k * j) (j * l))]) → Q (.ref p) H'
theorem ok_law_minus (T : Txt K mg) : FnOk P w K mg base CX0 3 (fA mg "_law_minus") (fDat K (fA mg "_law_minus")) ["_law_one", "_law_two"] sp_law_minus := by
  have G_law_q := ok_law_q (P := P) (w := w) (base := base) T
  refine T._law_minus.F.ok sc_law_minus (fun vs H Q E h => ?_) (fun cdv A outer s H vs Q E hr h => ?_)
  · obtain ⟨p, q, i, j, k, l, rfl, _⟩ := h
    rfl
  · obtain ⟨p, q, i, j, k, l, rfl, hp, hq, ⟨fi, fj⟩, ⟨fk, fl⟩, j0, l0, z⟩ := h
    refine ⟨_, (pss_one (ps_ret (pe_c T._law_q G_law_q (hr.mono (by decide)) (pa_cons (pe_op op_sub (pe_op op_mulW (pe_ix ix_tup (pv 0) pe_int (fun _ _ => rfl)) (pe_ix ix_tup (pv 1) pe_int (fun _ _ => rfl))) (pe_op op_mulW (pe_ix ix_tup (pv 1) pe_int (fun _ _ => rfl)) (pe_ix ix_tup (pv 0) pe_int (fun _ _ => rfl)))) (pa_cons (pe_op op_mulW (pe_ix ix_tup (pv 0) pe_int (fun _ _ => rfl)) (pe_ix ix_tup (pv 1) pe_int (fun _ _ => rfl))) pa_nil))))), ?_⟩
    exact r_ret (te := tCall _ _ _ _) (c_call (va_cons (v_sub (v_mul (v_ixT (n := 0) (val_var rfl) val_c (SqT.of hp) rfl) (v_ixT (n := 1) (val_var rfl) val_c (SqT.of hq) rfl) (fit_mul fi fl)) (v_mul (v_ixT (n := 0) (val_var rfl) val_c (SqT.of hq) rfl) (v_ixT (n := 1) (val_var rfl) val_c (SqT.of hp) rfl) (fit_mul fk fj))) (va_cons (v_mul (v_ixT (n := 1) (val_var rfl) val_c (SqT.of hp) rfl) (v_ixT (n := 1) (val_var rfl) val_c (SqT.of hq) rfl) (fit_mul fj fl)) va_nil)) ⟨_, _, rfl, fit_sub (wide_lt fi fl) (wide_lt fk fj), fit_lt fj fl, .inl ⟨Int.mul_pos j0 l0, z⟩⟩)

/-! ### lowest terms, the sums behind them -/
theorem gI_mul (x y : Int) {s : Int} (hs : 0 < s) : gI (x * s) (y * s) = gI x y * s := by
  unfold gI
  rw [Int.natAbs_mul, Int.natAbs_mul, Nat.gcd_mul_right, Int.natCast_mul]
  congr 1
  omega
theorem low_mul (x y : Int) {s : Int} (hs : 0 < s) : x * s / gI (x * s) (y * s) = x / gI x y ∧ y * s / gI (x * s) (y * s) = y / gI x y := by
  rw [gI_mul _ _ hs]
  exact ⟨Int.mul_ediv_mul_of_pos_left _ _ hs, Int.mul_ediv_mul_of_pos_left _ _ hs⟩
theorem gI_dvd (x y : Int) : gI x y ∣ x ∧ gI x y ∣ y := ⟨Int.ofNat_dvd_left.mpr (Nat.gcd_dvd_left _ _), Int.ofNat_dvd_left.mpr (Nat.gcd_dvd_right _ _)⟩
theorem low_one (x : Int) {y : Int} (hy : 0 < y) : gI (x / gI x y) (y / gI x y) = 1 := by
  have g : 0 < Nat.gcd x.natAbs y.natAbs := Nat.gcd_pos_of_pos_right _ (by omega)
  have e : (gI x y).natAbs = Nat.gcd x.natAbs y.natAbs := by unfold gI; exact Int.natAbs_natCast _
  have h := Nat.gcd_div (Nat.gcd_dvd_left x.natAbs y.natAbs) (Nat.gcd_dvd_right x.natAbs y.natAbs)
  rw [Nat.div_self g] at h
  have e1 := Int.natAbs_ediv_of_dvd (gI_dvd x y).1
  have e2 := Int.natAbs_ediv_of_dvd (gI_dvd x y).2
  show ((Nat.gcd (x / gI x y).natAbs (y / gI x y).natAbs : Nat) : Int) = 1
  rw [e1, e2, e, h]
  rfl
theorem low_abs (x : Int) {y : Int} : (x / gI x y).natAbs ≤ x.natAbs := by
  rw [Int.natAbs_ediv_of_dvd (gI_dvd x y).1]
  exact Nat.div_le_self _ _
theorem low_pos (x : Int) {y : Int} (hy : 0 < y) : 0 < y / gI x y ∧ y / gI x y ≤ y := by
  have g := gI_pos (i := x) hy
  refine ⟨Int.ediv_pos_of_pos_of_dvd hy (Int.le_of_lt g) (gI_dvd x y).2, Int.ediv_le_self _ (Int.le_of_lt hy)⟩
theorem call_1 {sp : Sp} {L : List V} {E : XK} {te : TE} {tr : TA} {σ : L2.St} {H : Hp} {Q : VK} (h : te σ H fun v H1 => tr σ H1 fun vs H2 => sp ((v :: vs) ++ L) H2 Q E) : tCall sp L E (tCons te tr) σ H Q := h
theorem va_1 {te : TE} {σ : L2.St} {H : Hp} {Q : List V → Hp → Prop} (h : te σ H fun v H1 => Q [v] H1) : tCons te tNil σ H Q := h
/-- a ratio in lowest terms of up to eighteen figures -/
def Low (H : Hp) (t : Addr) (a b : Int) : Prop := H t = some (.tup [.int a, .int b]) ∧ 0 < b ∧ gI a b = 1 ∧ a.natAbs ≤ 10 ^ 18 ∧ b ≤ 10 ^ 18

theorem q_ifAndK {σ : L2.St} {H : Hp} {t u : TT} {t1 tz : TS} {D : Ends} {I : Hp → Prop} (rest : ∀ H1, I H1 → tz D σ H1) (h : (∀ H1, I H1 → tz D σ H1) → t σ H fun c H1 => if c = true then u σ H1 (fun b H2 => if b = true then t1 { D with nx := tz D } σ H2 else tz D σ H2) else
    (if false = true then t1 { D with nx := tz D } σ H1 else tz D σ H1)) : tSeq (tIfS (tAnd t u) t1 tNext) tz D σ H := h rest
theorem l_two {σ : L2.St} {H : Hp} {t1 t2 : TE} {Q : VK} (h : t1 σ H fun v H1 => t2 σ H1 fun w H2 => 2 ≤ sizeLine ∧ ∀ q, H2 q = none → Q (.ref q) (upd H2 q (.lst [v, w]))) : tLst (tCons t1 (tCons t2 tNil)) σ H Q := h
/-- as a caller may pass a ratio a / b -/
def spPassed : Sp := fun vs H Q _ => ∃ (p c t : Addr) (m : Nat) (a b : Int), vs = [.ref p, .ref t] ∧ PenAt H p c m ∧ m + 3 < most ∧ Low H t a b ∧ ∀ (v : V) (H' : Hp) (s : Int), 0 < s → s ≤ 3 → Rt H' v (a * s) (b * s) → (∀ x, v = .ref x → H x = none) → But p H H' → PenAt H' p c (m + 3) → Q v H'
theorem none_of {H0 H : Hp} {a : Addr} (s : Same H0 H) (h : H a = none) : H0 a = none := by
  cases e : H0 a with
  | none => rfl
  | some o => rw [s _ _ e] at h; cases h
theorem em_tupF {σ : L2.St} {H : Hp} {tb : TA} {ws : List V} {P : V → Hp → Prop} (h : VA tb σ H ws) (hl : ws.length ≤ 100000) (q : ∀ a H', H a = none → H' a = some (.tup ws) → P (.ref a) H') : EM (tTup tb) σ H P := fun Q k => l_tup h hl fun a ha => k _ _ (Same.new' ha) (q a _ ha upd_same)
theorem em_lstF {σ : L2.St} {H : Hp} {tb : TA} {ws : List V} {P : V → Hp → Prop} (h : VA tb σ H ws) (hl : ws.length ≤ 100000) (q : ∀ a H', H a = none → H' a = some (.lst ws) → P (.ref a) H') : EM (tLst tb) σ H P := fun Q k => l_lst h hl fun a ha => k _ _ (Same.new' ha) (q a _ ha upd_same)
theorem em_dicF {σ : L2.St} {H : Hp} {te : TE} {v : V} {key : Key} {P : V → Hp → Prop} (h : ∀ H1, Val te σ H1 v) (q : ∀ a H', H a = none → H' a = some (.dK [(key, v)]) → P (.ref a) H') : EM (tDisp [(tC (kV key), te)]) σ H P := fun Q k a ha =>
  h _ _ ⟨upd_same, [(key, v)], rfl, by show 1 ≤ 15; decide, k _ _ (by
    have e : mergeK [] [(key, v)] = [(key, v)] := rfl
    rw [e, upd_upd]
    exact Same.new' ha) (q a _ ha upd_same)⟩
theorem fr_ref {H0 : Hp} {a : Addr} (h : H0 a = none) : ∀ x, V.ref a = .ref x → H0 x = none := fun x e => by cases e; exact h
theorem tup_two {σ : L2.St} {H : Hp} {t1 t2 : TE} {Q : VK} (h : t1 σ H fun v H1 => t2 σ H1 fun w H2 => 2 ≤ sizeLine ∧ ∀ q, H2 q = none → Q (.ref q) (upd H2 q (.tup [v, w]))) : tTup (tCons t1 (tCons t2 tNil)) σ H Q := h
end
end LW

/-! The law's end where several defs of the text make lambdas, and nothing is being shown. -/
namespace GL
open PySem PySem.Spec PyProof.Rows L2
section
variable {P : Program} {w : World} {K : PySem.W.Frag} {mg mb : Str → Option Value} {k : Nat} {fa a : Addr} {ts : List (Addr × Addr)} {fd : FuncData} {x : Str} {sp : Sp} {s₁ : Shared} {vs : List Value} {ns : List Int}
/-- from one abstract heap that knows the table, and the script at most -/
theorem law_fromT (KX : K.In s₁.heap) (hns : s₁.heap.Ns mainGlobals mg) (hb : s₁.heap.Ns builtinsNs mb) (hbb : ∀ x : Str, x ≠ "__name__" → mb x = bootBuiltins x) (hlim : s₁.heap.NoLimit) (hg : s₁.gens = #[])
    (hTs : ∀ p ∈ ts, s₁.heap.get? p.2 = some { cls := .none, data := .fields #[] } ∧ K.lookup p.2 = none ∧ PySem.W.codeHdIn K p.1 p.2 = true)
    (hbm : ∃ (bm : Addr) (ob : Obj), mg "__builtins__" = some (.ref bm) ∧ bm ≠ builtinsNs ∧ s₁.heap.get? bm = some ob ∧ ob.cls = .type "module" ∧ ob.dict = some builtinsNs ∧ ob.data = .plain)
    (ha : s₁.heap.get? a = some { cls := .type "list", data := .seq vs.toArray }) (hr : Room k callerA)
    (F : ∀ base : Heap, K.In base → base.Ns mainGlobals mg → (∀ p ∈ ts, LamX.TabB base mg p.1 p.2) → OkG P w K mg base CX0 k fa fd [x] sp) (hbind : ∀ (s : Shared) (u : Value), BindsTo s fd ⟨[u], []⟩ [(x, u)])
    {H : Hp} (hH : ∀ p ∈ ts, H p.2 = some (.tbl #[])) (hO : ∀ b, b ∉ ts.map Prod.snd → H b = none ∨ ∃ o xs, H b = some (.frz o (.lst xs))) (hsp : sp [.ref a] H (fun v _ => v = .bl true) fun _ _ _ => False) (hok : HOk P w H s₁.heap) (hA : ∀ b, b ∉ ts.map Prod.snd → H b ≠ none → b = a)
    (hK : H a ≠ none → K.lookup a = none) : Law P w fa a s₁ := by
  have free : ∀ {b : Addr} {o : Obj}, s₁.heap.get? b = some o → (∀ xs m, o.data ≠ .seq xs m) → o.data ≠ .fields #[] → H b = none := fun {b o} e d1 d2 => by
    by_cases q : b ∈ ts.map Prod.snd
    · obtain ⟨p, hp, rfl⟩ := List.mem_map.mp q
      rw [(hTs p hp).1] at e
      cases e
      exact (d2 rfl).elim
    · refine Decidable.byContradiction fun z => ?_
      have q2 := hA b q z
      rw [q2, ha] at e
      cases e
      exact d1 _ _ rfl
  have kFree : ∀ {b : Addr} {o : Obj}, K.lookup b = some o → H b = none := fun {b o} e => Decidable.byContradiction fun z => by
    by_cases q : b ∈ ts.map Prod.snd
    · obtain ⟨p, hp, rfl⟩ := List.mem_map.mp q
      rw [(hTs p hp).2.1] at e
      cases e
    · have q2 := hA b q z
      subst q2
      rw [hK z] at e
      cases e
  have dict : ∀ {b : Addr} {o : Obj} {es : Array DictEntry} {ep : Nat}, s₁.heap.get? b = some o → o.data = .dict es ep → H b = none := fun {b o es ep} e d =>
    free e (fun xs m z => by rw [d] at z; cases z) (fun z => by rw [d] at z; cases z)
  have names : ∀ {b : Addr} {m : Str → Option Value}, s₁.heap.Ns b m → (hidT s₁.heap H).Ns b m := fun {b m} z => by
    obtain ⟨o, es, ep, e, d, r⟩ := z
    exact ⟨o, es, ep, hidT_get e (dict e d), d, r⟩
  have kIn' : K.In (hidT s₁.heap H) := fun b o e => hidT_get (KX b o e) (kFree e)
  have TB : ∀ p ∈ ts, LamX.TabB (hidT s₁.heap H) mg p.1 p.2 := fun p hp => by
    obtain ⟨hTab, nTab, hCd⟩ := hTs p hp
    have gP : mainGlobals ≠ p.2 := fun z => by
      obtain ⟨o, es, ep, e, d, _⟩ := hns
      rw [z, hTab] at e
      cases e
      cases d
    refine ⟨PySem.W.codeHd_of_K kIn' hCd, ?_, gP⟩
    obtain ⟨bm, ob, q1, q2, q3, q4, q5, q6⟩ := hbm
    have nG : bm ≠ mainGlobals := fun z => by
      obtain ⟨o, es, ep, e, d, _⟩ := hns
      rw [z, e] at q3
      cases q3
      rw [d] at q6
      cases q6
    have nP : bm ≠ p.2 := fun z => by
      rw [z, hTab] at q3
      cases q3
      cases q6
    exact ⟨bm, ob, q1, q2, nG, nP, hidT_get q3 (free q3 (fun xs m z => by rw [q6] at z; cases z) (fun z => by rw [q6] at z; cases z)), q4, q5, q6⟩
  obtain ⟨mc, l1, l2⟩ := hlim
  have e0 : Env0 P w K mg (hidT s₁.heap H) callerA [] s₁ H := ⟨rfl, ⟨kIn', names hns, ⟨mb, names hb, hbb⟩, ⟨mc, names l1, l2⟩⟩, fun b o e => of_hidT e, Nat.le_of_eq (hidT_size _ _), trivial, (fun b z => nomatch z), hok, .of_eq hg⟩
  have run := (F _ kIn' (names hns) TB).run callerA [] s₁ H ⟨[.ref a], []⟩ [.ref a] [.ref a] _ _ hr rfl e0 (hbind s₁ (.ref a)) (.cons rfl .nil) hsp
  refine codeAny_mono run fun r s' z => ?_
  cases r with
  | error e => exact z.elim
  | ok fl => cases fl with
    | next => exact z.elim
    | brk => exact z.elim
    | cont => exact z.elim
    | ret u =>
      obtain ⟨v, H', os, bare, un, hok', rv, ev⟩ := z
      have ev' : v = .bl true := ev
      subst ev'
      cases (show u = Value.bool true from rv)
      have stay : ∀ b o, b ∉ ts.map Prod.snd → s₁.heap.get? b = some o → s'.heap.get? b = some o := fun b o n e => by
        rcases hO b n with q | ⟨ob, xs, q⟩
        · exact un.keep b o e q (fun z => nomatch z) (fun z => nomatch z)
        · obtain ⟨e1, _⟩ := hok b _ q
          obtain ⟨e2, _⟩ := hok' b _ (un.frzs b ob _ q)
          rw [e] at e1
          cases e1
          exact e2
      refine ⟨rfl, ⟨fun b o e => ?_, fun b o e => ?_⟩, os, bare⟩
      · by_cases n : b ∈ ts.map Prod.snd
        · obtain ⟨p, hp, rfl⟩ := List.mem_map.mp n
          obtain ⟨hTab, nTab, hCd⟩ := hTs p hp
          obtain ⟨more, hm⟩ := un.tbls p.2 #[] (hH p hp)
          have now := hok' p.2 _ hm
          rw [hTab] at e
          cases e
          exact .inr (.inl ⟨((PySem.W.codeHd_of_K KX hCd).tab hTab).isCodeTable, rfl, #[], more, rfl, now⟩)
        · exact .inl (stay b o n e)
      · by_cases n : b ∈ ts.map Prod.snd
        · obtain ⟨p, hp, rfl⟩ := List.mem_map.mp n
          obtain ⟨more, hm⟩ := un.tbls p.2 #[] (hH p hp)
          exact ⟨_, hok' p.2 _ hm⟩
        · exact ⟨o, stay b o n e⟩
theorem law_callGT (KX : K.In s₁.heap) (hns : s₁.heap.Ns mainGlobals mg) (hb : s₁.heap.Ns builtinsNs mb) (hbb : ∀ x : Str, x ≠ "__name__" → mb x = bootBuiltins x) (hlim : s₁.heap.NoLimit) (hg : s₁.gens = #[])
    (hTs : ∀ p ∈ ts, s₁.heap.get? p.2 = some { cls := .none, data := .fields #[] } ∧ K.lookup p.2 = none ∧ PySem.W.codeHdIn K p.1 p.2 = true)
    (hbm : ∃ (bm : Addr) (ob : Obj), mg "__builtins__" = some (.ref bm) ∧ bm ≠ builtinsNs ∧ s₁.heap.get? bm = some ob ∧ ob.cls = .type "module" ∧ ob.dict = some builtinsNs ∧ ob.data = .plain)
    (ha : s₁.heap.get? a = some { cls := .type "list", data := .seq vs.toArray }) (hi : IntsAre vs ns) (hl : ns.length ≤ sizeLine) (hr : Room k callerA)
    (F : ∀ base : Heap, K.In base → base.Ns mainGlobals mg → (∀ p ∈ ts, LamX.TabB base mg p.1 p.2) → OkG P w K mg base CX0 k fa fd [x] sp) (hbind : ∀ (s : Shared) (u : Value), BindsTo s fd ⟨[u], []⟩ [(x, u)])
    (hsp : ∀ H : Hp, (∀ p ∈ ts, H p.2 = some (.tbl #[])) → SqL K H a (ns.map V.int) → sp [.ref a] H (fun v _ => v = .bl true) fun _ _ _ => False) : Law P w fa a s₁ := by
  have rv := vals_ints hi
  have na : a ∉ ts.map Prod.snd := fun z => by
    obtain ⟨p, hp, e⟩ := List.mem_map.mp z
    rw [← e, (hTs p hp).1] at ha
    cases ha
  let H0 : Hp := fun b => if b ∈ ts.map Prod.snd then some (.tbl #[]) else none
  have t0' : ∀ b, b ∈ ts.map Prod.snd → H0 b = some (.tbl #[]) := fun b z => if_pos z
  have t0 : ∀ p ∈ ts, H0 p.2 = some (.tbl #[]) := fun p hp => t0' _ (List.mem_map.mpr ⟨p, hp, rfl⟩)
  have o0 : ∀ b, b ∉ ts.map Prod.snd → H0 b = none := fun b z => if_neg z
  cases hk : K.lookup a with
  | some o =>
    have e := KX a o hk
    rw [ha] at e
    cases e
    have hS : SqL K H0 a (ns.map V.int) := .inr ⟨_, vs.toArray, _, hk, rfl, rfl, rfl, by rw [List.size_toArray, hi.length]; exact hl, by simpa using rv⟩
    refine law_fromT KX hns hb hbb hlim hg hTs hbm ha hr F hbind t0 (fun b n => .inl (o0 b n)) (hsp H0 t0 hS) (fun b u z => ?_) (fun b n z => (z (o0 b n)).elim) (fun z => (z (o0 a na)).elim)
    by_cases q : b ∈ ts.map Prod.snd
    · rw [t0' b q] at z
      cases z
      obtain ⟨p, hp, rfl⟩ := List.mem_map.mp q
      exact (hTs p hp).1
    · rw [o0 b q] at z
      cases z
  | none =>
    let H1 : Hp := upd H0 a (.frz { cls := .type "list", data := .seq vs.toArray } (.lst (ns.map V.int)))
    have a1 : H1 a = some (.frz { cls := .type "list", data := .seq vs.toArray } (.lst (ns.map V.int))) := upd_same
    have t1' : ∀ b, b ∈ ts.map Prod.snd → H1 b = some (.tbl #[]) := fun b z => (upd_ne (fun e => na (by rw [← e]; exact z))).trans (t0' b z)
    have t1 : ∀ p ∈ ts, H1 p.2 = some (.tbl #[]) := fun p hp => t1' _ (List.mem_map.mpr ⟨p, hp, rfl⟩)
    have o1 : ∀ b, b ∉ ts.map Prod.snd → b ≠ a → H1 b = none := fun b z y => (upd_ne y).trans (o0 b z)
    refine law_fromT KX hns hb hbb hlim hg hTs hbm ha hr F hbind t1 (fun b n => ?_) (hsp H1 t1 (.inl (.inr ⟨_, a1⟩))) (fun b u z => ?_) (fun b n z => Decidable.byContradiction fun q => z (o1 b n q)) (fun _ => hk)
    · by_cases q : b = a
      · rw [q]
        exact .inr ⟨_, _, a1⟩
      · exact .inl (o1 b n q)
    · by_cases q : b = a
      · subst q
        rw [a1] at z
        cases z
        exact ⟨ha, by rw [List.length_map]; exact hl, vs, _, rv, ha⟩
      · by_cases q2 : b ∈ ts.map Prod.snd
        · rw [t1' b q2] at z
          cases z
          obtain ⟨p, hp, rfl⟩ := List.mem_map.mp q2
          exact (hTs p hp).1
        · rw [o1 b q2 q] at z
          cases z
end
/-- what is known of the law's def -/
def LawT (P : Program) (w : World) (K : PySem.W.Frag) (k n : Nat) (x : Str) (mg : Str → Option Value) (fa : Addr) (h : Heap) : Prop :=
  ∃ (fd : FuncData) (ts : List (Addr × Addr)) (sp : Sp), (∀ p ∈ ts, h.get? p.2 = some { cls := .none, data := .fields #[] } ∧ K.lookup p.2 = none ∧ PySem.W.codeHdIn K p.1 p.2 = true) ∧ (∀ (s : Shared) (u : Value), BindsTo s fd ⟨[u], []⟩ [(x, u)]) ∧
    (∀ (H : Hp) (a : Addr) (ns : List Int), ns.length ≤ n → (∀ p ∈ ts, H p.2 = some (.tbl #[])) → SqL K H a (ns.map V.int) → sp [.ref a] H (fun v _ => v = .bl true) fun _ _ _ => False) ∧
    ∀ base : Heap, K.In base → base.Ns mainGlobals mg → (∀ p ∈ ts, LamX.TabB base mg p.1 p.2) → OkG P w K mg base CX0 k fa fd [x] sp
theorem walk_GT {l : PySem.W.OpenLaw} {n k : Nat} {q : Program} {loose : List Str} {XP : (Str → Option Value) → Heap → Prop} {YP : World → Heap → Prop} {d : DefRec} {K : Params → PySem.W.Frag} {x : Str}
    (hn : l.most = some n) (hn2 : n ≤ sizeLine) (hdf : d.params.defaults = []) (hr : Room k callerA) (hY : ∀ (w : World) (h : Heap), YP w h → (K w.params).In h)
    (F : ∀ (w : World) (mg : Str → Option Value) (fa : Addr) (h : Heap), YP w h → (K w.params).In h → h.Ns mainGlobals mg → mg d.name = some (.ref fa) → LawT l.prog w (K w.params) k n x mg fa h) :
    PySem.W.WalkO q loose XP YP l.row.toRowW d [] (fun f vs => PySem.call f vs) := by
  refine Att.attach_call hn hdf fun w s₀ s₁ mg mb fa o pm cd doc a vs ns G Y ho hd hcd hmg hobj hints hlen hg => ?_
  have KX := hY w _ Y
  obtain ⟨fd, ts, sp, hT, hbi, hsp, hF⟩ := F w mg fa _ Y KX G.T.g hmg
  exact law_callGT KX G.T.g G.T.b G.T.builtins G.T.nolimit hg hT G.T.bmain hobj hints (Nat.le_trans hlen hn2) hr hF hbi fun H hH hS => hsp H a ns hlen hH hS
end GL

/-! The small head (head_any) with facts of the top by one Hook. -/
namespace GL
open PySem PySem.Spec PyProof.Rows L2
/-- an own exception's class object -/
def xcB (K : PySem.W.Frag) (C : Addr) : Bool := match K.lookup C with
  | some ⟨.type c, _, .cls cd, sl⟩ => decide (c = "type") && ((match cd.mro with
    | .ref a :: bm => decide (a = C) && PySem.HandSPX.refsVE bm
    | _ => false) && (cd.hasDict && (!cd.hasDel && (match sl.toList with
    | [_, _, _, _, some (.builtin x), _] => decide (x = "ValueError.__new__")
    | _ => false))))
  | _ => false
theorem xcB_ok {K : PySem.W.Frag} {C : Addr} (h : xcB K C = true) : ∃ nm q N bs bm sn sub ab col dd k0 k1 k2 k3 k5, K.lookup C = some (excClassObj nm q C N bs bm true sn sub ab col dd k0 k1 k2 k3 k5 "ValueError.__new__") ∧ PySem.HandSPX.refsVE bm = true := by
  unfold xcB at h
  cases q : K.lookup C with
  | none => rw [q] at h; cases h
  | some o =>
    obtain ⟨oc, od, dt, sl⟩ := o
    rw [q] at h
    cases oc with
    | type c =>
      cases dt with
      | cls cd =>
        obtain ⟨h1, h⟩ := He.ba h
        obtain ⟨h2, h⟩ := He.ba h
        obtain ⟨h3, h⟩ := He.ba h
        obtain ⟨h4, h5⟩ := He.ba h
        have e1 : c = "type" := of_decide_eq_true h1
        subst e1
        obtain ⟨n1, n2, n3, n4, n5, n6, n7, n8, n9, n10, n11⟩ := cd
        obtain ⟨a, bm, e3, e4, e5⟩ : ∃ a bm, n3 = .ref a :: bm ∧ a = C ∧ PySem.HandSPX.refsVE bm = true := by
          cases n3 with
          | nil => cases h2
          | cons v bm =>
            cases v with
            | ref a =>
              obtain ⟨z1, z2⟩ := He.ba h2
              exact ⟨a, bm, rfl, of_decide_eq_true z1, z2⟩
            | _ => cases h2
        subst e3 e4
        have e6 : n6 = true := h3
        have e7 : n11 = false := by
          cases n11 with
          | false => rfl
          | true => cases h4
        subst e6 e7
        obtain ⟨k0, k1, k2, k3, k5, e8⟩ : ∃ k0 k1 k2 k3 k5, sl.toList = [k0, k1, k2, k3, some (.builtin "ValueError.__new__"), k5] := by
          split at h5
          · rename_i k0 k1 k2 k3 x k5 e
            have ex : x = "ValueError.__new__" := of_decide_eq_true h5
            rw [ex] at e
            exact ⟨_, _, _, _, _, e⟩
          · cases h5
        have e9 : sl = #[k0, k1, k2, k3, some (.builtin "ValueError.__new__"), k5] := Array.toList_inj.mp e8
        subst e9
        exact ⟨_, _, _, _, _, _, _, _, _, _, _, _, _, _, _, rfl, e5⟩
      | _ => cases h
    | _ => cases dt <;> cases h
section
variable {fa : List He.Fa} {fn : List He.DefD} {K : PySem.W.Frag}
theorem defP (c : He.SaysD fa fn K) (i : Nat) {p : Str × Option Str} {x q : Str} {ar : Arguments} {b : List Stmt} {sc : Scope} (h : fn[i]? = some ⟨p, x, q, ar, b, sc, [], []⟩) :
    ∃ oc od osl kV doc pm an cdv ct, K.lookup (He.fAd K p) = some ⟨oc, od, .func (PySem.W.fnOf x q ar b sc .none kV doc pm an cdv ct), osl⟩ ∧ PySem.W.codeIn K cdv q = true ∧ PySem.W.keepIn K (.ref (He.fAd K p)) = true := by
  obtain ⟨fd, ⟨oc, od, dV, kV, doc, pm, an, cdv, ct, osl, rfl, lk, cd, dfl, _⟩, kp⟩ := c.def_ i h
  have e : dV = .none := by
    rcases dfl with ⟨_, e⟩ | ⟨z, _⟩
    · exact e
    · exact absurd rfl z
  subst e
  exact ⟨oc, od, osl, kV, doc, pm, an, cdv, ct, lk, cd, kp⟩
theorem defG (c : He.SaysD fa fn K) (i : Nat) {x : Str} {st : Stmt} (h : fn[i]? = some ⟨(x, none), x, x, defArgs st, defBody st, defScope st, [], []⟩) :
    ∃ oc od osl kV doc pm an cdv ct, K.lookup (He.ga K x) = some ⟨oc, od, .func (PySem.W.fnOf x x (defArgs st) (defBody st) (defScope st) .none kV doc pm an cdv ct), osl⟩ ∧ PySem.W.codeIn K cdv x = true ∧ PySem.W.keepIn K (.ref (He.ga K x)) = true := defP c i h
theorem defM (c : He.SaysD fa fn K) (i : Nat) {C m q : Str} {st : Stmt} (h : fn[i]? = some ⟨(C, some m), m, q, defArgs st, defBody st, defScope st, [], []⟩) :
    ∃ oc od osl kV doc pm an cdv ct, K.lookup (He.ma K (He.ga K C) m) = some ⟨oc, od, .func (PySem.W.fnOf m q (defArgs st) (defBody st) (defScope st) .none kV doc pm an cdv ct), osl⟩ ∧ PySem.W.codeIn K cdv q = true ∧ PySem.W.keepIn K (.ref (He.ma K (He.ga K C) m)) = true := defP c i h
end
theorem chk {l : List Bool} (h : l.all id = true) (i : Nat) {P : Prop} [d : Decidable P] (e : l[i]? = some (decide P)) : P :=
  of_decide_eq_true (show id (decide P) = true from List.all_eq_true.mp h _ (List.mem_of_getElem? e))
/-- one def of the top -/
def gDef (x : Str) (st : Stmt) : He.DefD := ⟨(x, none), x, x, defArgs st, defBody st, defScope st, [], []⟩
def mDef (C m q : Str) (st : Stmt) : He.DefD := ⟨(C, some m), m, q, defArgs st, defBody st, defScope st, [], []⟩
theorem walk_GTE {l : PySem.W.OpenLaw} {n k : Nat} {q : Program} {loose : List Str} {XP : (Str → Option Value) → Heap → Prop} {YP : World → Heap → Prop} {d : DefRec} {x : Str}
    (hn : l.most = some n) (hn2 : n ≤ sizeLine) (hdf : d.params.defaults = []) (hr : Room k callerA)
    (F : ∀ (w : World) (mg : Str → Option Value) (fa : Addr) (h : Heap), YP w h → h.Ns mainGlobals mg → mg d.name = some (.ref fa) → ∃ K : PySem.W.Frag, K.In h ∧ LawT l.prog w K k n x mg fa h) :
    PySem.W.WalkO q loose XP YP l.row.toRowW d [] (fun f vs => PySem.call f vs) := by
  refine Att.attach_call hn hdf fun w s₀ s₁ mg mb fa o pm cd doc a vs ns G Y ho hd hcd hmg hobj hints hlen hg => ?_
  obtain ⟨K, KX, fd, ts, sp, hT, hbi, hsp, hF⟩ := F w mg fa _ Y G.T.g hmg
  exact law_callGT KX G.T.g G.T.b G.T.builtins G.T.nolimit hg hT G.T.bmain hobj hints (Nat.le_trans hlen hn2) hr hF hbi fun H hH hS => hsp H a ns hlen hH hS
/-! ### what the facts look at: the module's names, their codes, the classes' tables, the methods, their codes -/
def dRefs (g : Addr → Option Obj) (a : Addr) : List Addr := match g a with
  | some ⟨_, _, .dict es _, _⟩ => es.toList.flatMap fun e => He.refV e.val
  | _ => []
def fRefs (g : Addr → Option Obj) (a : Addr) : List Addr := match g a with
  | some ⟨_, _, .func fd, _⟩ => He.refV fd.code
  | some ⟨_, _, .cls cd, _⟩ => cd.ns :: cd.mro.flatMap He.refV
  | _ => []
def asC (g : Addr → Option Obj) : List Addr := mainGlobals :: ((dRefs g mainGlobals ++ (dRefs g mainGlobals).flatMap (fRefs g)) ++ (((dRefs g mainGlobals).flatMap (fRefs g)).flatMap (dRefs g) ++ (((dRefs g mainGlobals).flatMap (fRefs g)).flatMap (dRefs g)).flatMap (fRefs g)))
def fcL {α : Type} : List (Addr × Obj) → (List (Addr × Obj) → α) → α
  | [], k => k []
  | x :: r, k => fcL r fun K => k (x :: K)
theorem fcL_eq {α : Type} : ∀ (l : List (Addr × Obj)) (k : List (Addr × Obj) → α), fcL l k = k l
  | [], _ => rfl
  | x :: r, k => fcL_eq r fun K => k (x :: K)
def obsP (fn : List He.DefD) (g : Addr → Option Obj) : He.AlD := fcL (He.frT g (asC g)) fun K => He.obsD [] fn K
def obsQ (tf : List He.Defn) (ex : PySem.W.Frag → Bool) (g : Addr → Option Obj) : Bool := fcL (He.frT g (asC g)) fun K => ex K && He.tabsB g tf K
theorem saysC {fn : List He.DefD} {tf : List He.Defn} {ex : PySem.W.Frag → Bool} {w : World} {h : Heap} (e1 : obsP fn h.get? = He.valD fn) (e2 : obsQ tf ex h.get? = true) : He.SaysX [] fn [] tf ex w h (He.frT h.get? (asC h.get?)) := by
  unfold obsP at e1
  unfold obsQ at e2
  rw [fcL_eq] at e1 e2
  obtain ⟨h1, h2⟩ := He.ba e2
  have at_ : ∀ p ∈ tf, PySem.W.codeHdIn (He.frT h.get? (asC h.get?)) (He.cT (He.frT h.get? (asC h.get?)) p).1 (He.cT (He.frT h.get? (asC h.get?)) p).2 = true ∧ ∃ o, h.get? (He.cT (He.frT h.get? (asC h.get?)) p).2 = some o ∧ He.emptyTab o = true := fun p hp => by
    have z := List.all_eq_true.mp h2 p hp
    obtain ⟨z1, z2⟩ := He.ba z
    revert z2
    cases q : h.get? (He.cT (He.frT h.get? (asC h.get?)) p).2 with
    | none => exact fun z2 => nomatch z2
    | some o => exact fun z2 => ⟨z1, o, rfl, z2⟩
  have e3 : He.obsT [] fn [] (He.frT h.get? (asC h.get?)) = He.valT fn [] w := Prod.ext e1 rfl
  exact { t := e3, more := h1, hd := fun p hp => (at_ p hp).1, out := fun p hp => (at_ p hp).2.elim fun _ z => He.frT_none z.1 z.2, empty := fun p hp => (at_ p hp).2.elim fun _ z => by rw [z.1, He.emptyTab_eq z.2] }
def hookC (fn : List He.DefD) (tf : List He.Defn) (ex : PySem.W.Frag → Bool) : PySem.W.Hook where
  α := He.AlD × Bool
  obs := fun s => (obsP fn s.heap.get?, obsQ tf ex s.heap.get?)
  val := fun _ => (He.valD fn, true)
  says := fun w h => ∃ K : PySem.W.Frag, K.In h ∧ He.SaysX [] fn [] tf ex w h K
  of := fun _ _ e => ⟨_, He.frT_in, saysC (congrArg Prod.fst e) (congrArg Prod.snd e)⟩
  keeps := fun _ _ _ ⟨K, hK, c⟩ k => ⟨K, PySem.W.Frag.In.keeps hK k, ⟨c.t, c.more, c.hd, c.out, fun p hp => k _ _ (c.empty p hp)⟩⟩
theorem hookC_eq {fn : List He.DefD} {tf : List He.Defn} {ex : PySem.W.Frag → Bool} (s : PySem.W.SharedT) : (obsP fn (HandSHeadRun.getT s), obsQ tf ex (HandSHeadRun.getT s)) = (hookC fn tf ex).obs s.abs := by
  have e : HandSHeadRun.getT s = s.abs.heap.get? := funext (HandSHeadRun.getT_eq s)
  rw [e]
  rfl
/-- equations about one run, joined -/
theorem join4 {α β γ δ ε : Type} {o : Option α} {f : α → β} {g : α → γ} {p : α → δ} {q : α → ε} {b : β} {c : γ} {d : δ} {e : ε} (h1 : o.map (fun x => (f x, g x, ())) = some (b, c, ())) (h2 : o.map p = some d) (h3 : o.map q = some e) :
    o.map (fun x => (f x, g x, (p x, q x))) = some (b, c, (d, e)) := by
  cases o with
  | none => cases h2
  | some x =>
    have e1 : (f x, g x, ()) = (b, c, ()) := Option.some.inj h1
    have e2 : p x = d := Option.some.inj h2
    have e3 : q x = e := Option.some.inj h3
    have e4 : f x = b := congrArg Prod.fst e1
    have e5 : g x = c := congrArg (fun z => z.2.1) e1
    show some (f x, g x, (p x, q x)) = _
    rw [e2, e3, e4, e5]
/-- from the Hook's facts -/
theorem dfX {fa : List He.Fa} {fn : List He.DefD} {K : PySem.W.Frag} {mg : Str → Option Value} {x : Str} {st : Stmt} {ps : List Str} {h : Heap} (X : K.In h) (G : h.Ns mainGlobals mg) (c : He.SaysD fa fn K) (a : PySem.W.nsIn K mainGlobals x = some (some (.ref (He.ga K x))))
    (i : Nat) (e : fn[i]? = some (gDef x st))
    (bi : ∀ (kV doc pm : Value) (an : Option Addr) (cdv ct : Value) (us : List Value), us.length = ps.length → bindArgs (PySem.W.fnOf x x (defArgs st) (defBody st) (defScope st) .none kV doc pm an cdv ct) ⟨us, []⟩ = pure (ps.zip us)) : Df K mg x st ps := by
  obtain ⟨_, _, _, _, _, _, _, _, _, l, cd, kp⟩ := defG c i e
  exact Df.mk' X G a l cd kp bi
theorem lawX {fa : List He.Fa} {fn : List He.DefD} {K : PySem.W.Frag} {mg : Str → Option Value} {h : Heap} {x : Str} {st : Stmt} (X : K.In h) (G : h.Ns mainGlobals mg) (c : He.SaysD fa fn K) (a : PySem.W.nsIn K mainGlobals x = some (some (.ref (He.ga K x))))
    (i : Nat) (e : fn[i]? = some (gDef x st)) : ∃ cC, cC = He.codeOf K (x, none) ∧ (fDat K (fA mg x)).code = .ref cC := by
  obtain ⟨_, _, _, _, _, _, _, _, _, l, cd, kp⟩ := defG c i e
  obtain ⟨cC, rfl⟩ := He.codeIn_ref cd
  exact ⟨cC, (He.codeOf_eq (p := (x, none)) l rfl).symm, by rw [fA_of (PySem.W.mg_of X G a), fDat_of l]⟩
theorem lbX {fa : List He.Fa} {fn : List He.DefD} {K : PySem.W.Frag} {mg : Str → Option Value} {h : Heap} {x p : Str} {st : Stmt} (X : K.In h) (G : h.Ns mainGlobals mg) (c : He.SaysD fa fn K) (a : PySem.W.nsIn K mainGlobals x = some (some (.ref (He.ga K x))))
    (i : Nat) (e : fn[i]? = some (gDef x st)) (bi : ∀ (kV doc pm : Value) (an : Option Addr) (cdv ct u : Value), bindArgs (PySem.W.fnOf x x (defArgs st) (defBody st) (defScope st) .none kV doc pm an cdv ct) ⟨[u], []⟩ = pure [(p, u)]) :
    ∀ (s : PySem.Shared) (u : PySem.Value), BindsTo s (fDat K (fA mg x)) ⟨[u], []⟩ [(p, u)] := by
  obtain ⟨_, _, _, _, _, _, _, _, _, l, cd, kp⟩ := defG c i e
  intro s u
  rw [fA_of (PySem.W.mg_of X G a), fDat_of l]
  exact .of_eq (bi ..)
end GL

/-! HG's Hook, which looks at the defaults of methods, too. -/
namespace GE
open PySem PySem.Spec PyProof.Rows L2 GL
def dflRefs (g : Addr → Option Obj) (a : Addr) : List Addr := match g a with
  | some ⟨_, _, .func fd, _⟩ => He.refV fd.defaults
  | _ => []
def seqRefs (g : Addr → Option Obj) (a : Addr) : List Addr := match g a with
  | some ⟨_, _, .seq its _, _⟩ => its.toList.flatMap He.refV
  | _ => []
def asE (g : Addr → Option Obj) : List Addr := asC g ++ (((((dRefs g mainGlobals).flatMap (fRefs g)).flatMap (dRefs g)).flatMap (dflRefs g)) ++ ((((dRefs g mainGlobals).flatMap (fRefs g)).flatMap (dRefs g)).flatMap (dflRefs g)).flatMap (seqRefs g))
def obsP (fn : List He.DefD) (g : Addr → Option Obj) : He.AlD := fcL (He.frT g (asE g)) fun K => He.obsD [] fn K
def obsQ (tf : List He.Defn) (ex : PySem.W.Frag → Bool) (g : Addr → Option Obj) : Bool := fcL (He.frT g (asE g)) fun K => ex K && He.tabsB g tf K
theorem saysC {fn : List He.DefD} {tf : List He.Defn} {ex : PySem.W.Frag → Bool} {w : World} {h : Heap} (e1 : obsP fn h.get? = He.valD fn) (e2 : obsQ tf ex h.get? = true) : He.SaysX [] fn [] tf ex w h (He.frT h.get? (asE h.get?)) := by
  unfold obsP at e1
  unfold obsQ at e2
  rw [fcL_eq] at e1 e2
  obtain ⟨h1, h2⟩ := He.ba e2
  have at_ : ∀ p ∈ tf, PySem.W.codeHdIn (He.frT h.get? (asE h.get?)) (He.cT (He.frT h.get? (asE h.get?)) p).1 (He.cT (He.frT h.get? (asE h.get?)) p).2 = true ∧ ∃ o, h.get? (He.cT (He.frT h.get? (asE h.get?)) p).2 = some o ∧ He.emptyTab o = true := fun p hp => by
    have z := List.all_eq_true.mp h2 p hp
    obtain ⟨z1, z2⟩ := He.ba z
    revert z2
    cases q : h.get? (He.cT (He.frT h.get? (asE h.get?)) p).2 with
    | none => exact fun z2 => nomatch z2
    | some o => exact fun z2 => ⟨z1, o, rfl, z2⟩
  have e3 : He.obsT [] fn [] (He.frT h.get? (asE h.get?)) = He.valT fn [] w := Prod.ext e1 rfl
  exact { t := e3, more := h1, hd := fun p hp => (at_ p hp).1, out := fun p hp => (at_ p hp).2.elim fun _ z => He.frT_none z.1 z.2, empty := fun p hp => (at_ p hp).2.elim fun _ z => by rw [z.1, He.emptyTab_eq z.2] }
def hookC (fn : List He.DefD) (tf : List He.Defn) (ex : PySem.W.Frag → Bool) : PySem.W.Hook where
  α := He.AlD × Bool
  obs := fun s => (obsP fn s.heap.get?, obsQ tf ex s.heap.get?)
  val := fun _ => (He.valD fn, true)
  says := fun w h => ∃ K : PySem.W.Frag, K.In h ∧ He.SaysX [] fn [] tf ex w h K
  of := fun _ _ e => ⟨_, He.frT_in, saysC (congrArg Prod.fst e) (congrArg Prod.snd e)⟩
  keeps := fun _ _ _ ⟨K, hK, c⟩ k => ⟨K, PySem.W.Frag.In.keeps hK k, ⟨c.t, c.more, c.hd, c.out, fun p hp => k _ _ (c.empty p hp)⟩⟩
theorem hookC_eq {fn : List He.DefD} {tf : List He.Defn} {ex : PySem.W.Frag → Bool} (s : PySem.W.SharedT) : (obsP fn (HandSHeadRun.getT s), obsQ tf ex (HandSHeadRun.getT s)) = (hookC fn tf ex).obs s.abs := by
  have e : HandSHeadRun.getT s = s.abs.heap.get? := funext (HandSHeadRun.getT_eq s)
  rw [e]
  rfl
theorem funD_dat {K : PySem.W.Frag} {x q : Str} {ar : Arguments} {b : List Stmt} {sc : Scope} {dvs : List V} {kws : List (Str × V)} {f : Addr} {fd : FuncData} (F : FunD K x q ar b sc dvs kws f fd) : FunD K x q ar b sc dvs kws f (fDat K f) := by
  obtain ⟨oc, od, dV, kV, doc, pm, an, cdv, ct, osl, e, lk, r⟩ := F.ex
  rw [fDat_of lk]
  exact F
end GE

namespace LW
open PySem PySem.Spec PyProof.Rows L2 GL
def dE (K : PySem.W.Frag) : Bool := match K.lookup (He.dflAt ("Room", some "__init__") 0 K) with
  | some ⟨.type c, _, .seq its _, _⟩ => decide (c = "tuple") && decide (its.toList = [])
  | _ => false
def chk0 (K : PySem.W.Frag) : List Bool := [
  decide (GL.xcB K (He.ga K "BadNumber") = true),
  decide (GL.xcB K (He.ga K "BadRow") = true),
  decide (GL.xcB K (He.ga K "Shared") = true),
  decide (PySem.W.nsIn K mainGlobals "int" = some none),
  decide (PySem.W.nsIn K mainGlobals "bool" = some none),
  decide (PySem.W.nsIn K mainGlobals "list" = some none),
  decide (PySem.W.nsIn K mainGlobals "tuple" = some none),
  decide (PySem.W.nsIn K mainGlobals "len" = some none),
  decide (PySem.W.nsIn K mainGlobals "range" = some none),
  decide (PySem.W.nsIn K mainGlobals "isinstance" = some none),
  decide (PySem.W.nsIn K mainGlobals "repr" = some none),
  decide (PySem.W.nsIn K mainGlobals "abs" = some none),
  decide (PySem.W.nsIn K mainGlobals "all" = some none),
  decide (PySem.W.nsIn K mainGlobals "zip" = some none),
  decide (PySem.W.nsIn K mainGlobals "any" = some none),
  decide (PySem.W.nsIn K mainGlobals "sum" = some none),
  decide (PySem.W.nsIn K mainGlobals "enumerate" = some none),
  decide (PySem.W.nsIn K mainGlobals "gcd" = some (some (.builtin "math.gcd"))),
  decide (PySem.W.nsIn K mainGlobals "lcm" = some (some (.builtin "math.lcm"))),
  decide (PySem.W.nsIn K mainGlobals "is_ratio" = some (some (.ref (He.ga K "is_ratio")))),
  decide (PySem.W.nsIn K mainGlobals "told" = some (some (.ref (He.ga K "told")))),
  decide (PySem.W.nsIn K mainGlobals "minus" = some (some (.ref (He.ga K "minus")))),
  decide (PySem.W.nsIn K mainGlobals "is_integer" = some (some (.ref (He.ga K "is_integer")))),
  decide (PySem.W.nsIn K mainGlobals "_parts" = some (some (.ref (He.ga K "_parts")))),
  decide (PySem.W.nsIn K mainGlobals "_lowest" = some (some (.ref (He.ga K "_lowest"))))]
def chk1 (K : PySem.W.Frag) : List Bool := [
  decide (PySem.W.nsIn K mainGlobals "is_row" = some (some (.ref (He.ga K "is_row")))),
  decide (PySem.W.nsIn K mainGlobals "is_row_of" = some (some (.ref (He.ga K "is_row_of")))),
  decide (PySem.W.nsIn K mainGlobals "is_place" = some (some (.ref (He.ga K "is_place")))),
  decide (PySem.W.nsIn K mainGlobals "pair_of" = some (some (.ref (He.ga K "pair_of")))),
  decide (PySem.W.nsIn K mainGlobals "place_of" = some (some (.ref (He.ga K "place_of")))),
  decide (PySem.W.nsIn K mainGlobals "bottom_of" = some (some (.ref (He.ga K "bottom_of")))),
  decide (PySem.W.nsIn K mainGlobals "whole_row" = some (some (.ref (He.ga K "whole_row")))),
  decide (PySem.W.nsIn K mainGlobals "border_of" = some (some (.ref (He.ga K "border_of")))),
  decide (PySem.W.nsIn K mainGlobals "grid_of" = some (some (.ref (He.ga K "grid_of")))),
  decide (PySem.W.nsIn K mainGlobals "sides_of" = some (some (.ref (He.ga K "sides_of")))),
  decide (PySem.W.nsIn K mainGlobals "turned_sides" = some (some (.ref (He.ga K "turned_sides")))),
  decide (PySem.W.nsIn K mainGlobals "area_of" = some (some (.ref (He.ga K "area_of")))),
  decide (PySem.W.nsIn K mainGlobals "where" = some (some (.ref (He.ga K "where")))),
  decide (PySem.W.nsIn K mainGlobals "has_apart" = some (some (.ref (He.ga K "has_apart")))),
  decide (PySem.W.nsIn K mainGlobals "_goes_once" = some (some (.ref (He.ga K "_goes_once")))),
  decide (PySem.W.nsIn K mainGlobals "_edges" = some (some (.ref (He.ga K "_edges")))),
  decide (PySem.W.nsIn K mainGlobals "_have_meeting" = some (some (.ref (He.ga K "_have_meeting")))),
  decide (PySem.W.nsIn K mainGlobals "_turn" = some (some (.ref (He.ga K "_turn")))),
  decide (PySem.W.nsIn K mainGlobals "_twice_area" = some (some (.ref (He.ga K "_twice_area")))),
  decide (PySem.W.nsIn K mainGlobals "_told_holes" = some (some (.ref (He.ga K "_told_holes")))),
  decide (PySem.W.nsIn K mainGlobals "_law_pen" = some (some (.ref (He.ga K "_law_pen")))),
  decide (PySem.W.nsIn K mainGlobals "_law_draw" = some (some (.ref (He.ga K "_law_draw")))),
  decide (PySem.W.nsIn K mainGlobals "_law_pick" = some (some (.ref (He.ga K "_law_pick")))),
  decide (PySem.W.nsIn K mainGlobals "_law_gcd" = some (some (.ref (He.ga K "_law_gcd")))),
  decide (PySem.W.nsIn K mainGlobals "_law_q" = some (some (.ref (He.ga K "_law_q"))))]
def chk2 (K : PySem.W.Frag) : List Bool := [
  decide (PySem.W.nsIn K mainGlobals "_law_minus" = some (some (.ref (He.ga K "_law_minus")))),
  decide (PySem.W.nsIn K mainGlobals "_law_turned_row" = some (some (.ref (He.ga K "_law_turned_row")))),
  decide (PySem.W.nsIn K mainGlobals "_law_fault" = some (some (.ref (He.ga K "_law_fault")))),
  decide (PySem.W.nsIn K mainGlobals "_law_bad_rows" = some (some (.ref (He.ga K "_law_bad_rows")))),
  decide (PySem.W.nsIn K mainGlobals "_law_bad_holes" = some (some (.ref (He.ga K "_law_bad_holes")))),
  decide (PySem.W.nsIn K mainGlobals "_law_crossed_rows" = some (some (.ref (He.ga K "_law_crossed_rows")))),
  decide (PySem.W.nsIn K mainGlobals "_law_long_rows" = some (some (.ref (He.ga K "_law_long_rows")))),
  decide (PySem.W.nsIn K mainGlobals "_law_crossings_right" = some (some (.ref (He.ga K "_law_crossings_right")))),
  decide (PySem.W.nsIn K mainGlobals "law" = some (some (.ref (He.ga K "law")))),
  decide (PySem.W.specialIn K (.builtin "object.__class__") "__get__" = some (some (.builtin "getset_descriptor.__get__"))),
  decide (PySem.W.takesIn K (.builtin "object.__class__") = some true),
  decide (PySem.W.nsIn K mainGlobals "BadNumber" = some (some (.ref (He.ga K "BadNumber")))),
  decide (PySem.W.findIn K (.ref (He.ga K "BadNumber")) "__getattribute__" = some (some (.builtin "BaseException.__getattribute__"))),
  decide (PySem.W.findIn K (.ref (He.ga K "BadNumber")) "__getattr__" = some none),
  decide (PySem.W.subIn K (.ref (He.ga K "BadNumber")) (.type "BaseException") = some true),
  decide (PySem.W.hasDictIn K (He.ga K "BadNumber") = true),
  decide (PySem.W.findIn K (.ref (He.ga K "BadNumber")) "__class__" = some (some (.builtin "object.__class__"))),
  decide (PySem.W.mroIn K (He.ga K "BadNumber") (.type "object") = some true),
  decide (PySem.W.keepIn K (.ref (He.ga K "BadNumber")) = true),
  decide (PySem.W.findIn K (.ref (He.ga K "BadNumber")) "__setattr__" = some (some (.builtin "object.__setattr__"))),
  decide (PySem.W.typeIn K (.ref (He.ga K "BadNumber")) = some (.type "type")),
  decide (PySem.W.findIn K (.ref (He.ga K "BadNumber")) "__init__" = some (some (.ref (He.ma K (He.ga K "BadNumber") "__init__")))),
  decide (PySem.W.typeIn K (.ref (He.ma K (He.ga K "BadNumber") "__init__")) = some (.type "function")),
  decide (PySem.W.findIn K (.ref (He.ga K "BadNumber")) "what" = some none),
  decide (PySem.W.findIn K (.ref (He.ga K "BadNumber")) "number" = some none)]
def chk3 (K : PySem.W.Frag) : List Bool := [
  decide (PySem.W.nsIn K mainGlobals "BadRow" = some (some (.ref (He.ga K "BadRow")))),
  decide (PySem.W.findIn K (.ref (He.ga K "BadRow")) "__getattribute__" = some (some (.builtin "BaseException.__getattribute__"))),
  decide (PySem.W.findIn K (.ref (He.ga K "BadRow")) "__getattr__" = some none),
  decide (PySem.W.subIn K (.ref (He.ga K "BadRow")) (.type "BaseException") = some true),
  decide (PySem.W.hasDictIn K (He.ga K "BadRow") = true),
  decide (PySem.W.findIn K (.ref (He.ga K "BadRow")) "__class__" = some (some (.builtin "object.__class__"))),
  decide (PySem.W.mroIn K (He.ga K "BadRow") (.type "object") = some true),
  decide (PySem.W.keepIn K (.ref (He.ga K "BadRow")) = true),
  decide (PySem.W.findIn K (.ref (He.ga K "BadRow")) "__setattr__" = some (some (.builtin "object.__setattr__"))),
  decide (PySem.W.typeIn K (.ref (He.ga K "BadRow")) = some (.type "type")),
  decide (PySem.W.findIn K (.ref (He.ga K "BadRow")) "__init__" = some (some (.ref (He.ma K (He.ga K "BadRow") "__init__")))),
  decide (PySem.W.typeIn K (.ref (He.ma K (He.ga K "BadRow") "__init__")) = some (.type "function")),
  decide (PySem.W.findIn K (.ref (He.ga K "BadRow")) "row" = some none),
  decide (PySem.W.nsIn K mainGlobals "Shared" = some (some (.ref (He.ga K "Shared")))),
  decide (PySem.W.findIn K (.ref (He.ga K "Shared")) "__getattribute__" = some (some (.builtin "BaseException.__getattribute__"))),
  decide (PySem.W.findIn K (.ref (He.ga K "Shared")) "__getattr__" = some none),
  decide (PySem.W.subIn K (.ref (He.ga K "Shared")) (.type "BaseException") = some true),
  decide (PySem.W.hasDictIn K (He.ga K "Shared") = true),
  decide (PySem.W.findIn K (.ref (He.ga K "Shared")) "__class__" = some (some (.builtin "object.__class__"))),
  decide (PySem.W.mroIn K (He.ga K "Shared") (.type "object") = some true),
  decide (PySem.W.keepIn K (.ref (He.ga K "Shared")) = true),
  decide (PySem.W.findIn K (.ref (He.ga K "Shared")) "__setattr__" = some (some (.builtin "object.__setattr__"))),
  decide (PySem.W.typeIn K (.ref (He.ga K "Shared")) = some (.type "type")),
  decide (PySem.W.findIn K (.ref (He.ga K "Shared")) "__init__" = some (some (.ref (He.ma K (He.ga K "Shared") "__init__")))),
  decide (PySem.W.typeIn K (.ref (He.ma K (He.ga K "Shared") "__init__")) = some (.type "function"))]
def chk4 (K : PySem.W.Frag) : List Bool := [
  decide (PySem.W.findIn K (.ref (He.ga K "Shared")) "plane" = some none),
  decide (PySem.W.exmOne K (.ref (He.ga K "BadRow")) (.ref (He.ga K "BadNumber")) = some false),
  decide (PySem.W.exmOne K (.ref (He.ga K "BadRow")) (.ref (He.ga K "BadRow")) = some true),
  decide (PySem.W.nsIn K mainGlobals "Room" = some (some (.ref (He.ga K "Room")))),
  decide (PySem.W.plainGet K (He.ga K "Room") Str.empty = true),
  decide (PySem.W.hasDictIn K (He.ga K "Room") = true),
  decide (PySem.W.plainOver K (He.ga K "Room") = true),
  decide (PySem.W.findIn K (.ref (He.ga K "Room")) "__setattr__" = some (some (.builtin "object.__setattr__"))),
  decide (PySem.W.makesIn K (He.ga K "Room") = true),
  decide (PySem.W.keepIn K (.ref (He.ga K "Room")) = true),
  decide (PySem.W.findIn K (.ref (He.ga K "Room")) "corners" = some none),
  decide (PySem.W.findIn K (.ref (He.ga K "Room")) "holes" = some none),
  decide (PySem.W.findIn K (.ref (He.ga K "Room")) "sides" = some none),
  decide (PySem.W.findIn K (.ref (He.ga K "Room")) "__init__" = some (some (.ref (He.ma K (He.ga K "Room") "__init__")))),
  decide (PySem.W.isFn K (.ref (He.ma K (He.ga K "Room") "__init__")) = true),
  decide (PySem.W.findIn K (.ref (He.ga K "Room")) "has" = some (some (.ref (He.ma K (He.ga K "Room") "has")))),
  decide (PySem.W.isFn K (.ref (He.ma K (He.ga K "Room") "has")) = true),
  decide (PySem.W.findIn K (.ref (He.ga K "Room")) "area" = some (some (.ref (He.ma K (He.ga K "Room") "area")))),
  decide (PySem.W.isFn K (.ref (He.ma K (He.ga K "Room") "area")) = true),
  decide (dE K = true),
  decide (He.tabOf K (He.codeOf K ("law", none)) ≠ He.tabOf K (He.codeOf K ("_law_crossings_right", none)))]
def ex (K : PySem.W.Frag) : Bool := ((chk0 K).all id && ((chk1 K).all id && ((chk2 K).all id && ((chk3 K).all id && (chk4 K).all id))))
def fn0 : List He.DefD := [
  GL.gDef "is_ratio" sis_ratio,
  GL.gDef "told" stold,
  GL.gDef "minus" sminus,
  GL.gDef "is_integer" sis_integer,
  GL.gDef "_parts" s_parts,
  GL.gDef "_lowest" s_lowest,
  GL.gDef "is_row" sis_row,
  GL.gDef "is_row_of" sis_row_of,
  GL.gDef "is_place" sis_place,
  GL.gDef "pair_of" spair_of,
  GL.gDef "place_of" splace_of,
  GL.gDef "bottom_of" sbottom_of,
  GL.gDef "whole_row" swhole_row,
  GL.gDef "border_of" sborder_of,
  GL.gDef "grid_of" sgrid_of,
  GL.gDef "sides_of" ssides_of,
  GL.gDef "turned_sides" sturned_sides,
  GL.gDef "area_of" sarea_of,
  GL.gDef "where" swhere,
  GL.gDef "has_apart" shas_apart,
  GL.gDef "_goes_once" s_goes_once,
  GL.gDef "_edges" s_edges,
  GL.gDef "_have_meeting" s_have_meeting,
  GL.gDef "_turn" s_turn,
  GL.gDef "_twice_area" s_twice_area]
def fn1 : List He.DefD := [
  GL.gDef "_told_holes" s_told_holes,
  GL.gDef "_law_pen" s_law_pen,
  GL.gDef "_law_draw" s_law_draw,
  GL.gDef "_law_pick" s_law_pick,
  GL.gDef "_law_gcd" s_law_gcd,
  GL.gDef "_law_q" s_law_q,
  GL.gDef "_law_minus" s_law_minus,
  GL.gDef "_law_turned_row" s_law_turned_row,
  GL.gDef "_law_fault" s_law_fault,
  GL.gDef "_law_bad_rows" s_law_bad_rows,
  GL.gDef "_law_bad_holes" s_law_bad_holes,
  GL.gDef "_law_crossed_rows" s_law_crossed_rows,
  GL.gDef "_law_long_rows" s_law_long_rows,
  GL.gDef "_law_crossings_right" s_law_crossings_right,
  GL.gDef "law" slaw,
  GL.mDef "BadNumber" "__init__" "BadNumber.__init__" (inClass (top 3) 0),
  GL.mDef "BadRow" "__init__" "BadRow.__init__" (inClass (top 4) 0),
  GL.mDef "Shared" "__init__" "Shared.__init__" (inClass (top 5) 0),
  ⟨("Room", some "__init__"), "__init__", "Room.__init__", defArgs (inClass (top 36) 0), defBody (inClass (top 36) 0), defScope (inClass (top 36) 0), [.adr (He.dflAt ("Room", some "__init__") 0)], []⟩,
  GL.mDef "Room" "has" "Room.has" (inClass (top 36) 1),
  GL.mDef "Room" "area" "Room.area" (inClass (top 36) 2)]
def fn : List He.DefD := fn0 ++ fn1
def tf : List He.Defn := [("law", none), ("_law_crossings_right", none)]
abbrev R : PySem.W.OpenRow := PySem.W.OpenLaw.row PySem.Challenge.rw_flowpapers_k22_rooms_refused
abbrev hk : PySem.W.Hook := GE.hookC fn tf ex
def ob (s : PySem.W.SharedT) : He.AlD × Bool := (GE.obsP fn (HandSHeadRun.getT s), GE.obsQ tf ex (HandSHeadRun.getT s))
theorem ob_eq (s : PySem.W.SharedT) : ob s = hk.obs s.abs := GE.hookC_eq s
def nm0 : List Str := ["__name__", "FlowError", "BadNumber", "BadRow", "Shared", "is_ratio", "told", "minus", "is_integer", "_parts", "_lowest", "is_row", "is_row_of", "is_place", "pair_of", "place_of", "bottom_of", "whole_row", "border_of", "grid_of", "sides_of", "turned_sides", "area_of", "where", "has_apart", "_goes_once", "_edges", "_have_meeting", "_turn", "_twice_area"]
def nm1 : List Str := ["Room", "_told_holes", "_law_pen", "_law_draw", "_law_pick", "_law_gcd", "_law_q", "_law_minus", "_law_turned_row", "_law_fault", "_law_bad_rows", "_law_bad_holes", "_law_crossed_rows", "_law_long_rows", "_law_crossings_right"]
def names : List Str := nm0 ++ nm1
set_option maxHeartbeats 0 in
theorem runA (w : World) : HandSHeadRun.RunEqI R (PySem.W.view R.prog [0, 52]) PySem.W.Hook.none (fun _ => ()) 20000 names w := by
  delta HandSHeadRun.RunEqI
  kernel_rfl
set_option maxHeartbeats 0 in
theorem runP (w : World) : (HandSHeadRun.wholeF (fun p => HandSHeadRun.stepQ (HandSHeadRun.denQ HandSHeadRun.tabQ) p w) HandSHeadRun.fenceQ 20000 R.prog).map (fun x => GE.obsP fn (HandSHeadRun.getT x.2)) = some (He.valD fn) := by
  kernel_rfl
set_option maxHeartbeats 0 in
theorem runQ (w : World) : (HandSHeadRun.wholeF (fun p => HandSHeadRun.stepQ (HandSHeadRun.denQ HandSHeadRun.tabQ) p w) HandSHeadRun.fenceQ 20000 R.prog).map (fun x => GE.obsQ tf ex (HandSHeadRun.getT x.2)) = some true := by
  kernel_rfl
theorem run (w : World) : HandSHeadRun.RunEqI R (PySem.W.view R.prog [0, 52]) hk ob 20000 names w := by
  delta HandSHeadRun.RunEqI
  exact GL.join4 (runA w) (runP w) (runQ w)
end LW

/-! list(zip(a, b)) of two lists, or of two tuples, of one length -/
namespace ZL
open PySem PySem.Spec PyProof.Rows L2
/-- a walk over a sequence -/
structure Cur (It : Heap → Addr → Addr → Nat → Prop) (Src : Heap → Addr → Array Value → Prop) : Prop where
  item : ∀ {prog : Program} {w : World} {A : Around} {E : Value → Shared → Prop} {s : Shared} {it l : Addr} {i : Nat} {xs : Array Value} {x : Value} {Q : Value → Shared → Prop}, It s.heap it l i → Src s.heap l xs → xs[i]? = some x →
    (∀ h', It h' it l (i + 1) → Heap.SameBut it s.heap h' → Q x { s with heap := h' }) → wpAny (model prog w) A (Builtin.SmallTypes.nextOf (.ref it)) Q E s
  stop : ∀ {prog : Program} {w : World} {A : Around} {E : Value → Shared → Prop} {s : Shared} {it l : Addr} {i : Nat} {xs : Array Value} {Q : Value → Shared → Prop}, A.handled = none → It s.heap it l i → Src s.heap l xs → xs[i]? = none →
    (∀ h' e, Heap.ExtBut it s.heap h' → (∃ o, h'.get? e = some o ∧ o.cls = .type "StopIteration") → E (.ref e) { s with heap := h' }) → wpAny (model prog w) A (Builtin.SmallTypes.nextOf (.ref it)) Q E s
  itk : ∀ {h h' : Heap} {it l : Addr} {k : Nat}, It h it l k → (∀ o, h.get? it = some o → h'.get? it = some o) → It h' it l k
  srk : ∀ {h h' : Heap} {l : Addr} {xs : Array Value}, Src h l xs → (∀ o, h.get? l = some o → h'.get? l = some o) → Src h' l xs
  first : ∀ {prog : Program} {w : World} {A : Around} {E : Value → Shared → Prop} {s : Shared} {z TI TO i1 i2 l1 l2 : Addr} {k1 k2 : Nat} {xs ys : Array Value} {x y a b : Value} {Q : Option Value → Shared → Prop}, ZipApart z TI TO i1 i2 l1 l2 →
    IsZip s.heap z TI TO .none → IsPair s.heap TI (.ref i1) (.ref i2) → IsPair s.heap TO a b → It s.heap i1 l1 k1 → It s.heap i2 l2 k2 → Src s.heap l1 xs → Src s.heap l2 ys → xs[k1]? = some x → ys[k2]? = some y →
    (∀ h', IsZip h' z TI TO (rawInt s.heap.objs.size) → IsPair h' TO x y → It h' i1 l1 (k1 + 1) → It h' i2 l2 (k2 + 1) → IsPair h' s.heap.objs.size x y → h'.objs.size = s.heap.objs.size + 1 →
      (∀ c o, c ≠ z → c ≠ TO → c ≠ i1 → c ≠ i2 → s.heap.get? c = some o → h'.get? c = some o) → Q (some (.ref s.heap.objs.size)) { s with heap := h' }) → wpAny (model prog w) A (pyNext (.ref z)) Q E s
  none : ∀ {prog : Program} {w : World} {A : Around} {E : Value → Shared → Prop} {s : Shared} {z TI TO i1 i2 l1 l2 : Addr} {k1 k2 : Nat} {xs ys : Array Value} {a b : Value} {Q : Option Value → Shared → Prop}, A.handled = none → ZipApart z TI TO i1 i2 l1 l2 →
    IsZip s.heap z TI TO .none → IsPair s.heap TI (.ref i1) (.ref i2) → IsPair s.heap TO a b → It s.heap i1 l1 k1 → It s.heap i2 l2 k2 → Src s.heap l1 xs → Src s.heap l2 ys → xs[k1]? = none ∨ ys[k2]? = none →
    (∀ h', (∀ c o, c ≠ z → c ≠ TO → c ≠ i1 → c ≠ i2 → s.heap.get? c = some o → h'.get? c = some o) → Q none { s with heap := h' }) → wpAny (model prog w) A (pyNext (.ref z)) Q E s
theorem curL : Cur (fun h a l i => h.IsListIter a l i) (fun h l xs => h.IsList l xs) where
  item := wpAny_nextOf_list_item
  stop := wpAny_nextOf_list_end
  itk := fun x e => x.at e
  srk := fun x e => x.at e
  first := wpAny_pyNext_zip_item
  none := wpAny_pyNext_zip_end
theorem curT : Cur (fun h a l i => h.IsTupleIter a l i) (fun h l xs => h.IsTuple l xs) where
  item := RZ.nextOf_tuple_item
  stop := RZ.nextOf_tuple_end
  itk := fun x e => x.at e
  srk := fun ⟨o, ho, r⟩ e => ⟨o, e _ ho, r⟩
  first := RZ.pyNext_zipT_item
  none := RZ.pyNext_zipT_end
section
variable {It : Heap → Addr → Addr → Nat → Prop} {Src : Heap → Addr → Array Value → Prop} {prog : Program} {w : World} {A : Around} {E : Value → Shared → Prop} {s : Shared}
variable {z TI TO T i1 i2 l1 l2 : Addr} {f : Bool} {oT : Obj} {k1 k2 : Nat} {xs ys : Array Value}
/-- a further pair: the one ahead is still in use -/
theorem more {x y : Value} {Q : Option Value → Shared → Prop} (C : Cur It Src) (D : ZipApart z TI TO i1 i2 l1 l2) (hz : IsZipHeld s.heap z TI TO T f) (hT : s.heap.get? T = some oT) (hI : IsPair s.heap TI (.ref i1) (.ref i2))
    (a1 : It s.heap i1 l1 k1) (a2 : It s.heap i2 l2 k2) (m1 : Src s.heap l1 xs) (m2 : Src s.heap l2 ys) (hx : xs[k1]? = some x) (hy : ys[k2]? = some y)
    (q : ∀ h', IsZipHeld h' z TI TO T true → It h' i1 l1 (k1 + 1) → It h' i2 l2 (k2 + 1) → IsPair h' s.heap.objs.size x y → h'.objs.size = s.heap.objs.size + 1 →
      (∀ c o, c ≠ z → c ≠ i1 → c ≠ i2 → s.heap.get? c = some o → h'.get? c = some o) → Q (some (.ref s.heap.objs.size)) { s with heap := h' }) : wpAny (model prog w) A (pyNext (.ref z)) Q E s := by
  have ty : s.TypeIs (.ref z) "zip" := ⟨_, hz, rfl⟩
  unfold pyNext
  refine wpAny_bind (wpAny_attempt (wpAny_callSpecial?_slot (name := Str.ofString "__next__") ty F.slot_zip_next (wpAny_call_entry F.slot_zip_next ty F.entry_zip_next ?_ (F.args_zip_next_1 _))))
  show wpAny _ _ (field (.ref z) 2 >>= _) _ _ _
  refine wpAny_bind (wpAny_field hz rfl (x := .bool false) rfl ?_)
  show wpAny _ _ (field (.ref z) 3 >>= _) _ _ _
  refine wpAny_bind (wpAny_field hz rfl (x := .ref TI) rfl ?_)
  refine wpAny_bind (wpAny_seqItems hI rfl ?_)
  show wpAny _ _ (Builtin.SmallTypes.ownedTupleIsFree (.ref z) >>= _) _ _ _
  refine wpAny_bind (wpAny_tupleHeld_zip hz hT fun g1 z1 e1 => ?_)
  rw [if_neg Bool.false_ne_true]
  refine wpAny_bind ?_
  rw [← Array.forIn_toList]
  simp only [List.forIn_cons, List.forIn_nil]
  refine wpAny_bind (wpAny_bind (wpAny_holding ?_))
  show wpAny _ _ (Builtin.SmallTypes.nextOf (.ref i1) >>= _) _ _ _
  refine wpAny_bind (C.item (s := { s with heap := g1 }) (C.itk a1 fun o => e1.extBut _ _ D.i1z) (C.srk m1 fun o => e1.extBut _ _ D.l1z) hx fun g2 b1 e2 => wpAny_pure (wpAny_pure ?_))
  refine wpAny_bind (wpAny_bind (wpAny_holding ?_))
  show wpAny _ _ (Builtin.SmallTypes.nextOf (.ref i2) >>= _) _ _ _
  refine wpAny_bind (C.item (s := { s with heap := g2 }) (C.itk a2 fun o q => e2.extBut _ _ D.i12.symm (e1.extBut _ _ D.i2z q)) (C.srk m2 fun o q => e2.extBut _ _ D.l2i1 (e1.extBut _ _ D.l2z q)) hy fun g3 b2 e3 => wpAny_pure (wpAny_pure (wpAny_pure ?_)))
  show wpAny _ _ (newTuple [x, y] >>= _) _ _ _
  have sz : g3.objs.size = s.heap.objs.size := by rw [e3.1, e2.1, e1.1]
  have kp : ∀ c o, c ≠ z → c ≠ i1 → c ≠ i2 → s.heap.get? c = some o → g3.get? c = some o := fun c o n0 n1 n2 e => e3.extBut _ _ n2 (e2.extBut _ _ n1 (e1.extBut _ _ n0 e))
  have z3 : IsZipHeld g3 z TI TO T true := e3.extBut _ _ D.i2z.symm (e2.extBut _ _ D.i1z.symm z1)
  refine wpAny_bind (wpAny_newTuple (wpAny_pure ⟨_, rfl, wpAny_pure ?_⟩))
  have pr : IsPair (g3.push { cls := .type "tuple", data := .seq #[x, y] }) g3.objs.size x y := Heap.get?_push_size _ rfl
  have sz4 : (g3.push { cls := .type "tuple", data := .seq #[x, y] }).objs.size = g3.objs.size + 1 := Heap.size_push ..
  rw [sz] at pr sz4
  show Q (some (.ref g3.objs.size)) _
  rw [sz]
  exact q _ (Heap.get?_push_of_some _ z3) (C.itk b1 fun o q => Heap.get?_push_of_some _ (e3.extBut _ _ D.i12 q)) (C.itk b2 fun o q => Heap.get?_push_of_some _ q) pr sz4 fun c o n0 n1 n2 e => Heap.get?_push_of_some _ (kp c o n0 n1 n2 e)
/-- no further pair -/
theorem over {Q : Option Value → Shared → Prop} (C : Cur It Src) (hh : A.handled = Option.none) (D : ZipApart z TI TO i1 i2 l1 l2) (hz : IsZipHeld s.heap z TI TO T f) (hT : s.heap.get? T = some oT) (hI : IsPair s.heap TI (.ref i1) (.ref i2))
    (a1 : It s.heap i1 l1 k1) (m1 : Src s.heap l1 xs) (hx : xs[k1]? = none)
    (q : ∀ h', (∀ c o, c ≠ z → c ≠ i1 → c ≠ i2 → s.heap.get? c = some o → h'.get? c = some o) → Q none { s with heap := h' }) : wpAny (model prog w) A (pyNext (.ref z)) Q E s := by
  have ty : s.TypeIs (.ref z) "zip" := ⟨_, hz, rfl⟩
  unfold pyNext
  refine wpAny_bind (wpAny_attempt (wpAny_callSpecial?_slot (name := Str.ofString "__next__") ty F.slot_zip_next (wpAny_call_entry F.slot_zip_next ty F.entry_zip_next ?_ (F.args_zip_next_1 _))))
  show wpAny _ _ (field (.ref z) 2 >>= _) _ _ _
  refine wpAny_bind (wpAny_field hz rfl (x := .bool false) rfl ?_)
  show wpAny _ _ (field (.ref z) 3 >>= _) _ _ _
  refine wpAny_bind (wpAny_field hz rfl (x := .ref TI) rfl ?_)
  refine wpAny_bind (wpAny_seqItems hI rfl ?_)
  show wpAny _ _ (Builtin.SmallTypes.ownedTupleIsFree (.ref z) >>= _) _ _ _
  refine wpAny_bind (wpAny_tupleHeld_zip hz hT fun g1 z1 e1 => ?_)
  rw [if_neg Bool.false_ne_true]
  refine wpAny_bind ?_
  rw [← Array.forIn_toList]
  simp only [List.forIn_cons, List.forIn_nil]
  refine wpAny_bind (wpAny_bind (wpAny_holding ?_))
  show wpAny _ _ (Builtin.SmallTypes.nextOf (.ref i1) >>= _) _ _ _
  refine wpAny_bind (C.stop (s := { s with heap := g1 }) hh (C.itk a1 fun o => e1.extBut _ _ D.i1z) (C.srk m1 fun o => e1.extBut _ _ D.l1z) hx fun g2 e x2 he => ?_)
  obtain ⟨o, ho, hc⟩ := he
  refine wpAny_bind (wpAny_isInstance (T := "StopIteration") (b := true) ⟨o, ho, hc⟩ isSubtype_stop ?_)
  exact wpAny_pure (q _ fun c o n0 n1 n2 e => x2 _ _ n1 (e1.extBut _ _ n0 e))
end
/-- a list object -/
abbrev lob (acc : Array Value) (c : Nat) : Obj := { cls := .type "list", dict := none, data := .seq acc c, slots := #[] }
theorem gt_ne {a b c : Addr} (h : a < b) (k : b < c) : c ≠ a := Nat.ne_of_gt (Nat.lt_trans h k)
/-- the pairs so far -/
structure Prs (S : Addr) (xs ys : Array Value) (i : Nat) (h : Heap) (acc : Array Value) : Prop where
  sz : acc.size = i
  pr : ∀ (j : Nat) (x y : Value), j < i → xs[j]? = some x → ys[j]? = some y → ∃ T, acc[j]? = some (.ref T) ∧ S < T ∧ IsPair h T x y
  inc : ∀ (j k : Nat) (T T' : Addr), j < k → acc[j]? = some (.ref T) → acc[k]? = some (.ref T') → T < T'
  lt : ∀ (j : Nat) (T : Addr), acc[j]? = some (.ref T) → T < h.objs.size
  ge : ∀ (j : Nat) (T : Addr), acc[j]? = some (.ref T) → S < T
structure Zst (It : Heap → Addr → Addr → Nat → Prop) (Src : Heap → Addr → Array Value → Prop) (h0 : Heap) (S z TI TO i1 i2 l1 l2 : Addr) (xs ys : Array Value) (i : Nat) (h : Heap) (acc : Array Value) : Prop where
  zf : (IsZip h z TI TO .none ∧ ∃ a b, IsPair h TO a b) ∨ ∃ T f oT, IsZipHeld h z TI TO T f ∧ h.get? T = some oT ∧ S < T
  ti : IsPair h TI (.ref i1) (.ref i2)
  a1 : It h i1 l1 i
  a2 : It h i2 l2 i
  m1 : Src h l1 xs
  m2 : Src h l2 ys
  ps : Prs S xs ys i h acc
  kp : ∀ b o, b ≠ z → b ≠ TO → b ≠ i1 → b ≠ i2 → b ≠ S → h0.get? b = some o → h.get? b = some o
theorem loop {It : Heap → Addr → Addr → Nat → Prop} {Src : Heap → Addr → Array Value → Prop} {prog : Program} {w : World} {A : Around} {R : Result → Shared → Prop} {h0 : Heap} {S z TI TO i1 i2 l1 l2 : Addr} {xs ys : Array Value}
    (C : Cur It Src) (hh : A.handled = none) (D : ZipApart z TI TO i1 i2 l1 l2) (u : z < S ∧ TI < S ∧ TO < S ∧ i1 < S ∧ i2 < S ∧ l1 < S ∧ l2 < S) (hl : xs.size = ys.size) (hn : xs.size ≤ 100000) :
    ∀ (k i : Nat) (s : Shared) (acc : Array Value) (c : Nat), xs.size - i = k → i ≤ xs.size → Zst It Src h0 S z TI TO i1 i2 l1 l2 xs ys i s.heap acc → s.heap.get? S = some (lob acc c) →
      (∀ h' acc' c', (∀ b o, b ≠ z → b ≠ TO → b ≠ i1 → b ≠ i2 → b ≠ S → h0.get? b = some o → h'.get? b = some o) → h'.get? S = some (lob acc' c') → Prs S xs ys xs.size h' acc' → R (.ok (.ret .none)) { s with heap := h' }) →
      codeAny (model prog w) A (.builtin "list.extend.loop" ⟨[.ref S, .ref z, .none], []⟩) R s := by
  obtain ⟨uz, uI, uO, u1, u2, u3, u4⟩ := u
  have line : sizeLine = 16777216 := rfl
  intro k
  induction k with
  | zero =>
    intro i s acc c hk hi st hS q
    have ei : i = xs.size := by omega
    subst ei
    refine codeAny_builtin F.entry_extend_loop ?_
    rw [Around.under_plainId F.plain_extend_loop _]
    show wpAny _ A.in1 (pyNext (.ref z) >>= _) _ _ s
    have hend : xs[xs.size]? = none := by simp
    have fin : ∀ h', (∀ c o, c ≠ z → c ≠ TO → c ≠ i1 → c ≠ i2 → s.heap.get? c = some o → h'.get? c = some o) → R (.ok (.ret .none)) { s with heap := h' } := fun h' kp => by
      have hS' : h'.get? S = some (lob acc c) := kp S _ (Nat.ne_of_gt uz) (Nat.ne_of_gt uO) (Nat.ne_of_gt u1) (Nat.ne_of_gt u2) hS
      have big : ∀ T, S < T → T ≠ z ∧ T ≠ TO ∧ T ≠ i1 ∧ T ≠ i2 := fun T h => ⟨gt_ne uz h, gt_ne uO h, gt_ne u1 h, gt_ne u2 h⟩
      refine q h' acc c (fun b o n0 n1 n2 n3 n4 e => kp b o n0 n1 n2 n3 (st.kp b o n0 n1 n2 n3 n4 e)) hS' ⟨st.ps.sz, fun j x y hj hx hy => ?_, st.ps.inc, fun j T e => ?_, st.ps.ge⟩
      · obtain ⟨T, e1, e2, e3⟩ := st.ps.pr j x y hj hx hy
        obtain ⟨n0, n1, n2, n3⟩ := big T e2
        exact ⟨T, e1, e2, kp T _ n0 n1 n2 n3 e3⟩
      · have hjs : j < acc.size := (Array.getElem?_eq_some_iff.mp e).1
        have hj : j < xs.size := by rw [← st.ps.sz]; exact hjs
        obtain ⟨T', e1, e2, e3⟩ := st.ps.pr j xs[j] ys[j] hj (by simp [hj]) (by simp [hl ▸ hj])
        rw [e] at e1
        cases e1
        obtain ⟨n0, n1, n2, n3⟩ := big T e2
        exact Heap.lt_size (kp T _ n0 n1 n2 n3 e3)
    rcases st.zf with ⟨z0, a, b, p0⟩ | ⟨T, f, oT, z0, hT, hlt⟩
    · exact wpAny_bind (C.none (A := A.in1) hh D z0 st.ti p0 st.a1 st.a2 st.m1 st.m2 (.inl hend) fun h' kp => wpAny_pure (fin h' kp))
    · exact wpAny_bind (over (A := A.in1) C hh D z0 hT st.ti st.a1 st.m1 hend fun h' kp => wpAny_pure (fin h' fun c o n0 _ n2 n3 e => kp c o n0 n2 n3 e))
  | succ k ih =>
    intro i s acc c hk hi st hS q
    have hlt : i < xs.size := by omega
    have hlt2 : i < ys.size := by omega
    have gx : xs[i]? = some xs[i] := by simp [hlt]
    have gy : ys[i]? = some ys[i] := by simp [hlt2]
    refine codeAny_builtin F.entry_extend_loop ?_
    rw [Around.under_plainId F.plain_extend_loop _]
    show wpAny _ A.in1 (pyNext (.ref z) >>= _) _ _ s
    have hSlt : S < s.heap.objs.size := Heap.lt_size hS
    have step : ∀ h', (IsZipHeld h' z TI TO s.heap.objs.size false ∨ ∃ T f oT, IsZipHeld h' z TI TO T f ∧ h'.get? T = some oT ∧ S < T) → It h' i1 l1 (i + 1) → It h' i2 l2 (i + 1) → IsPair h' s.heap.objs.size xs[i] ys[i] → h'.objs.size = s.heap.objs.size + 1 →
        (∀ c o, c ≠ z → c ≠ TO → c ≠ i1 → c ≠ i2 → s.heap.get? c = some o → h'.get? c = some o) →
        wpAny (model prog w) A.in1 (updateSeq S (·.push (.ref s.heap.objs.size)) >>= fun _ => again (.builtin "list.extend.loop" ⟨[.ref S, .ref z, .none], []⟩))
          (fun fin s' => match fin with | .done f => R (.ok f) s' | .again c' => c'.quiet = true ∧ codeAny (model prog w) A c' R s') (fun e s' => R (.error e) s') { s with heap := h' } := fun h' zz b1 b2 pr sz kp => by
      have hS' : h'.get? S = some (lob acc c) := kp S _ (Nat.ne_of_gt uz) (Nat.ne_of_gt uO) (Nat.ne_of_gt u1) (Nat.ne_of_gt u2) hS
      have asz := st.ps.sz
      refine wpAny_bind (wpAny_updateSeq (s := { s with heap := h' }) hS' rfl (wpAny_pure ⟨plainId_quiet F.plain_extend_loop _, ?_⟩) (by rw [asz, line]; omega) (by show (acc.push _).size ≤ _; rw [Array.size_push, asz, line]; omega))
      have oth : ∀ b o, b ≠ S → h'.get? b = some o → (h'.update S (Obj.mapSeq (·.push (.ref s.heap.objs.size)))).get? b = some o := fun b o n e => (Heap.get?_update_other _ _ (Ne.symm n)).trans e
      have own : (h'.update S (Obj.mapSeq (·.push (.ref s.heap.objs.size)))).get? S = some (Obj.mapSeq (·.push (.ref s.heap.objs.size)) (lob acc c)) := Heap.get?_update_self _ hS' rfl
      have usz : (h'.update S (Obj.mapSeq (·.push (.ref s.heap.objs.size)))).objs.size = h'.objs.size := (Heap.SameBut.update ..).1
      refine ih (i + 1) { s with heap := h'.update S (Obj.mapSeq (·.push (.ref s.heap.objs.size))) } (acc.push (.ref s.heap.objs.size)) _ (by omega) (by omega) ?_ own (fun h2 acc' c' k2 e2 p2 => q h2 acc' c' k2 e2 p2)
      have nS : ∀ {b : Addr}, b < S → b ≠ S := fun h => Nat.ne_of_lt h
      have at1 : ∀ {j : Nat} {T : Addr}, (acc.push (.ref s.heap.objs.size))[j]? = some (.ref T) → (j < i ∧ acc[j]? = some (.ref T)) ∨ (j = i ∧ T = s.heap.objs.size) := fun {j T} e => by
        rw [Array.getElem?_push] at e
        by_cases hj : j = acc.size
        · rw [if_pos hj] at e
          cases e
          exact .inr ⟨by omega, rfl⟩
        · rw [if_neg hj] at e
          have := (Array.getElem?_eq_some_iff.mp e).1
          exact .inl ⟨by omega, e⟩
      refine ⟨?_, oth _ _ (nS uI) (kp _ _ D.TIz D.TITO D.TIi1 D.TIi2 st.ti), C.itk b1 fun o e => oth _ o (nS u1) e, C.itk b2 fun o e => oth _ o (nS u2) e,
        C.srk st.m1 fun o e => oth _ o (nS u3) (kp _ o D.l1z D.l1TO D.l1i1 D.l1i2 e), C.srk st.m2 fun o e => oth _ o (nS u4) (kp _ o D.l2z D.l2TO D.l2i1 D.l2i2 e), ⟨by rw [Array.size_push, asz], fun j x y hj hx hy => ?_, fun j k T T' hjk e1 e2 => ?_, fun j T e => ?_, fun j T e => ?_⟩,
        fun b o n0 n1 n2 n3 n4 e => oth b o n4 (kp b o n0 n1 n2 n3 (st.kp b o n0 n1 n2 n3 n4 e))⟩
      · rcases zz with zz | ⟨T, f, oT, zz, hT, hgt⟩
        · exact .inr ⟨_, false, _, oth _ _ (nS uz) zz, oth _ _ (Nat.ne_of_gt hSlt) pr, hSlt⟩
        · exact .inr ⟨T, f, oT, oth _ _ (nS uz) zz, oth _ _ (Nat.ne_of_gt hgt) hT, hgt⟩
      · rcases Nat.lt_or_ge j i with h | h
        · obtain ⟨T, e1, e2, e3⟩ := st.ps.pr j x y h hx hy
          refine ⟨T, by rw [Array.getElem?_push, if_neg (by omega)]; exact e1, e2, oth _ _ (Nat.ne_of_gt e2) (kp T _ (gt_ne uz e2) (gt_ne uO e2) (gt_ne u1 e2) (gt_ne u2 e2) e3)⟩
        · obtain rfl : j = i := by omega
          rw [gx] at hx
          rw [gy] at hy
          cases hx
          cases hy
          exact ⟨s.heap.objs.size, by rw [Array.getElem?_push, if_pos asz.symm], hSlt, oth _ _ (Nat.ne_of_gt hSlt) pr⟩
      · rcases at1 e1 with ⟨h1, q1⟩ | ⟨h1, q1⟩ <;> rcases at1 e2 with ⟨h2, q2⟩ | ⟨h2, q2⟩
        · exact st.ps.inc j k T T' hjk q1 q2
        · rw [q2]; exact st.ps.lt j T q1
        · exact absurd (Nat.lt_trans hjk h2) (by rw [h1]; exact Nat.lt_irrefl _)
        · exact absurd hjk (by rw [h1, h2]; exact Nat.lt_irrefl _)
      · rw [usz, sz]
        rcases at1 e with ⟨h1, q1⟩ | ⟨h1, q1⟩
        · exact Nat.lt_succ_of_lt (st.ps.lt j T q1)
        · rw [q1]; exact Nat.lt_succ_self _
      · rcases at1 e with ⟨h1, q1⟩ | ⟨h1, q1⟩
        · exact st.ps.ge j T q1
        · rw [q1]; exact hSlt
    rcases st.zf with ⟨z0, a, b, p0⟩ | ⟨T, f, oT, z0, hT, hgt⟩
    · exact wpAny_bind (C.first (A := A.in1) D z0 st.ti p0 st.a1 st.a2 st.m1 st.m2 gx gy fun h' zz pO b1 b2 pr sz kp => step h' (.inl zz) b1 b2 pr sz kp)
    · exact wpAny_bind (more (A := A.in1) C D z0 hT st.ti st.a1 st.a2 st.m1 st.m2 gx gy fun h' zz b1 b2 pr sz kp => step h' (.inr ⟨T, true, oT, zz, kp T _ (gt_ne uz hgt) (gt_ne u1 hgt) (gt_ne u2 hgt) hT, hgt⟩) b1 b2 pr sz fun c o n0 _ n2 n3 e => kp c o n0 n2 n3 e)
theorem zip_no_len : typeLookup (.type "zip") "__len__" = pure none := am_miss_of_fast (by decide +kernel)
theorem zip_no_hint : typeLookup (.type "zip") "__length_hint__" = pure none := am_miss_of_fast (by decide +kernel)
/-- list(z) of a zip that nobody has walked -/
theorem call_list_zip {It : Heap → Addr → Addr → Nat → Prop} {Src : Heap → Addr → Array Value → Prop} {prog : Program} {w : World} {A : Around} {E Q : Value → Shared → Prop} {s : Shared} {z TI TO i1 i2 l1 l2 : Addr} {xs ys : Array Value} {a b : Value}
    (C : Cur It Src) (hh : A.handled = none) (D : ZipApart z TI TO i1 i2 l1 l2) (hz : IsZip s.heap z TI TO .none) (hI : IsPair s.heap TI (.ref i1) (.ref i2)) (hO : IsPair s.heap TO a b)
    (a1 : It s.heap i1 l1 0) (a2 : It s.heap i2 l2 0) (m1 : Src s.heap l1 xs) (m2 : Src s.heap l2 ys) (u : z < s.heap.objs.size ∧ TI < s.heap.objs.size ∧ TO < s.heap.objs.size ∧ i1 < s.heap.objs.size ∧ i2 < s.heap.objs.size ∧ l1 < s.heap.objs.size ∧ l2 < s.heap.objs.size)
    (hl : xs.size = ys.size) (hn : xs.size ≤ 100000)
    (q : ∀ h' acc c, (∀ b o, b ≠ z → b ≠ TO → b ≠ i1 → b ≠ i2 → s.heap.get? b = some o → h'.get? b = some o) → h'.get? s.heap.objs.size = some (lob acc c) → Prs s.heap.objs.size xs ys xs.size h' acc → Q (.ref s.heap.objs.size) { s with heap := h' }) :
    wpAny (model prog w) A (call (.type "list") [.ref z]) Q E s := by
  generalize hSz : s.heap.objs.size = S at *
  have nz : S ≠ z := Nat.ne_of_gt u.1
  refine callType_codes (Q₁ := fun obj t => obj = .ref S ∧ t = { s with heap := s.heap.push { cls := .type "list", data := .seq #[] } }) F.called_list (F.typeCall_list_1 _) F.entry_list_init (code_list_new _ ⟨by rw [hSz], rfl⟩) fun obj t ht => ?_
  obtain ⟨rfl, rfl⟩ := ht
  have g0 : (s.heap.push { cls := .type "list", data := .seq #[] }).get? S = some { cls := .type "list", data := .seq #[] } := by rw [← hSz]; exact Heap.get?_push_size _ rfl
  refine ⟨⟨_, g0, rfl⟩, F.args_list_init_2 _ _, ?_⟩
  show wpAny _ A.in1.in1 (do let old ← Builtin.List.listItems (.ref S); Builtin.List.listUpdate (.ref S) (fun _ => #[]); letGo old.toList.reverse; Builtin.List.listExtendWith (.ref S) (.ref z) .none) _ _ _
  refine wpAny_bind ?_
  unfold Builtin.List.listItems
  refine wpAny_bind (wpAny_seqItems g0 rfl (wpAny_pure ?_))
  show wpAny _ A.in1.in1 (updateSeq S (fun _ => #[]) >>= fun _ => letGo (#[] : Array Value).toList.reverse >>= fun _ => Builtin.List.listExtendWith (.ref S) (.ref z) .none) _ _ _
  refine wpAny_bind (wpAny_updateSeq g0 rfl ?_)
  have g1 := Heap.get?_update_self (Obj.mapSeq (fun _ => (#[] : Array Value))) g0 rfl
  refine wpAny_bind (wpAny_letGo ?_)
  unfold Builtin.List.listExtendWith
  have up : ∀ (h : Heap) (f : Obj → Obj), (∀ b o, b ≠ S → s.heap.get? b = some o → h.get? b = some o) → ∀ b o, b ≠ S → s.heap.get? b = some o → (h.update S f).get? b = some o := fun h f k b o n e => (Heap.get?_update_other _ _ (Ne.symm n)).trans (k b o n e)
  have k1 : ∀ b o, b ≠ S → s.heap.get? b = some o → (s.heap.push { cls := .type "list", data := .seq #[] }).get? b = some o := fun b o _ e => Heap.get?_push_of_some _ e
  have k2 := up _ (Obj.mapSeq (fun _ => (#[] : Array Value))) k1
  have zty : ∀ {h : Heap}, (∀ b o, b ≠ S → s.heap.get? b = some o → h.get? b = some o) → IsZip h z TI TO .none := fun {h} k => k z _ (Ne.symm nz) hz
  refine wpAny_bind (wpAny_typeOf (T := "zip") ⟨_, zty k2, rfl⟩ ?_)
  have h1 : Builtin.List.listSameRef (.ref S) (.ref z) = false := by simp [Builtin.List.listSameRef, nz]
  have h2 : (Value.type "zip" == Value.type "list") = false := by decide
  have h3 : (Value.type "zip" == Value.type "tuple") = false := by decide
  simp only [h1, h2, h3, Bool.or_false, Bool.false_eq_true, if_false]
  refine wpAny_bind (wpAny_pyIter_zip (s := { s with heap := _ }) (zty k2) ?_)
  refine wpAny_bind (wpAny_holding ?_)
  unfold Builtin.List.listLengthHint
  refine wpAny_bind (wpAny_specialOf (T := "zip") ⟨_, zty k2, rfl⟩ zip_no_len ?_)
  show wpAny _ A.in1.in1 (specialOf (Value.ref z) (Str.ofString "__length_hint__") >>= _) _ _ _
  refine wpAny_bind (wpAny_specialOf (T := "zip") ⟨_, zty k2, rfl⟩ zip_no_hint ?_)
  refine wpAny_pure ?_
  show wpAny _ A.in1.in1 (rule "list.extend.makes-room" >>= fun _ => Builtin.List.listTouch (.ref S) >>= fun _ => again (.builtin "list.extend.loop" ⟨[.ref S, .ref z, .none], []⟩)) _ _ _
  refine wpAny_bind (wpAny_rule ?_)
  refine wpAny_bind ?_
  show wpAny _ A.in1.in1 (updateSeq S (·.push .none) >>= fun _ => updateSeq S (·.pop)) _ _ _
  refine wpAny_bind (wpAny_updateSeq g1 rfl ?_)
  have g2 := Heap.get?_update_self (Obj.mapSeq (·.push Value.none)) g1 rfl
  refine wpAny_updateSeq (hz := by seq_fits) g2 rfl ?_
  have g3 := Heap.get?_update_self (Obj.mapSeq (·.pop)) g2 rfl
  have k4 := up _ (Obj.mapSeq (·.pop)) (up _ (Obj.mapSeq (·.push Value.none)) k2)
  refine wpAny_pure ⟨plainId_quiet F.plain_extend_loop _, ?_⟩
  have nS : ∀ {b : Addr}, b < S → b ≠ S := fun h => Nat.ne_of_lt h
  obtain ⟨uz, uI, uO, u1, u2, u3, u4⟩ := id u
  refine loop (A := A.in1) (h0 := s.heap) C hh D u hl hn xs.size 0 _ #[] _ (by omega) (Nat.zero_le _) ⟨.inl ⟨zty k4, a, b, k4 _ _ (nS uO) hO⟩, k4 _ _ (nS uI) hI, C.itk a1 fun o e => k4 _ o (nS u1) e, C.itk a2 fun o e => k4 _ o (nS u2) e, C.srk m1 fun o e => k4 _ o (nS u3) e, C.srk m2 fun o e => k4 _ o (nS u4) e,
    ⟨rfl, fun j _ _ hj => absurd hj (Nat.not_lt_zero _), fun _ _ _ _ _ e => by simp at e, fun _ _ e => by simp at e, fun _ _ e => by simp at e⟩, fun b o _ _ _ _ n e => k4 b o n e⟩ g3 fun h' acc' c' kp hS' ps => ⟨rfl, ?_⟩
  exact q h' acc' c' (fun b o n0 n1 n2 n3 e => kp b o n0 n1 n2 n3 (Nat.ne_of_lt (by rw [← hSz]; exact Heap.lt_size e)) e) hS' ps
/-- what list(zip(..)) holds -/
def Zs (H1 H2 : Hp) (xs ys zs : List V) : Prop := zs.length = xs.length ∧ ∀ (i : Nat) (x y : V), xs[i]? = some x → ys[i]? = some y → ∃ T, zs[i]? = some (.ref T) ∧ H1 T = none ∧ H2 T = some (.tup [x, y])
def tLz (K : PySem.W.Frag) (ta : TA) : TE := fun σ H Q => ta σ H fun vs H1 => ∃ (a b : Addr) (xs ys : List V), vs = [.ref a, .ref b] ∧ ((SqL K H1 a xs ∧ SqL K H1 b ys) ∨ (SqT K H1 a xs ∧ SqT K H1 b ys)) ∧ xs.length = ys.length ∧ xs.length ≤ 100000 ∧
  ∀ (d : Addr) (zs : List V) (H2 : Hp), L2.Same H1 H2 → H1 d = none → H2 d = some (.lst zs) → Zs H1 H2 xs ys zs → Q (.ref d) H2
theorem refs_of : ∀ l : List Value, (∀ v ∈ l, ∃ T, v = .ref T) → ∃ zs : List V, Vals zs l ∧ ∀ (j : Nat) (T : Addr), l[j]? = some (.ref T) → zs[j]? = some (.ref T)
  | [], _ => ⟨[], .nil, fun j T e => by simp at e⟩
  | v :: l, h => by
    obtain ⟨T, rfl⟩ := h v (List.mem_cons_self ..)
    obtain ⟨zs, h1, h2⟩ := refs_of l fun v hv => h v (List.mem_cons_of_mem _ hv)
    refine ⟨.ref T :: zs, .cons rfl h1, fun j U e => ?_⟩
    cases j with
    | zero => simp at e; subst e; rfl
    | succ j => simp at e; simpa using h2 j U e
theorem grow {P : Program} {w : World} {H1 : Hp} {h3 : Heap} {acc : Array Value} {S : Addr} {xs ys : List V} {us vs : List Value} (rx : Vals xs us) (ry : Vals ys vs) (hl : xs.length = ys.length) (ps : Prs S us.toArray vs.toArray us.length h3 acc)
    (fresh : ∀ T, S < T → H1 T = none) (old : HOk P w H1 h3) : ∀ m, m ≤ xs.length → ∃ H2 : Hp, L2.Same H1 H2 ∧ (∀ (j : Nat) (x y : V) (T : Addr), j < m → xs[j]? = some x → ys[j]? = some y → acc[j]? = some (.ref T) → H2 T = some (.tup [x, y])) ∧
      (∀ b, H1 b = none → (∀ j, j < m → acc[j]? ≠ some (.ref b)) → H2 b = none) ∧ HOk P w H2 h3 := by
  intro m
  induction m with
  | zero => exact fun _ => ⟨H1, L2.Same.refl H1, fun j _ _ _ h => absurd h (Nat.not_lt_zero _), fun b e _ => e, old⟩
  | succ m ih =>
    intro hm
    obtain ⟨H2, s2, g2, f2, o2⟩ := ih (by omega)
    have mx : xs[m]? = some xs[m] := List.getElem?_eq_getElem (by omega)
    have my : ys[m]? = some ys[m] := List.getElem?_eq_getElem (by omega)
    obtain ⟨u, hu, ru⟩ := rx.get mx
    obtain ⟨v, hv, rv⟩ := ry.get my
    obtain ⟨T, eT, gT, pT⟩ := ps.pr m u v (by rw [← rx.length]; omega) (by simpa using hu) (by simpa using hv)
    have nT : H2 T = none := f2 T (fresh T gT) fun j hj e => absurd (ps.inc j m T T hj e eT) (Nat.lt_irrefl _)
    refine ⟨upd H2 T (.tup [xs[m], ys[m]]), s2.trans (GL.Same.new' nT), fun j x y U hj hx hy e => ?_, fun b e hb => ?_, o2.laidN (fun _ _ q => q) nT ⟨by show 2 ≤ sizeLine; decide, [u, v], .cons ru (.cons rv .nil), ⟨_, pT, rfl, _, rfl⟩⟩⟩
    · rcases Nat.lt_or_ge j m with h | h
      · rw [upd_ne (Nat.ne_of_lt (ps.inc j m U T h e eT))]
        exact g2 j x y U h hx hy e
      · obtain rfl : j = m := by omega
        rw [mx] at hx
        rw [my] at hy
        rw [eT] at e
        cases hx
        cases hy
        cases e
        exact upd_same
    · have nb : b ≠ T := fun z => hb m (Nat.lt_succ_self m) (by rw [z]; exact eT)
      rw [upd_ne nb]
      exact f2 b e fun j hj => hb j (by omega)
theorem pe_listZip {X : Cx} {e e2 : Expr} {ta : TA} {p p' pos pos' : Pos} (hc : X.calm = true) (hg : Gl X "zip") (hm : X.mg "zip" = none) (hg' : Gl X "list") (hm' : X.mg "list" = none) (ha : PA X [e, e2] ta)
    (hs : starEach [e, e2] X.env = (false, eval e X.env) :: starEach [e2] X.env := by rfl) (hpl : (backTo pos (starEach [e2] X.env)).any (·.1) = false := by rfl)
    (hs' : starEach [Expr.Call (.Name "zip" p) [e, e2] [] pos] X.env = (false, eval (Expr.Call (.Name "zip" p) [e, e2] [] pos) X.env) :: starEach [] X.env := by rfl) :
    PE X (.Call (.Name "list" p') [.Call (.Name "zip" p) [e, e2] [] pos] [] pos') (tLz X.K ta) := by
  refine ⟨fun pins s σ H Q I h => ?_⟩
  refine wpAny_Call_Name_kw (ld_blt I hg' hm' PyProof.Rows.boot_list ?_)
  refine PyProof.Rows.callWith_type1 ?_ hs' rfl
  rw [hs']
  show wpAny _ _ (spliced ((false, eval (Expr.Call (.Name "zip" p) [e, e2] [] pos) X.env) :: backTo pos' (starEach [] X.env))) _ _ s
  refine Calls.spliced_cons ?_
  refine wpAny_Call_Name_kw (ld_blt I hg hm PyProof.Rows.boot_zip (PyProof.Rows.callWith_type1 (thn (ha.run pos pins s σ H _ I h) fun us s1 ⟨ws, H1, I1, r1, q1⟩ => ?_) hs hpl))
  obtain ⟨a, b, xs, ys, ex, q1⟩ := q1
  subst ex
  obtain ⟨sq, hl, hn, q⟩ := q1
  cases r1 with
  | cons r rr =>
    cases rr with
    | cons r' rr =>
      cases rr
      cases r
      cases r'
      have main : ∀ {It : Heap → Addr → Addr → Nat → Prop} {Src : Heap → Addr → Array Value → Prop} {us vs : List Value} (C : Cur It Src) (rx : Vals xs us) (ry : Vals ys vs) (m1 : Src s1.heap a us.toArray) (m2 : Src s1.heap b vs.toArray) (la : a < s1.heap.objs.size) (lb : b < s1.heap.objs.size) (h' : Heap),
          IsZip h' (s1.heap.objs.size + 4) (s1.heap.objs.size + 2) (s1.heap.objs.size + 3) .none → IsPair h' (s1.heap.objs.size + 2) (.ref s1.heap.objs.size) (.ref (s1.heap.objs.size + 1)) → IsPair h' (s1.heap.objs.size + 3) .none .none →
          It h' s1.heap.objs.size a 0 → It h' (s1.heap.objs.size + 1) b 0 → h'.objs.size = s1.heap.objs.size + 5 → (∀ c o, s1.heap.get? c = some o → h'.get? c = some o) →
          wpAny (model X.prog X.w) X.A (spliced (backTo pos' (starEach [] X.env))) (fun us2 s2 => wpAny (model X.prog X.w) X.A (call (.type "list") (Value.ref (s1.heap.objs.size + 4) :: us2)) (EP X pins σ Q) X.xe s2) X.xe { s1 with heap := h' } := by
        intro It Src us vs C rx ry m1 m2 la lb h' hz hI hO a1 a2 sz kp
        refine Calls.spliced_nil ?_
        have rl := rx.length
        have rl2 := ry.length
        refine call_list_zip (s := { s1 with heap := h' }) C (I.ok.hd hc) (PySem.W.ktu_apart s1.heap.objs.size a b la lb) hz hI hO a1 a2 (C.srk m1 fun o => kp _ o) (C.srk m2 fun o => kp _ o) ?_ (by simp; omega) (by simp; omega) fun h3 acc c kp3 hS ps => ?_
        · show _ < h'.objs.size ∧ _ < h'.objs.size ∧ _ < h'.objs.size ∧ _ < h'.objs.size ∧ _ < h'.objs.size ∧ _ < h'.objs.size ∧ _ < h'.objs.size
          rw [sz]
          refine ⟨?_, ?_, ?_, ?_, ?_, Nat.lt_of_lt_of_le la (Nat.le_add_right _ _), Nat.lt_of_lt_of_le lb (Nat.le_add_right _ _)⟩
          · exact Nat.lt_succ_self _
          · exact Nat.add_lt_add_left (by decide) _
          · exact Nat.add_lt_add_left (by decide) _
          · exact Nat.lt_add_of_pos_right (by decide)
          · exact Nat.add_lt_add_left (by decide) _
        · have ge : s1.heap.objs.size ≤ h'.objs.size := by rw [sz]; exact Nat.le_add_right _ _
          have k1 : ∀ b o, s1.heap.get? b = some o → h3.get? b = some o := fun b o eb => by
            have lb := Heap.lt_size eb
            exact kp3 b o (Nat.ne_of_lt (Nat.lt_of_lt_of_le lb (Nat.le_add_right _ _))) (Nat.ne_of_lt (Nat.lt_of_lt_of_le lb (Nat.le_add_right _ _))) (Nat.ne_of_lt lb) (Nat.ne_of_lt (Nat.lt_of_lt_of_le lb (Nat.le_add_right _ _))) (kp b o eb)
          have ps' : Prs h'.objs.size us.toArray vs.toArray us.length h3 acc := by
            have := ps
            rw [List.size_toArray] at this
            exact this
          obtain ⟨H2, s2, g2, f2, o2⟩ := grow (P := X.prog) (w := X.w) rx ry hl ps' (fun T hT => I1.hok.fresh (Nat.le_trans ge (Nat.le_of_lt hT))) (I1.hok.kept k1) xs.length (Nat.le_refl _)
          have refs : ∀ v ∈ acc.toList, ∃ T, v = Value.ref T := fun v hv => by
            obtain ⟨j, hj, e⟩ := List.getElem_of_mem hv
            have hj' : j < us.length := by rw [← ps'.sz]; simpa using hj
            obtain ⟨T, eT, _, _⟩ := ps'.pr j us[j] (vs[j]'(by omega)) hj' (by simp [hj']) (by simp)
            have e2 : acc.toList[j]? = some v := by rw [List.getElem?_eq_getElem hj, e]
            rw [Array.getElem?_toList] at e2
            rw [eT] at e2
            exact ⟨T, (Option.some.inj e2).symm⟩
          obtain ⟨zs, hv, hz2⟩ := refs_of acc.toList refs
          have zl : zs.length = xs.length := by rw [hv.length, Array.length_toList, ps'.sz, rl]
          have nS1 : H1 h'.objs.size = none := I1.hok.fresh ge
          have nS : H2 h'.objs.size = none := f2 _ nS1 fun j _ e => absurd (ps'.ge j _ e) (Nat.lt_irrefl _)
          have s3 : L2.Same H1 (upd H2 h'.objs.size (.lst zs)) := s2.trans (GL.Same.new' nS)
          have ok3 : HOk X.prog X.w (upd H2 h'.objs.size (.lst zs)) h3 := o2.laidN (fun _ _ q => q) nS ⟨by rw [zl]; exact Nat.le_trans hn (by decide), acc.toList, c, hv, hS⟩
          refine ⟨.ref h'.objs.size, upd H2 h'.objs.size (.lst zs), I1.un (t' := s1.toks) ⟨fun b o eb _ _ _ => k1 b o eb, fun b o eb _ _ _ => ⟨o.slots, k1 b o eb⟩, fun b o eb nb _ => ?_, fun b o eb _ => ⟨o, k1 b o eb⟩, fun b ws e => s3 _ _ e, fun b o u e => s3 _ _ e, fun b ps e => ⟨#[], by rw [s3 _ _ e]; simp⟩⟩ ok3, rfl, ?_⟩
          · have lb := Nat.lt_of_lt_of_le (Heap.lt_size eb) ge
            rw [upd_ne (Nat.ne_of_lt lb)]
            exact f2 b nb fun j _ e => absurd (Nat.lt_trans (ps'.ge j _ e) lb) (Nat.lt_irrefl _)
          · refine q _ zs _ s3 nS1 upd_same ⟨zl, fun i x y hx hy => ?_⟩
            have hi : i < xs.length := (List.getElem?_eq_some_iff.mp hx).1
            obtain ⟨u, hu, _⟩ := rx.get hx
            obtain ⟨v, hv2, _⟩ := ry.get hy
            obtain ⟨T, eT, gT, _⟩ := ps'.pr i u v (by omega) (by simpa using hu) (by simpa using hv2)
            refine ⟨T, hz2 i T (by rw [Array.getElem?_toList]; exact eT), I1.hok.fresh (Nat.le_trans ge (Nat.le_of_lt gT)), ?_⟩
            rw [upd_ne (Nat.ne_of_gt gT)]
            exact g2 i x y T hi hx hy eT
      rcases sq with ⟨qa, qb⟩ | ⟨qa, qb⟩
      · obtain ⟨us, rv, p1, _⟩ := I1.list qa
        obtain ⟨vs, rv2, p2, _⟩ := I1.list qb
        exact call_zip_2 p1.isList p2.isList fun h' hz hI hO a1 a2 sz kp => main curL rv rv2 p1.isList p2.isList p1.lt p2.lt h' hz hI hO a1 a2 sz kp
      · obtain ⟨us, rv, p1, _⟩ := I1.tuple qa
        obtain ⟨vs, rv2, p2, _⟩ := I1.tuple qb
        have la : a < s1.heap.objs.size := let ⟨_, ho, _⟩ := id p1; Heap.lt_size ho
        have lb : b < s1.heap.objs.size := let ⟨_, ho, _⟩ := id p2; Heap.lt_size ho
        exact RZ.call_zipT (show s1.heap.IsTuple a us.toArray from p1) (show s1.heap.IsTuple b vs.toArray from p2) fun h' hz hI hO a1 a2 sz kp => main curT rv rv2 p1 p2 la lb h' hz hI hO a1 a2 sz kp
end ZL

namespace LW
open PySem PySem.Spec PyProof.Rows L2 GL
section
variable {P : Program} {w : World} {K : PySem.W.Frag} {mg : Str → Option Value} {base : Heap}

theorem pi_or {X : Cx} {tg iter : Expr} {w1 w2 : TI} (h1 : PI X tg iter w1) (h2 : PI X tg iter w2) : PI X tg iter (fun σ H R => w1 σ H R ∨ w2 σ H R) := ⟨fun pins s σ H R I h => h.elim (h1.run pins s σ H R I) (h2.run pins s σ H R I)⟩
/-- a list or a tuple -/
def Seq (K : PySem.W.Frag) (H : Hp) (a : Addr) (xs : List V) : Prop := SqL K H a xs ∨ SqT K H a xs
theorem Seq.same {K : PySem.W.Frag} {H H' : Hp} {a : Addr} {xs : List V} (h : Seq K H a xs) (s : Same H H') : Seq K H' a xs := h.elim (fun z => .inl (s.seq z)) fun z => .inr (sqt_same s z)
theorem Sq.seq {K : PySem.W.Frag} {H : Hp} {a : Addr} {xs : List V} (h : Sq H a xs) : Seq K H a xs := h.elim (fun z => .inl (SqL.of z)) fun z => .inr (SqT.of z)
/-- one turn of a comprehension: what is stored in its names, then its item -/
def Turn1 (g : TG) (te : TE) (vs : List Nat) (σ : L2.St) (x : V) (H : Hp) (R : V → Hp → Prop) : Prop := ∀ K' : L2.St → Hp → Prop, (∀ σ2, wipe σ2 vs = wipe σ vs → EM te σ2 H R → K' σ2 H) → g x (wipe σ vs) H K'
theorem turn_name {te : TE} {vs : List Nat} {σ : L2.St} {x : V} {H : Hp} {R : V → Hp → Prop} {j : Nat} (hw : wipe ((wipe σ vs).set j (some x)) vs = wipe σ vs) (h : EM te ((wipe σ vs).set j (some x)) H R) : Turn1 (gName j) te vs σ x H R := fun K' k => k _ hw h
theorem turn_two {K : PySem.W.Frag} {te : TE} {vs : List Nat} {σ : L2.St} {x y : V} {t : Addr} {H : Hp} {R : V → Hp → Prop} {i j : Nat} (ht : SqT K H t [x, y]) (hw : wipe (((wipe σ vs).set i (some x)).set j (some y)) vs = wipe σ vs) (h : EM te (((wipe σ vs).set i (some x)).set j (some y)) H R) :
    Turn1 (gTup K 2 (gCons (gName i) (gCons (gName j) gNil))) te vs σ (.ref t) H R := fun K' k => g_two ht (k _ hw h)
theorem em_val {te : TE} {σ : L2.St} {H : Hp} {v : V} {R : V → Hp → Prop} (h : Val te σ H v) (r : R v H) : EM te σ H R := fun Q q => h _ (q v H (Same.refl H) r)
section
variable {σ : L2.St} {H : Hp} {g : TG} {te ti : TE} {vs : List Nat} {Q : VK} {a : Addr} {xs : List V} {R : Nat → V → Hp → Prop}
/-- what the comprehension's list holds -/
def LcP (R : Nat → V → Hp → Prop) (H : Hp) (D : Addr) (i : Nat) (H' : Hp) : Prop := ∃ ys, Same H H' ∧ H' D = some (.lst ys) ∧ H D = none ∧ Rows R 0 i ys H'
/-- a change of a list leaves it -/
def Off (R : Nat → V → Hp → Prop) : Prop := ∀ k v H D ys zs, R k v H → H D = some (.lst ys) → R k v (upd H D (.lst zs))
theorem Run.off (of : Off R) {H : Hp} {D : Addr} {ws zs : List V} (e : H D = some (.lst ws)) : ∀ {k : Nat} {ys : List V}, Run R k ys H → Run R k ys (upd H D (.lst zs))
  | _, [], _ => trivial
  | _, _ :: _, ⟨x, y⟩ => ⟨of _ _ _ _ _ _ x e, Run.off of e y⟩
theorem lc_step (st : ∀ k, Stays (R k)) (of : Off R) {x : V} {i : Nat} {D : Addr} {H1 : Hp} (p : LcP R H D i H1) (hn : i < 10000) (ht : Same H H1 → Turn1 g te vs σ x H1 (R i)) :
    g x (wipe σ vs) H1 fun σ2 H2 => wipe σ2 vs = wipe σ vs ∧ tYes σ2 H2 fun b H3 => if b = true then te σ2 H3 fun y H4 => ∃ acc, H4 D = some (.lst acc) ∧ acc.length < sizeLine ∧ LcP R H D (i + 1) (upd H4 D (.lst (acc ++ [y]))) else LcP R H D (i + 1) H3 := by
  obtain ⟨ys, s, e, nD, r⟩ := p
  refine ht s _ fun σ2 hw em => ⟨hw, ?_⟩
  show (if true = true then te _ _ _ else LcP R H D (i + 1) H1)
  rw [if_pos rfl]
  refine em _ fun v H4 s4 rv => ⟨ys, s4 _ _ e, by rw [r.2]; exact Nat.lt_of_lt_of_le hn (by decide), ys ++ [v], ?_, upd_same, nD, ?_⟩
  · intro b o z
    rw [upd_ne (ne_of_none z nD)]
    exact s4 _ _ (s b o z)
  · have r4 := Rows.stays st ys H1 H4 s4 r
    refine ⟨Run.off of (s4 _ _ e) (Run.app r4.1 ⟨?_, trivial⟩), by rw [List.length_append, r4.2]; rfl⟩
    rw [r4.2, Nat.zero_add]
    exact rv
/-- [e for .. in xs] -/
theorem l_lcS (st : ∀ k, Stays (R k)) (of : Off R) (h : Val ti σ H (.ref a)) (hx : Seq K H a xs) (hn : xs.length ≤ 10000) (hs : ∀ i x H1, xs[i]? = some x → Same H H1 → Turn1 g te vs σ x H1 (R i))
    (q : ∀ p ys H', Same H H' → H' p = some (.lst ys) → Rows R 0 xs.length ys H' → Q (.ref p) H') : tLc (fun σ H R => iList K ti σ H R ∨ iTup K ti σ H R) g tYes te vs σ H Q := by
  have start : ∀ D, H D = none → LcP R H D 0 (upd H D (.lst [])) := fun D hD => ⟨[], Same.new' hD, upd_same, hD, trivial, rfl⟩
  have fin : ∀ D H1, LcP R H D xs.length H1 → Q (.ref D) H1 := fun D H1 ⟨ys, s, e, _, r⟩ => q D ys H1 s e r
  have step : ∀ D i x H1, xs[i]? = some x → LcP R H D i H1 → _ := fun D i x H1 e p => lc_step (g := g) (te := te) (vs := vs) (σ := σ) st of p (by
    have := (List.getElem?_eq_some_iff.mp e).1
    omega) (hs i x H1 e)
  rcases hx with hx | hx
  · exact .inl (h _ ⟨a, rfl, ⟨xs, hx⟩, fun D hD => lc_list (K := K) (a := a) (xs := xs) (LcP R H D) (start D hD) (fun i H1 _ p => p.choose_spec.1.seq hx) (step D) (fun H1 p => fin D H1 p)⟩)
  · exact .inr (h _ ⟨a, rfl, ⟨xs, hx⟩, fun D hD => lc_tup (K := K) (a := a) (xs := xs) (LcP R H D) (start D hD) (fun i H1 _ p => sqt_same p.choose_spec.1 hx) (step D) (fun H1 p => fin D H1 p)⟩)
theorem l_lcL (st : ∀ k, Stays (R k)) (of : Off R) (h : Val ti σ H (.ref a)) (hx : SqL K H a xs) (hn : xs.length ≤ 10000) (hs : ∀ i x H1, xs[i]? = some x → Same H H1 → Turn1 g te vs σ x H1 (R i))
    (q : ∀ p ys H', Same H H' → H' p = some (.lst ys) → Rows R 0 xs.length ys H' → Q (.ref p) H') : tLc (iList K ti) g tYes te vs σ H Q :=
  h _ ⟨a, rfl, ⟨xs, hx⟩, fun D hD => lc_list (K := K) (a := a) (xs := xs) (LcP R H D) ⟨[], Same.new' hD, upd_same, hD, trivial, rfl⟩ (fun i H1 _ p => p.choose_spec.1.seq hx) (fun i x H1 e p => lc_step st of p (by
    have := (List.getElem?_eq_some_iff.mp e).1
    omega) (hs i x H1 e)) (fun H1 ⟨ys, s, e, _, r⟩ => q D ys H1 s e r)⟩
theorem l_lcT (st : ∀ k, Stays (R k)) (of : Off R) (h : Val ti σ H (.ref a)) (hx : SqT K H a xs) (hn : xs.length ≤ 10000) (hs : ∀ i x H1, xs[i]? = some x → Same H H1 → Turn1 g te vs σ x H1 (R i))
    (q : ∀ p ys H', Same H H' → H' p = some (.lst ys) → Rows R 0 xs.length ys H' → Q (.ref p) H') : tLc (iTup K ti) g tYes te vs σ H Q :=
  h _ ⟨a, rfl, ⟨xs, hx⟩, fun D hD => lc_tup (K := K) (a := a) (xs := xs) (LcP R H D) ⟨[], Same.new' hD, upd_same, hD, trivial, rfl⟩ (fun i H1 _ p => sqt_same p.choose_spec.1 hx) (fun i x H1 e p => lc_step st of p (by
    have := (List.getElem?_eq_some_iff.mp e).1
    omega) (hs i x H1 e)) (fun H1 ⟨ys, s, e, _, r⟩ => q D ys H1 s e r)⟩
theorem l_lcR {n : Nat} {ta : TA} (st : ∀ k, Stays (R k)) (of : Off R) (h : VA ta σ H [.int (n : Int)]) (hn : n ≤ 10000) (hs : ∀ i H1, i < n → Same H H1 → Turn1 g te vs σ (.int (i : Int)) H1 (R i))
    (q : ∀ p ys H', Same H H' → H' p = some (.lst ys) → Rows R 0 n ys H' → Q (.ref p) H') : tLc (iRng1 ta) g tYes te vs σ H Q := by
  refine h _ ⟨(n : Int), rfl, by omega, by omega, fun D hD => lc_range (lo := 0) (n := (n : Int).toNat) (LcP R H D) ⟨[], Same.new' hD, upd_same, hD, trivial, rfl⟩ (fun i H1 hi p => ?_) (fun H1 ⟨ys, s, e, _, r⟩ => q D ys H1 s e (by rw [Int.toNat_natCast] at r; exact r))⟩
  rw [Int.zero_add]
  exact lc_step st of p (by omega) (hs i H1 (by omega))
theorem l_lcR2 {lo : Int} {n : Nat} {ta : TA} (st : ∀ k, Stays (R k)) (of : Off R) (h : VA ta σ H [.int lo, .int (lo + (n : Int))]) (h0 : 0 ≤ lo) (h1 : lo ≤ 10000) (hn : n ≤ 10000) (hs : ∀ i H1, i < n → Same H H1 → Turn1 g te vs σ (.int (lo + (i : Int))) H1 (R i))
    (q : ∀ p ys H', Same H H' → H' p = some (.lst ys) → Rows R 0 n ys H' → Q (.ref p) H') : tLc (iRng2 ta) g tYes te vs σ H Q := by
  have e : (lo + (n : Int) - lo).toNat = n := by omega
  refine h _ ⟨lo, lo + n, rfl, ⟨by omega, by omega, by omega, by omega⟩, fun D hD => lc_range (lo := lo) (n := (lo + (n : Int) - lo).toNat) (LcP R H D) ⟨[], Same.new' hD, upd_same, hD, trivial, rfl⟩ (fun i H1 hi p => ?_) (fun H1 ⟨ys, s, e2, _, r⟩ => q D ys H1 s e2 (by rw [e] at r; exact r))⟩
  exact lc_step st of p (by omega) (hs i H1 (by omega))
end

/-! ### ratios as values -/
def Lo (H : Hp) (t : Addr) (q : Rat) : Prop := H t = some (.tup [.int q.num, .int (q.den : Int)])
def Rq (H : Hp) (v : V) (q : Rat) : Prop := ∃ i j, Rt H v i j ∧ Fit i j ∧ q = Rat.divInt i j
theorem Lo.same {H H' : Hp} {t : Addr} {q : Rat} (h : Lo H t q) (s : Same H H') : Lo H' t q := s _ _ h
theorem Rq.same {H H' : Hp} {v : V} {q : Rat} (h : Rq H v q) (s : Same H H') : Rq H' v q := by
  obtain ⟨i, j, r, f, e⟩ := h
  exact ⟨i, j, r.same s, f, e⟩
theorem low_rat (i : Int) {j : Int} (hj : 0 < j) : i / gI i j = (Rat.divInt i j).num ∧ j / gI i j = ((Rat.divInt i j).den : Int) := by
  have g : (Int.gcd j i : Int) = gI i j := by
    unfold gI Int.gcd
    rw [Nat.gcd_comm]
  constructor
  · rw [Rat.num_divInt, Int.sign_eq_one_of_pos hj, Int.one_mul, g]
  · rw [Rat.den_divInt, if_neg (by omega), Int.natCast_ediv, g]
    congr 1
    omega
/-- below 2 ^ n -/
def Sm (n : Nat) (q : Rat) : Prop := q.num.natAbs < 2 ^ n ∧ q.den < 2 ^ n
theorem Sm.mono {n m : Nat} {q : Rat} (h : Sm n q) (l : n ≤ m) : Sm m q := ⟨Nat.lt_of_lt_of_le h.1 (Nat.pow_le_pow_right (by decide) l), Nat.lt_of_lt_of_le h.2 (Nat.pow_le_pow_right (by decide) l)⟩
theorem Sm.fit {n : Nat} {q : Rat} (h : Sm n q) (l : n ≤ 1000) : Fit q.num (q.den : Int) := ⟨(h.mono l).1, by rw [Int.natAbs_natCast]; exact (h.mono l).2⟩
theorem Lo.rt {H : Hp} {t : Addr} {q : Rat} (h : Lo H t q) : Rt H (.ref t) q.num (q.den : Int) := .pair (.inr h) (by have := q.den_pos; omega)
theorem Lo.rq {H : Hp} {t : Addr} {q : Rat} {n : Nat} (h : Lo H t q) (b : Sm n q) (l : n ≤ 1000) : Rq H (.ref t) q := ⟨_, _, h.rt, b.fit l, by rw [Rat.divInt_ofNat, Rat.mkRat_self]⟩
theorem Rq.yes {H : Hp} {v : V} {q : Rat} (h : Rq H v q) : RatQ H v true := by
  obtain ⟨i, j, r, f, e⟩ := h
  exact r.yes
section
variable {σ : L2.St} {H : Hp} {ta : TA} {v u wh : V} {q r : Rat} {Q : VK} {E : XK}
theorem c_told (h : VA ta σ H [v, wh]) (r : Rq H v q) (k : ∀ p H', Same H H' → Lo H' p q → Q (.ref p) H') : tCall (sp_told mg) [] E ta σ H Q := by
  obtain ⟨i, j, rt, f, e⟩ := r
  refine c_call h ⟨v, wh, rfl, .inl ⟨i, j, rt, f, fun p H' s z => k p H' s ?_⟩⟩
  rw [(low_rat i rt.pos).1, (low_rat i rt.pos).2, ← e] at z
  exact z
end

/-! ### rows -/
inductive All2 {α β : Type} (R : α → β → Prop) : List α → List β → Prop
  | nil : All2 R [] []
  | cons {a : α} {b : β} {as : List α} {bs : List β} (h : R a b) (t : All2 R as bs) : All2 R (a :: as) (b :: bs)
theorem All2.imp {α β : Type} {R S : α → β → Prop} (f : ∀ a b, R a b → S a b) {as : List α} {bs : List β} (h : All2 R as bs) : All2 S as bs := by
  induction h with
  | nil => exact .nil
  | cons h _ ih => exact .cons (f _ _ h) ih
theorem All2.len {α β : Type} {R : α → β → Prop} {as : List α} {bs : List β} (h : All2 R as bs) : as.length = bs.length := by
  induction h with
  | nil => rfl
  | cons _ _ ih => rw [List.length_cons, List.length_cons, ih]
theorem All2.get {α β : Type} {R : α → β → Prop} {as : List α} {bs : List β} (h : All2 R as bs) : ∀ {i : Nat} {a : α}, as[i]? = some a → ∃ b, bs[i]? = some b ∧ R a b := by
  induction h with
  | nil => intro i a e; simp at e
  | cons h _ ih =>
    intro i a e
    cases i with
    | zero => simp at e; subst e; exact ⟨_, rfl, h⟩
    | succ i => simp at e; obtain ⟨b, hb, r⟩ := ih e; exact ⟨b, by simpa using hb, r⟩
theorem All2.mk {α β : Type} {R : α → β → Prop} : ∀ {as : List α} {bs : List β}, as.length = bs.length → (∀ (i : Nat) (a : α) (b : β), as[i]? = some a → bs[i]? = some b → R a b) → All2 R as bs
  | [], [], _, _ => .nil
  | a :: as, b :: bs, e, h => .cons (h 0 a b rfl rfl) (All2.mk (as := as) (bs := bs) (by simpa using e) fun (i : Nat) x y h1 h2 => h (i + 1) x y (by simpa using h1) (by simpa using h2))
theorem rows_map {β : Type} {f : β → V} {bs : List β} {n : Nat} {ys : List V} {H : Hp} (r : Rows (fun i v _ => ∃ b, bs[i]? = some b ∧ v = f b) 0 n ys H) (e : bs.length = n) : ys = bs.map f := by
  refine List.ext_getElem? fun i => ?_
  rw [List.getElem?_map]
  cases h : ys[i]? with
  | some v =>
    obtain ⟨b, hb, rfl⟩ := r.1.get h
    rw [Nat.zero_add] at hb
    rw [hb]
    rfl
  | none =>
    have h1 := List.getElem?_eq_none_iff.mp h
    have h2 : bs.length ≤ i := by rw [e, ← r.2]; exact h1
    rw [List.getElem?_eq_none_iff.mpr h2]
    rfl
/-- what is_row answers -/
def spRow (K : PySem.W.Frag) : Sp := fun vs H Q _ => ∃ v, vs = [v] ∧ ((∃ n, Is H v n ∧ n ≠ "list" ∧ n ≠ "tuple" ∧ ∀ H', Same H H' → Q (.bl false) H') ∨ ∃ a xs bs, v = .ref a ∧ Sq H a xs ∧ xs.length ≤ 1000 ∧ All2 (RatQ H) xs bs ∧ ∀ H', Same H H' → Q (.bl (bs.all id)) H')
theorem ok_is_row (T : Txt K mg) : FnOk P w K mg base CX0 5 (fA mg "is_row") (fDat K (fA mg "is_row")) ["value"] (spRow K) := by
  have Gis_ratio := ok_is_ratio (P := P) (w := w) (base := base) T
  refine T.is_row.F.ok scis_row (fun vs H Q E h => ?_) (fun cdv A outer s H vs Q E hr h => ?_)
  · obtain ⟨v, rfl, _⟩ := h
    rfl
  obtain ⟨v, rfl, h⟩ := h
  refine ⟨_, (pss_one (ps_ret (pe_and (pe_callB call_isiT (by rfl) T.isinstance (by decide +kernel) (pa_cons (pv 0) (pa_cons (pe_tup (pa_cons (pe_bltn (v := .ty "tuple") (by rfl) T.tuple (by decide +kernel) rfl) (pa_cons (pe_bltn (v := .ty "list") (by rfl) T.list (by decide +kernel) rfl) pa_nil))) pa_nil))) (pe_one (pe_callB (cr_all rfl) (by rfl) T.all (by decide +kernel) (pa_cons (pe_lc (own := [("number", 1)]) (g := gName 1) (tt := tYes) (by rfl) scis_row.nd (pi_or (pi_list (pv 0)) (pi_tup (pv 0))) (blkOk_by (own := [("number", 1)]) (N := ["value", "number"]) (sc := defScope sis_row) (by decide +kernel)) (fun _ _ _ _ _ => pg_name (i := 1) scis_row.nd rfl (Or.inl rfl)) (fun _ _ _ _ _ => pts_nil) (fun _ _ _ _ _ => (pe_c T.is_ratio Gis_ratio (hr.mono (by decide)) (pa_cons (pv 1) pa_nil)))) pa_nil)))))), ?_⟩
  have both : ∀ {n : String} {Q' : VK}, Is H v n → (∀ H2, Same H H2 → Q' (.bl (decide (n = "tuple") || decide (n = "list"))) H2) →
      tCB (rIsiT K) (tCons (tVar 0) (tCons (tTup (tCons (tC (.ty "tuple")) (tCons (tC (.ty "list")) tNil))) tNil)) [some v, none] H Q' := fun {n Q'} i q =>
    ⟨v, rfl, ⟨by show 2 ≤ sizeLine; decide, fun p hp => ⟨v, p, [.ty "tuple", .ty "list"], _, [.type "tuple", .type "list"], _, rfl, upd_same, .cons (.ty _) (.cons (.ty _) .nil), (i.same (Same.new' hp)).ty.1, kit_seq (i.ty (K := K)).2, q _ (Same.new' hp)⟩⟩⟩
  refine r_ret ?_
  rcases h with ⟨n, i, n1, n2, k⟩ | ⟨a, xs, bs, rfl, hS, hl, hR, k⟩
  · refine both i fun H2 s2 => ⟨_, rfl, ?_⟩
    rw [decide_eq_false n2, decide_eq_false n1]
    exact iteF (k H2 s2)
  · obtain ⟨n, i, o⟩ := hS.is
    refine both i fun H2 s2 => ⟨_, rfl, ?_⟩
    have e : (decide (n = "tuple") || decide (n = "list")) = true := by rcases o with rfl | rfl <;> decide
    rw [e]
    refine iteT (cb_one ?_)
    refine l_lcS (R := fun i v _ => ∃ b, bs[i]? = some b ∧ v = V.bl b) (fun _ _ _ _ _ h => h) (fun _ _ _ _ _ _ h _ => h) (val_var rfl) (hS.same s2).seq (by omega) (fun i x H3 e s3 => turn_name rfl fun Q q => ?_) (fun p ys H4 s4 e4 r4 => ⟨p, bs, rfl, ?_, k H4 (s2.trans s4)⟩)
    · obtain ⟨b, hb, rb⟩ := hR.get e
      exact c_call (va_cons (val_var rfl) va_nil) ⟨x, b, rfl, rb.same (s2.trans s3), fun H' s' => q _ H' s' ⟨b, hb, rfl⟩⟩
    · rw [← rows_map r4 hR.len.symm]
      exact SqL.of e4

/-! ### whole rows -/
def rLcm : List V → Hp → VK → Prop := fun vs H Q => ∃ a b : Int, vs = [.int a, .int b] ∧ a.natAbs < 2 ^ 6000 ∧ b.natAbs < 2 ^ 6000 ∧ Q (.int ((Nat.lcm a.natAbs b.natAbs : Nat) : Int)) H
theorem log_6000 {n : Nat} (h : n < 2 ^ 6000) : n.log2 < 6000 := by
  rcases Nat.eq_zero_or_pos n with z | z
  · rw [z]; decide
  · exact (Nat.log2_lt (by omega)).mpr h
theorem cr_lcm {X : Cx} : CallR X (.builtin "math.lcm") rLcm := by
  intro pins s σ H vs us Q I r h
  obtain ⟨a, b, rfl, ha, hb, q⟩ := h
  obtain ⟨t, u, rfl⟩ := Vals.int2 r
  have one : Nat.lcm 1 a.natAbs = a.natAbs := by simp [Nat.lcm]
  have h1 := log_6000 (n := max 1 a.natAbs) (by have : (1 : Nat) < 2 ^ 6000 := Nat.one_lt_two_pow (by decide); omega)
  have h2 := log_6000 (n := max a.natAbs b.natAbs) (by omega)
  have h3 : ((((Nat.lcm 1 a.natAbs).lcm b.natAbs : Nat) : Int)).natAbs.log2 < bitsLine := by
    rw [one, Int.natAbs_natCast]
    have l : a.natAbs.lcm b.natAbs ≤ a.natAbs * b.natAbs := Nat.div_le_self _ _
    have m : a.natAbs * b.natAbs < 2 ^ 12000 := by
      rw [show 12000 = 6000 + 6000 from rfl, Nat.pow_add]
      exact Nat.mul_lt_mul'' ha hb
    refine Nat.lt_of_lt_of_le (m := 12000) ?_ (by decide)
    rcases Nat.eq_zero_or_pos (a.natAbs.lcm b.natAbs) with z | z
    · rw [z]; decide
    · exact (Nat.log2_lt (by omega)).mpr (Nat.lt_of_le_of_lt l m)
  refine PySem.call_function_meets PySem.W.MGF.kind_lcm PySem.W.MGF.plain_lcm PySem.W.MGF.entry_lcm (PySem.W.MGF.args_lcm _ _) (PySem.W.mg_run_lcm a t b u (by omega) (by omega) h3).meets ?_
  rw [one]
  exact ⟨.int _, H, I.tok _, ⟨_, rfl⟩, q⟩
theorem q_forT {g : TG} {te : TE} {tb tz : TS} {D : Ends} {σ : L2.St} {H : Hp} {a : Addr} {xs : List V} (h : Val te σ H (.ref a)) (hx : SqT K H a xs) (Pv : Nat → L2.St → Hp → Prop) (h0 : Pv 0 σ H) (hl : ∀ i σ H, Pv i σ H → SqT K H a xs)
    (hs : ∀ i x σ H, xs[i]? = some x → Pv i σ H → g x σ H fun σ2 H2 => tb { D with nx := Pv (i + 1), ct := Pv (i + 1), bk := tz D } σ2 H2) (hd : ∀ σ H, Pv xs.length σ H → tz D σ H) : tSeq (tFor (iTup K te) g tb) tz D σ H :=
  h _ ⟨a, rfl, ⟨_, hx⟩, for_tup (K := K) (a := a) (xs := xs) (D := { D with nx := tz D }) Pv h0 (fun i σ H _ p => hl i σ H p) hs hd⟩
/-- a list of told ratios -/
def Los (H : Hp) (t : Addr) (xs : List Rat) : Prop := ∃ vs, H t = some (.lst vs) ∧ All2 (fun v q => ∃ p, v = .ref p ∧ Lo H p q) vs xs
theorem Los.same {H H' : Hp} {t : Addr} {xs : List Rat} (h : Los H t xs) (s : Same H H') : Los H' t xs := by
  obtain ⟨vs, e, a⟩ := h
  exact ⟨vs, s _ _ e, a.imp fun v q ⟨p, e, l⟩ => ⟨p, e, l.same s⟩⟩
def Sms (n : Nat) (xs : List Rat) : Prop := ∀ q ∈ xs, Sm n q
theorem get_mem {α : Type} {xs : List α} {i : Nat} {a : α} (h : xs[i]? = some a) : a ∈ xs := List.mem_of_getElem? h
def spBot : Sp := fun vs H Q _ => ∃ (t : Addr) (xs : List Rat) (n : Nat), vs = [.ref t] ∧ Los H t xs ∧ Sms n xs ∧ n * xs.length + n ≤ 900 ∧ xs.length ≤ 1000 ∧ ∀ (D : Nat) (H' : Hp), Same H H' → 0 < D → D ≤ 2 ^ (n * xs.length) → (∀ q ∈ xs, q.den ∣ D) → Q (.int (D : Int)) H'
theorem ok_bottom_of (T : Txt K mg) : FnOk P w K mg base CX0 1 (fA mg "bottom_of") (fDat K (fA mg "bottom_of")) ["pairs"] spBot := by
  refine T.bottom_of.F.ok scbottom_of (fun vs H Q E h => ?_) (fun cdv A outer s H vs Q E hr h => ?_)
  · obtain ⟨t, xs, n, rfl, _⟩ := h
    rfl
  obtain ⟨t, xs, n, rfl, ⟨vs, e, al⟩, sm, hn, hl, k⟩ := h
  refine ⟨_, (pss_cons (ps_set (i := 1) scbottom_of.nd rfl (Or.inl rfl) pe_int)
  (pss_cons (ps_for PassesOwn.never rfl (pi_list (pv 0)) (pg_tup rfl (pgs_cons (pg_name (i := 2) scbottom_of.nd rfl (Or.inl rfl)) (pgs_cons (pg_name (i := 3) scbottom_of.nd rfl (Or.inl rfl)) pgs_nil)))
  (pss_one (ps_set (i := 1) scbottom_of.nd rfl (Or.inl rfl) (pe_callBfun cr_lcm (by rfl) T.lcm (pa_cons (pv 1) (pa_cons (pv 3) pa_nil))))))
  (pss_one (ps_ret (pv 1))))), ?_⟩
  refine q_set val_c ?_
  refine q_forL (val_var rfl) (SqL.of e) (fun i σ H1 => Same H H1 ∧ ∃ (D : Nat) (z1 z2 : Option V), σ = [some (.ref t), some (.int (D : Int)), z1, z2] ∧ 0 < D ∧ D ≤ 2 ^ (n * i) ∧ ∀ j q, j < i → xs[j]? = some q → q.den ∣ D) ⟨Same.refl H, 1, none, none, rfl, by decide, by rw [Nat.mul_zero]; decide, fun j q h => absurd h (by omega)⟩ (fun i σ H1 _ z => SqL.of (z.1 _ _ e)) (fun i v σ H1 hv z => ?_) (fun σ H1 z => ?_)
  · obtain ⟨s1, D, z1, z2, rfl, d0, dl, dd⟩ := z
    obtain ⟨q, hq, p, rfl, lo⟩ := al.get hv
    have sq := sm q (get_mem hq)
    have il : i < xs.length := (List.getElem?_eq_some_iff.mp hq).1
    refine g_two (SqT.of (lo.same s1)) ?_
    have nle : n * i + n ≤ n * xs.length := by
      rw [← Nat.mul_succ]
      exact Nat.mul_le_mul_left _ il
    have big : ∀ m : Nat, m ≤ 900 → (2 : Nat) ^ m < 2 ^ 6000 := fun m h => Nat.pow_lt_pow_right (by decide) (by omega)
    refine (v_cb (z := .int ((Nat.lcm D q.den : Nat) : Int)) (va_cons (val_var rfl) (va_cons (val_var rfl) va_nil)) fun Q' q' => ⟨(D : Int), (q.den : Int), rfl, by rw [Int.natAbs_natCast]; exact Nat.lt_of_le_of_lt dl (big _ (by omega)), by rw [Int.natAbs_natCast]; exact Nat.lt_trans sq.2 (big n (by omega)), by rw [Int.natAbs_natCast, Int.natAbs_natCast]; exact q'⟩ : Val _ _ _ _) _ ?_
    refine ⟨s1, Nat.lcm D q.den, _, _, rfl, Nat.lcm_pos d0 q.den_pos, ?_, fun j q2 hj h2 => ?_⟩
    · rw [Nat.mul_succ, Nat.pow_add]
      exact Nat.le_trans (Nat.div_le_self _ _) (Nat.mul_le_mul dl (Nat.le_of_lt sq.2))
    · rcases Nat.lt_or_ge j i with lt | ge
      · exact Nat.dvd_trans (dd j q2 lt h2) (Nat.dvd_lcm_left _ _)
      · have ej : j = i := by omega
        subst ej
        rw [hq] at h2
        cases h2
        exact Nat.dvd_lcm_right _ _
  · obtain ⟨s1, D, z1, z2, rfl, d0, dl, dd⟩ := z
    rw [al.len] at dl dd
    refine st_ret (val_var rfl) (k D H1 s1 d0 dl fun q hq => ?_)
    obtain ⟨j, hj, e2⟩ := List.getElem_of_mem hq
    exact dd j q hj (by rw [List.getElem?_eq_getElem hj, e2])
/-- whole numbers over one bottom -/
def tops (D : Nat) (xs : List Rat) : List Int := xs.map fun q => q.num * ((D / q.den : Nat) : Int)
def spWhole : Sp := fun vs H Q _ => ∃ (t : Addr) (xs : List Rat) (n : Nat), vs = [.ref t] ∧ Los H t xs ∧ Sms n xs ∧ n * xs.length + n ≤ 900 ∧ xs.length ≤ 1000 ∧ ∀ (p l : Addr) (D : Nat) (H' : Hp), Same H H' → 0 < D → D ≤ 2 ^ (n * xs.length) → (∀ q ∈ xs, q.den ∣ D) → H' p = some (.tup [.ref l, .int (D : Int)]) → H' l = some (.lst ((tops D xs).map V.int)) → Q (.ref p) H'
theorem ok_whole_row (T : Txt K mg) : FnOk P w K mg base CX0 3 (fA mg "whole_row") (fDat K (fA mg "whole_row")) ["pairs"] spWhole := by
  have Gbottom_of := ok_bottom_of (P := P) (w := w) (base := base) T
  refine T.whole_row.F.ok scwhole_row (fun vs H Q E h => ?_) (fun cdv A outer s H vs Q E hr h => ?_)
  · obtain ⟨t, xs, n, rfl, _⟩ := h
    rfl
  obtain ⟨t, xs, n, rfl, ⟨vs, e, al⟩, sm, hn, hl, k⟩ := h
  refine ⟨_, (pss_cons (ps_set (i := 1) scwhole_row.nd rfl (Or.inr rfl) (pe_c T.bottom_of Gbottom_of (hr.mono (by decide)) (pa_cons (pv 0) pa_nil)))
  (pss_one (ps_ret (pe_tup (pa_cons (pe_lc (own := [("top", 2), ("bottom", 3)]) (g := gTup K 2 (gCons (gName 2) (gCons (gName 3) gNil))) (tt := tYes) (by rfl) scwhole_row.nd (pi_list (pv 0)) (blkOk_by (own := [("top", 2), ("bottom", 3)]) (N := ["pairs", "below", "top", "bottom"]) (sc := defScope swhole_row) (by decide +kernel)) (fun _ _ _ _ _ => pg_tup rfl (pgs_cons (pg_name (i := 2) scwhole_row.nd rfl (Or.inl rfl)) (pgs_cons (pg_name (i := 3) scwhole_row.nd rfl (Or.inl rfl)) pgs_nil))) (fun _ _ _ _ _ => pts_nil) (fun _ _ _ _ _ => (pe_op op_mulW (pv 2) (pe_op op_fdivW (pv 1) (pv 3))))) (pa_cons (pv 1) pa_nil)))))), ?_⟩
  refine q_asg (c_call (va_cons (val_var rfl) va_nil) ⟨t, xs, n, rfl, ⟨vs, e, al⟩, sm, hn, hl, fun D H1 s1 d0 dl dd => ?_⟩)
  refine r_ret (tup_two ?_)
  have al1 := al.imp fun v q (h : ∃ p, v = V.ref p ∧ Lo H p q) => (⟨h.choose, h.choose_spec.1, h.choose_spec.2.same s1⟩ : ∃ p, v = V.ref p ∧ Lo H1 p q)
  refine l_lcL (R := fun i v _ => ∃ b, (tops D xs)[i]? = some b ∧ v = V.int b) (fun _ _ _ _ _ h => h) (fun _ _ _ _ _ _ h _ => h) (val_var rfl) (SqL.of (s1 _ _ e)) (by rw [al.len]; omega) (fun i v H2 hv s2 => ?_) (fun p ys H2 s2 e2 r2 => ?_)
  · obtain ⟨q, hq, p, rfl, lo⟩ := al1.get hv
    have sq := sm q (get_mem hq)
    have b9 : (2 : Nat) ^ (n * xs.length) < 2 ^ 1000 := Nat.pow_lt_pow_right (by decide) (by omega)
    have fn := (sq.fit (by omega)).1
    have fd := (sq.fit (by omega)).2
    have dpos := q.den_pos
    have fD : ((D / q.den : Nat) : Int).natAbs < 2 ^ 1000 := by rw [Int.natAbs_natCast]; exact Nat.lt_of_le_of_lt (Nat.le_trans (Nat.div_le_self _ _) dl) b9
    refine turn_two (SqT.of (lo.same s2)) rfl (em_val (v := .int (q.num * ((D / q.den : Nat) : Int))) (v_mul (val_var rfl) (Val.is (GL.v_div (i := (D : Int)) (j := (q.den : Int)) (val_var rfl) (val_var rfl) (wide_div (b := 1000) (by omega) fd (by decide) (by decide))) (by rw [Int.natCast_ediv])) (fit_mul fn fD)) ⟨_, ?_, rfl⟩)
    unfold tops
    rw [List.getElem?_map, hq]
    rfl
  · refine val_var rfl _ ⟨by show 2 ≤ sizeLine; decide, fun p2 hp2 => ?_⟩
    have s3 := Same.new' (o := .tup [.ref p, .int (D : Int)]) hp2
    refine k p2 p D _ ((s1.trans s2).trans s3) d0 dl dd upd_same ?_
    rw [al.len] at r2
    rw [← rows_map r2 (by unfold tops; rw [List.length_map])]
    exact s3 _ _ e2

/-! ### two for in one comprehension -/
theorem tvar_set {σ : L2.St} {j : Nat} {v : V} {H : Hp} (h : j < σ.length) : Val (tVar j) (σ.set j (some v)) H v := val_var (by rw [List.getElem?_set_self h])
theorem t_yes {σ : L2.St} {H : Hp} {Q : Bool → Hp → Prop} (h : Q true H) : tYes σ H Q := h
/-- the items of the first i rows -/
def off (xss : List (List V)) (i : Nat) : Nat := ((xss.take i).map List.length).sum
theorem off_succ {xss : List (List V)} {i : Nat} {xs : List V} (h : xss[i]? = some xs) : off xss (i + 1) = off xss i + xs.length := by
  obtain ⟨hi, e⟩ := List.getElem?_eq_some_iff.mp h
  unfold off
  rw [List.take_succ, List.map_append, List.sum_append, h]
  simp
theorem off_le {xss : List (List V)} (i : Nat) : off xss i ≤ off xss xss.length := by
  unfold off
  rw [List.take_length]
  have e := List.take_append_drop i xss
  calc ((xss.take i).map List.length).sum ≤ ((xss.take i).map List.length).sum + ((xss.drop i).map List.length).sum := Nat.le_add_right _ _
    _ = (xss.map List.length).sum := by rw [← List.sum_append, ← List.map_append, e]
section
variable {σ : L2.St} {H : Hp} {te ti : TE} {vs vs1 : List Nat} {Q : VK} {a : Addr} {rows : List V} {xss : List (List V)} {j j1 : Nat} {R : Nat → V → Hp → Prop}
theorem l_lc2 (st : ∀ k, Stays (R k)) (of : Off R) (h : Val ti σ H (.ref a)) (hx : SqL K H a rows) (hl : rows.length = xss.length) (hr : ∀ (i : Nat) (v : V) (xs : List V), rows[i]? = some v → xss[i]? = some xs → ∃ r, v = V.ref r ∧ Seq K H r xs) (hn : off xss xss.length ≤ 10000)
    (w1 : ∀ v : V, wipe ((wipe σ vs).set j (some v)) vs = wipe σ vs) (w2 : ∀ v x : V, wipe ((wipe ((wipe σ vs).set j (some v)) vs1).set j1 (some x)) vs1 = wipe ((wipe σ vs).set j (some v)) vs1) (hj : j < (wipe σ vs).length)
    (hs : ∀ (i : Nat) (v : V) (xs : List V) (k : Nat) (x : V) (H1 : Hp), rows[i]? = some v → xss[i]? = some xs → xs[k]? = some x → L2.Same H H1 → EM te ((wipe ((wipe σ vs).set j (some v)) vs1).set j1 (some x)) H1 (R (off xss i + k)))
    (q : ∀ p ys H', L2.Same H H' → H' p = some (.lst ys) → Rows R 0 (off xss xss.length) ys H' → Q (.ref p) H') : tLc2 (iList K ti) (gName j) tYes (fun σ H R => iList K (tVar j) σ H R ∨ iTup K (tVar j) σ H R) (gName j1) tYes te vs vs1 σ H Q := by
  refine h _ ⟨a, rfl, ⟨rows, hx⟩, fun D hD => ?_⟩
  refine ⟨fun i m H' => m = rows.length - i ∧ i ≤ rows.length ∧ LcP R H D (off xss i) H', ⟨rows.length, rfl, Nat.zero_le _, [], Same.new' hD, upd_same, hD, trivial, rfl⟩, ?_⟩
  rintro i m H1 ⟨rfl, hi, p⟩
  have sm : L2.Same H H1 := p.choose_spec.1
  by_cases hlt : i < rows.length
  · have e1 : rows[i]? = some rows[i] := List.getElem?_eq_getElem hlt
    have e2 : xss[i]? = some (xss[i]'(by omega)) := List.getElem?_eq_getElem (by omega)
    generalize xss[i]'(by omega) = xs at e2
    generalize rows[i] = v at e1
    obtain ⟨r, rfl, sr⟩ := hr i v xs e1 e2
    refine .inr ⟨⟨rows, _, sm.seq hx, e1⟩, fun H2 => LcP R H D (off xss (i + 1)) H2, fun H' p' => ⟨rows.length - (i + 1), by omega, rfl, hlt, p'⟩, fun x H' y => ?_⟩
    obtain ⟨e, y⟩ := y
    subst e
    have := y rows (sm.seq hx)
    rw [e1] at this
    cases this
    refine ⟨w1 _, ?_⟩
    refine t_yes ?_
    refine iteT ?_
    have le1 : off xss (i + 1) ≤ 10000 := Nat.le_trans (off_le _) hn
    rw [off_succ e2] at le1 ⊢
    have inner : ∀ {J : It} (hgo : ∀ k H2, Same H H2 → k < xs.length → J.go k H2) (hst : ∀ k H2, Same H H2 → k = xs.length → J.stop k H2) (hy : ∀ k H2 x H3, Same H H2 → J.yld k H2 x H3 → H3 = H2 ∧ xs[k]? = some x),
        ∃ W1 : Nat → Nat → Hp → Prop, (∃ m, W1 0 m H') ∧ ∀ k m H2, W1 k m H2 → (J.stop k H2 ∧ LcP R H D (off xss i + xs.length) H2) ∨ (J.go k H2 ∧ ∃ Nx1 : Hp → Prop, (∀ H', Nx1 H' → ∃ k', k' < m ∧ W1 (k + 1) k' H') ∧ ∀ x H', J.yld k H2 x H' →
          gName j1 x (wipe ((wipe σ vs).set j (some (.ref r))) vs1) H' fun σ3 H5 => wipe σ3 vs1 = wipe ((wipe σ vs).set j (some (.ref r))) vs1 ∧ tYes σ3 H5 fun b H6 => if b = true then te σ3 H6 fun y H7 => ∃ acc, H7 D = some (.lst acc) ∧ acc.length < sizeLine ∧ Nx1 (upd H7 D (.lst (acc ++ [y]))) else Nx1 H6) := fun hgo hst hy => by
      refine ⟨fun k m H2 => m = xs.length - k ∧ k ≤ xs.length ∧ LcP R H D (off xss i + k) H2, ⟨xs.length, rfl, Nat.zero_le _, p⟩, ?_⟩
      rintro k m H2 ⟨rfl, hk, p2⟩
      have sm2 : L2.Same H H2 := p2.choose_spec.1
      by_cases hk2 : k < xs.length
      · refine .inr ⟨hgo k H2 sm2 hk2, fun H3 => LcP R H D (off xss i + (k + 1)) H3, fun H' p' => ⟨xs.length - (k + 1), by omega, rfl, hk2, p'⟩, fun x H' y => ?_⟩
        obtain ⟨rfl, ex⟩ := hy k H2 x H' sm2 y
        have step := lc_step (g := gName j1) (te := te) (vs := vs1) (σ := (wipe σ vs).set j (some (.ref r))) (x := x) st of p2 (by omega) fun s3 => turn_name (w2 _ _) (hs i _ xs k x _ e1 e2 ex s3)
        exact step
      · have ek : k = xs.length := by omega
        subst ek
        exact .inl ⟨hst _ H2 sm2 rfl, p2⟩
    rcases sr with sr | sr
    · refine .inl (tvar_set hj _ ⟨r, rfl, ⟨xs, sm.seq sr⟩, inner (J := Itl K r) (fun k H2 s hk => ⟨xs, xs[k], s.seq sr, List.getElem?_eq_getElem hk⟩) (fun k H2 s e => ⟨xs, s.seq sr, by omega⟩) fun k H2 x H3 s y => ⟨y.1, y.2 xs (s.seq sr)⟩⟩)
    · refine .inr (tvar_set hj _ ⟨r, rfl, ⟨xs, sqt_same sm sr⟩, inner (J := Itt K r) (fun k H2 s hk => ⟨xs, xs[k], sqt_same s sr, List.getElem?_eq_getElem hk⟩) (fun k H2 s e => ⟨xs, sqt_same s sr, by omega⟩) fun k H2 x H3 s y => ⟨y.1, y.2 xs (sqt_same s sr)⟩⟩)
  · have e : i = rows.length := by omega
    subst e
    obtain ⟨ys, s, e, _, r⟩ := p
    rw [hl] at r
    exact .inl ⟨⟨rows, s.seq hx, Nat.le_refl _⟩, q D ys H1 s e r⟩
end
end
end LW

namespace LW
open PySem PySem.Spec PyProof.Rows L2 GL
section
variable {P : Program} {w : World} {K : PySem.W.Frag} {mg : Str → Option Value} {base : Heap}
theorem scI_BadRow : FnScope ["self", "row"] ["self", "row"] (defScope (inClass (top 4) 0)) := ⟨rfl, rfl, rfl, by decide +kernel, rfl, by decide +kernel, by decide +kernel⟩
theorem init_BadRow (T : Txt K mg) : FnOk P w K mg base CX0 1 (iA K (fA mg "BadRow")) (fDat K (iA K (fA mg "BadRow"))) ["self", "row"] (spI1 (fA mg "BadRow") "row") := by
  refine T.BadRow.F.ok scI_BadRow (fun vs H Q E h => ?_) (fun cdv A outer s H vs Q E hr h => ?_)
  · obtain ⟨a, v, rfl, _⟩ := h
    rfl
  · obtain ⟨a, v, rfl, ha, k⟩ := h
    exact ⟨_, pss_one (ps_ost (pv 0) (pv 1)), s_ost1 T.BadRow.o (T.BadRow.n _ (by simp)) ha rfl rfl k⟩
theorem x_made1 {σ : L2.St} {H : Hp} {ta : TA} {C : Addr} {f : Str} {v : V} {Q : XK} (h : VA ta σ H [v]) (k : ∀ d H', Same H H' → H d = none → H' d = some (.xd [(f, v)]) → Q (.ref C) (some d) H') : tMkO C (spI1 C f) [] ta σ H Q :=
  h _ ⟨by show 1 ≤ 1000; decide, fun a ha => ⟨a, v, rfl, upd_same, fun dx hd ne => by
    rw [upd_ne ne] at hd
    refine ⟨rfl, dx, _, upd_same, by rw [upd_ne ne, upd_same], hd, k dx _ (fun b o e => ?_) hd upd_same⟩
    have hb : b ≠ a := ne_of_none e ha
    have hb2 : b ≠ dx := ne_of_none e hd
    rw [upd_ne hb2, del_ne hb, upd_ne hb, upd_ne hb2, upd_ne hb]
    exact e⟩⟩

/-! ### places -/
inductive PlQ (H : Hp) : V → Bool → Prop
  | odd {v : V} {n : String} (h : Is H v n) (n1 : n ≠ "list") (n2 : n ≠ "tuple") : PlQ H v false
  | seq {a : Addr} {xs : List V} {bs : List Bool} (h : Sq H a xs) (l : xs.length ≤ 1000) (r : All2 (RatQ H) xs bs) : PlQ H (.ref a) (bs.all id && decide (xs.length = 2))
theorem PlQ.same {H H' : Hp} {v : V} {b : Bool} (h : PlQ H v b) (s : L2.Same H H') : PlQ H' v b := by
  cases h with
  | odd h n1 n2 => exact .odd (h.same s) n1 n2
  | seq h l r => exact .seq (h.same s) l (r.imp fun _ _ q => q.same s)
def spRow2 : Sp := fun vs H Q _ => ∃ (v : V) (b : Bool), vs = [v, .int 2] ∧ PlQ H v b ∧ ∀ H', L2.Same H H' → Q (.bl b) H'
theorem ok_is_row_of (T : Txt K mg) : FnOk P w K mg base CX0 6 (fA mg "is_row_of") (fDat K (fA mg "is_row_of")) ["value", "many"] spRow2 := by
  have Gis_row := ok_is_row (P := P) (w := w) (base := base) T
  refine T.is_row_of.F.ok scis_row_of (fun vs H Q E h => ?_) (fun cdv A outer s H vs Q E hr h => ?_)
  · obtain ⟨v, b, rfl, _⟩ := h
    rfl
  obtain ⟨v, b, rfl, hR, k⟩ := h
  refine ⟨_, (pss_one (ps_ret (pe_and (pe_c T.is_row Gis_row (hr.mono (by decide)) (pa_cons (pv 0) pa_nil)) (pe_one (pe_cmpR op_eq (pe_callB call_len_seq (by rfl) T.len PySem.boot_len (pa_cons (pv 0) pa_nil)) (pv 1) (nomark _)))))), ?_⟩
  refine r_ret ?_
  cases hR with
  | odd h n1 n2 => exact c_call (va_cons (val_var rfl) va_nil) ⟨_, rfl, .inl ⟨_, h, n1, n2, fun H1 s1 => ⟨_, rfl, iteF (k H1 s1)⟩⟩⟩
  | @seq a xs bs h l r =>
    refine c_call (va_cons (val_var rfl) va_nil) ⟨_, rfl, .inr ⟨_, _, _, rfl, h, l, r, fun H1 s1 => ⟨_, rfl, ?_⟩⟩⟩
    cases hb : bs.all id with
    | false =>
      rw [hb] at k
      exact iteF (k H1 s1)
    | true =>
      rw [hb] at k
      refine iteT ((v_eq (v_len (val_var rfl) (h.same s1).sq) (val_var rfl) rfl) _ ?_)
      have e : decide ((V.int (xs.length : Int)) = V.int 2) = (true && decide (xs.length = 2)) := by
        rw [Bool.true_and]
        refine decide_eq_decide.mpr ⟨fun z => ?_, fun z => by rw [z]; rfl⟩
        have := V.int.inj z
        omega
      rw [e]
      exact k H1 s1
def spPl : Sp := fun vs H Q _ => ∃ (v : V) (b : Bool), vs = [v] ∧ PlQ H v b ∧ ∀ H', L2.Same H H' → Q (.bl b) H'
theorem ok_is_place (T : Txt K mg) : FnOk P w K mg base CX0 7 (fA mg "is_place") (fDat K (fA mg "is_place")) ["value"] spPl := by
  have Gis_row_of := ok_is_row_of (P := P) (w := w) (base := base) T
  refine T.is_place.F.ok scis_place (fun vs H Q E h => ?_) (fun cdv A outer s H vs Q E hr h => ?_)
  · obtain ⟨v, b, rfl, _⟩ := h
    rfl
  obtain ⟨v, b, rfl, hR, k⟩ := h
  refine ⟨_, (pss_one (ps_ret (pe_c T.is_row_of Gis_row_of (hr.mono (by decide)) (pa_cons (pv 0) (pa_cons pe_int pa_nil))))), ?_⟩
  exact r_ret (c_call (va_cons (val_var rfl) (va_cons val_c va_nil)) ⟨_, _, rfl, hR, k⟩)
/-- a place as passed, and as told -/
def PlR (H : Hp) (v : V) (p : Rat × Rat) : Prop := ∃ a x y, v = .ref a ∧ Sq H a [x, y] ∧ Rq H x p.1 ∧ Rq H y p.2
def PlL (H : Hp) (v : V) (p : Rat × Rat) : Prop := ∃ a x y, v = .ref a ∧ H a = some (.tup [.ref x, .ref y]) ∧ Lo H x p.1 ∧ Lo H y p.2
theorem PlR.same {H H' : Hp} {v : V} {p : Rat × Rat} (h : PlR H v p) (s : L2.Same H H') : PlR H' v p := by
  obtain ⟨a, x, y, e, q, r1, r2⟩ := h
  exact ⟨a, x, y, e, q.same s, r1.same s, r2.same s⟩
theorem PlL.same {H H' : Hp} {v : V} {p : Rat × Rat} (h : PlL H v p) (s : L2.Same H H') : PlL H' v p := by
  obtain ⟨a, x, y, e, q, r1, r2⟩ := h
  exact ⟨a, x, y, e, s _ _ q, r1.same s, r2.same s⟩
theorem PlR.yes {H : Hp} {v : V} {p : Rat × Rat} (h : PlR H v p) : PlQ H v true := by
  obtain ⟨a, x, y, rfl, q, r1, r2⟩ := h
  exact .seq q (by show 2 ≤ 1000; decide) (.cons r1.yes (.cons r2.yes .nil))
def spPair : Sp := fun vs H Q _ => ∃ (v : V) (q : Rat), vs = [v] ∧ Rq H v q ∧ ∀ p H', L2.Same H H' → Lo H' p q → Q (.ref p) H'
theorem ok_pair_of (T : Txt K mg) : FnOk P w K mg base (L2.CX P w) 7 (fA mg "pair_of") (fDat K (fA mg "pair_of")) ["value"] spPair := by
  have Gtold := ok_told (P := P) (w := w) (base := base) T
  refine T.pair_of.F.okX scpair_of (fun vs H Q E h => ?_) (fun cdv A outer s H vs Q E hr h => ?_)
  · obtain ⟨v, q, rfl, _⟩ := h
    rfl
  obtain ⟨v, q, rfl, r, k⟩ := h
  refine ⟨_, (pss_one (ps_ret (pe_call Gtold (hr.mono (by decide)) (by rfl) T.told.g T.told.F.kp T.told.b .nil (passes_call (takes_of rfl rfl rfl rfl) (fun _ _ _ _ h => h)) (pa_cons (pv 0) (pa_cons pe_str pa_nil))))), ?_⟩
  exact r_ret (c_told (va_cons (val_var rfl) (va_cons val_c va_nil)) r k)
def spPlace : Sp := fun vs H Q _ => ∃ (v : V) (p : Rat × Rat), vs = [v] ∧ PlR H v p ∧ ∀ v' H', L2.Same H H' → PlL H' v' p → (∀ a, v' = .ref a → H a = none) → Q v' H'
theorem ok_place_of (T : Txt K mg) : FnOk P w K mg base (L2.CX P w) 8 (fA mg "place_of") (fDat K (fA mg "place_of")) ["value"] spPlace := by
  have Gpair_of := ok_pair_of (P := P) (w := w) (base := base) T
  refine T.place_of.F.okX scplace_of (fun vs H Q E h => ?_) (fun cdv A outer s H vs Q E hr h => ?_)
  · obtain ⟨v, p, rfl, _⟩ := h
    rfl
  obtain ⟨v, p, rfl, ⟨a, x, y, rfl, q, r1, r2⟩, k⟩ := h
  refine ⟨_, (pss_one (ps_ret (pe_tup (pa_cons (pe_call Gpair_of (hr.mono (by decide)) (by rfl) T.pair_of.g T.pair_of.F.kp T.pair_of.b .nil (passes_call (takes_of rfl rfl rfl rfl) (fun _ _ _ _ h => h)) (pa_cons (pe_ix ix_seq (pv 0) pe_int (fun _ _ => rfl)) pa_nil)) (pa_cons (pe_call Gpair_of (hr.mono (by decide)) (by rfl) T.pair_of.g T.pair_of.F.kp T.pair_of.b .nil (passes_call (takes_of rfl rfl rfl rfl) (fun _ _ _ _ h => h)) (pa_cons (pe_ix ix_seq (pv 0) pe_int (fun _ _ => rfl)) pa_nil)) pa_nil))))), ?_⟩
  refine r_ret (tup_two (c_call (va_cons (v_ixS (n := 0) (val_var rfl) val_c q rfl) va_nil) ⟨x, p.1, rfl, r1, fun p1 H1 s1 l1 => ?_⟩))
  refine c_call (va_cons (v_ixS (n := 1) (val_var rfl) val_c (q.same s1) rfl) va_nil) ⟨y, p.2, rfl, r2.same s1, fun p2 H2 s2 l2 => ⟨by show 2 ≤ sizeLine; decide, fun t ht => ?_⟩⟩
  have s3 := Same.new' (o := .tup [.ref p1, .ref p2]) ht
  exact k _ _ ((s1.trans s2).trans s3) ⟨t, p1, p2, rfl, upd_same, (l1.same s2).same s3, l2.same s3⟩ fun a e => by
    cases e
    exact none_of (s1.trans s2) ht
/-! ### sides -/
theorem sl_or {X : Cx} : SlR X (fun x lo hi H Q => rSlL X.K x lo hi H Q ∨ rSlT X.K x lo hi H Q) := fun pins s σ H x v vl vu lo hi sl Q I rx hs pl pu h => h.elim (fun z => sl_list pins s σ H x v vl vu lo hi sl Q I rx hs pl pu z) fun z => sl_tup pins s σ H x v vl vu lo hi sl Q I rx hs pl pu z
theorem op_catLT {X : Cx} : OpR X (binaryOp .Add) (fun x y H Q => rCat x y H Q ∨ rCatT X.K x y H Q) := fun pins s σ H x y v u Q I rx ry h => h.elim (fun z => op_cat pins s σ H x y v u Q I rx ry z) fun z => op_catT pins s σ H x y v u Q I rx ry z
def rot {α : Type} (xs : List α) : List α := xs.drop 1 ++ xs.take 1
theorem rot_len {α : Type} (xs : List α) : (rot xs).length = xs.length := by
  unfold rot
  rw [List.length_append, List.length_drop, List.length_take]
  omega
theorem cut_hi (xs : List V) : cutV xs none (some 1) = xs.take 1 := by
  unfold cutV
  show (xs.drop 0).take (HT.sIx xs.length xs.length (some ((1 : Nat) : Int)) - 0) = _
  rw [HT.sIx_nat, List.drop_zero, Nat.sub_zero]
  cases xs with
  | nil => rfl
  | cons x xs => simp
theorem cut_lo (xs : List V) : cutV xs (some 1) none = xs.drop 1 := by
  unfold cutV
  show (xs.drop (HT.sIx xs.length 0 (some ((1 : Nat) : Int)))).take (xs.length - HT.sIx xs.length 0 (some ((1 : Nat) : Int))) = _
  rw [HT.sIx_nat]
  cases xs with
  | nil => rfl
  | cons x xs =>
    have : min 1 (x :: xs).length = 1 := by simp
    rw [this]
    refine List.take_of_length_le ?_
    rw [List.length_drop]
    exact Nat.le_refl _
/-- pairs of neighbors, as values -/
def Sds (H : Hp) (xs zs : List V) : Prop := zs.length = xs.length ∧ ∀ (i : Nat) (x y : V), xs[i]? = some x → (rot xs)[i]? = some y → ∃ T, zs[i]? = some (.ref T) ∧ H T = some (.tup [x, y])
theorem lz_in {t1 t2 : TE} {σ : L2.St} {H : Hp} {Q : VK} (h : t1 σ H fun v H1 => t2 σ H1 fun w H2 => ∃ (a b : Addr) (xs ys : List V), [v, w] = [.ref a, .ref b] ∧ ((SqL K H2 a xs ∧ SqL K H2 b ys) ∨ (SqT K H2 a xs ∧ SqT K H2 b ys)) ∧ xs.length = ys.length ∧ xs.length ≤ 100000 ∧
    ∀ (d : Addr) (zs : List V) (H3 : Hp), L2.Same H2 H3 → H2 d = none → H3 d = some (.lst zs) → ZL.Zs H2 H3 xs ys zs → Q (.ref d) H3) : ZL.tLz K (tCons t1 (tCons t2 tNil)) σ H Q := h
theorem op_in {r : R2} {ta tb : TE} {σ : L2.St} {H : Hp} {Q : VK} (h : ta σ H fun x H1 => tb σ H1 fun y H2 => r x y H2 Q) : tOp r ta tb σ H Q := h
theorem slo {te : TE} {σ : L2.St} {H : Hp} {Q : VK} {v : V} {n : Int} {r : V → Option Int → Option Int → Hp → VK → Prop} (h : Val te σ H v) (q : r v (some n) none H Q) : tSl r te (tPart (tC (.int n))) tNoPart σ H Q := h _ ⟨n, rfl, q⟩
theorem shi {te : TE} {σ : L2.St} {H : Hp} {Q : VK} {v : V} {n : Int} {r : V → Option Int → Option Int → Hp → VK → Prop} (h : Val te σ H v) (q : r v none (some n) H Q) : tSl r te tNoPart (tPart (tC (.int n))) σ H Q := h _ ⟨n, rfl, q⟩
def spSides (K : PySem.W.Frag) : Sp := fun vs H Q _ => ∃ (a : Addr) (xs : List V), vs = [.ref a] ∧ Sq H a xs ∧ 2 ≤ xs.length ∧ xs.length ≤ 1000 ∧ ∀ l zs H', L2.Same H H' → H' l = some (.lst zs) → Sds H' xs zs → Q (.ref l) H'
theorem ok_sides_of (T : Txt K mg) : FnOk P w K mg base CX0 1 (fA mg "sides_of") (fDat K (fA mg "sides_of")) ["places"] (spSides K) := by
  refine T.sides_of.F.ok scsides_of (fun vs H Q E h => ?_) (fun cdv A outer s H vs Q E hr h => ?_)
  · obtain ⟨a, xs, rfl, _⟩ := h
    rfl
  obtain ⟨a, xs, rfl, hS, h2, hl, k⟩ := h
  refine ⟨_, (pss_one (ps_ret (ZL.pe_listZip (by rfl) (by rfl) T.zip (by rfl) T.list (pa_cons (pv 0) (pa_cons (pe_op op_catLT (pe_slice sl_or (pv 0) (po_some pe_int) po_none) (pe_slice sl_or (pv 0) po_none (po_some pe_int))) pa_nil))))), ?_⟩
  have n1 : xs.drop 1 ≠ [] := fun z => by
    have e : xs.length - 1 = 0 := by rw [← List.length_drop, z]; rfl
    omega
  have n2 : xs.take 1 ≠ [] := fun z => by
    have e : min 1 xs.length = 0 := by rw [← List.length_take, z]; rfl
    omega
  refine r_ret (lz_in ((val_var rfl) _ (op_in ?_)))
  rcases hS with e | e
  · refine slo (val_var rfl) (Or.inl ⟨a, xs, rfl, SqL.of e, fun p hp => ?_⟩)
    rw [cut_lo]
    have s1 := Same.new' (o := .lst (xs.drop 1)) hp
    refine shi (val_var rfl) (Or.inl ⟨a, xs, rfl, SqL.of (s1 _ _ e), fun p2 hp2 => ?_⟩)
    rw [cut_hi]
    have s2 := Same.new' (o := .lst (xs.take 1)) hp2
    refine Or.inl ⟨p, p2, _, _, rfl, rfl, s2 _ _ upd_same, upd_same, by rw [List.length_drop, List.length_take]; exact Nat.le_trans (by omega) (show 1000 ≤ sizeLine by decide), fun p3 hp3 => ?_⟩
    have s3 := Same.new' (o := .lst (xs.drop 1 ++ xs.take 1)) hp3
    exact ⟨a, p3, xs, _, rfl, .inl ⟨SqL.of (s3 _ _ (s2 _ _ (s1 _ _ e))), SqL.of upd_same⟩, (rot_len xs).symm, by omega, fun d zs H2 s4 hd hz Z => k d zs H2 (((s1.trans s2).trans s3).trans s4) hz ⟨Z.1, fun i x y hx hy => let ⟨T, h1, _, h3⟩ := Z.2 i x y hx hy; ⟨T, h1, h3⟩⟩⟩
  · refine slo (val_var rfl) (Or.inr ⟨a, xs, rfl, SqT.of e, fun z => ?_, fun p hp => ?_⟩)
    · have : HT.sIx xs.length 0 (some ((1 : Nat) : Int)) = 0 := z.1
      rw [HT.sIx_nat] at this
      omega
    rw [cut_lo]
    have s1 := Same.new' (o := .tup (xs.drop 1)) hp
    refine shi (val_var rfl) (Or.inr ⟨a, xs, rfl, SqT.of (s1 _ _ e), fun z => ?_, fun p2 hp2 => ?_⟩)
    · have : HT.sIx xs.length xs.length (some ((1 : Nat) : Int)) = xs.length := z.2
      rw [HT.sIx_nat] at this
      omega
    rw [cut_hi]
    have s2 := Same.new' (o := .tup (xs.take 1)) hp2
    refine Or.inr ⟨p, p2, _, _, rfl, rfl, SqT.of (s2 _ _ upd_same), SqT.of upd_same, n1, by rw [List.length_drop, List.length_take]; exact Nat.le_trans (by omega) (show 1000 ≤ sizeLine by decide), fun z => (n2 z).elim, fun _ p3 hp3 => ?_⟩
    have s3 := Same.new' (o := .tup (xs.drop 1 ++ xs.take 1)) hp3
    exact ⟨a, p3, xs, _, rfl, .inr ⟨SqT.of (s3 _ _ (s2 _ _ (s1 _ _ e))), SqT.of upd_same⟩, (rot_len xs).symm, by omega, fun d zs H2 s4 hd hz Z => k d zs H2 (((s1.trans s2).trans s3).trans s4) hz ⟨Z.1, fun i x y hx hy => let ⟨T, h1, _, h3⟩ := Z.2 i x y hx hy; ⟨T, h1, h3⟩⟩⟩
end
end LW

namespace LW
open PySem PySem.Spec PyProof.Rows L2 GL
section
variable {P : Program} {w : World} {K : PySem.W.Frag} {mg : Str → Option Value} {base : Heap}

def pr (x y : Int) : PyData := .tuple [.int x, .int y]
def plD (p : Rat × Rat) : PyData := .tuple [pr p.1.num (p.1.den : Int), pr p.2.num (p.2.den : Int)]
theorem lo_dp {H : Hp} {p : Addr} {q : Rat} (h : Lo H p q) : Dp K H (.ref p) (pr q.num (q.den : Int)) := .tup (SqT.of h) (.cons (.int _) (.cons (.int _) .nil))
theorem pl_dp {H : Hp} {v : V} {p : Rat × Rat} (h : PlL H v p) : Dp K H v (plD p) := by
  obtain ⟨a, x, y, rfl, e, l1, l2⟩ := h
  exact .tup (SqT.of e) (.cons (lo_dp l1) (.cons (lo_dp l2) .nil))
theorem pr_eqv (x y : Rat) : PyData.eqv (pr x.num (x.den : Int)) (pr y.num (y.den : Int)) = decide (x = y) := by
  simp only [pr, PyData.eqv, PyData.eqvAll, Bool.and_true]
  by_cases h : x = y
  · subst h; simp
  · have : ¬ (x.num = y.num ∧ x.den = y.den) := fun z => h (Rat.ext z.1 z.2)
    simp [h]
    intro h1 h2
    exact this ⟨h1, by omega⟩
theorem pl_eqv (p q : Rat × Rat) : PyData.eqv (plD p) (plD q) = decide (p = q) := by
  show (PyData.eqv (pr p.1.num (p.1.den : Int)) (pr q.1.num (q.1.den : Int)) && (PyData.eqv (pr p.2.num (p.2.den : Int)) (pr q.2.num (q.2.den : Int)) && true)) = _
  rw [pr_eqv, pr_eqv, Bool.and_true]
  by_cases h1 : p.1 = q.1 <;> by_cases h2 : p.2 = q.2 <;> simp [h1, h2, Prod.ext_iff]
theorem pl_shaped (p : Rat × Rat) : SeqAt.shaped (plD p) = true := by
  refine Bool.and_eq_true_iff.mpr ⟨by simp [plD, pr, PyData.canLay0, PyData.canLayAll0], decide_eq_true ?_⟩
  simp [plD, pr, PyData.depth, PyData.depthAll]
/-- no closed row of places -/
def NoCl (H : Hp) (v : V) : Prop := (∃ n, Is H v n ∧ n ≠ "list" ∧ n ≠ "tuple") ∨ ∃ (a : Addr) (xs : List V) (bs : List Bool), v = .ref a ∧ Sq H a xs ∧ xs.length ≤ 1000 ∧ All2 (PlQ H) xs bs ∧ (xs.length < 2 ∨ bs.all id = false)
/-- pairs of neighbors -/
def sidesR {α : Type} (ps : List α) : List (α × α) := List.zip ps (rot ps)
def spClosed : Sp := fun vs H Q _ => ∃ v, vs = [v] ∧ ((NoCl H v ∧ ∀ H', L2.Same H H' → Q .non H') ∨ ∃ (a : Addr) (xs : List V) (ps : List (Rat × Rat)), v = .ref a ∧ Sq H a xs ∧ All2 (PlR H) xs ps ∧ 2 ≤ xs.length ∧ xs.length ≤ 100 ∧
  ((∀ s ∈ sidesR ps, s.1 ≠ s.2) → ∀ t vs H', L2.Same H H' → H' t = some (.tup vs) → All2 (PlL H') vs ps → Q (.ref t) H') ∧ ((∃ s ∈ sidesR ps, s.1 = s.2) → ∀ H', L2.Same H H' → Q .non H'))
theorem q_ifOr3 {σ : L2.St} {H : Hp} {t u x : TT} {t1 tz : TS} {D : Ends} (h : t σ H fun c H1 => if (!c) = true then (if true = true then t1 { D with nx := tz D } σ H1 else tz D σ H1) else
    u σ H1 fun b H2 => if b = true then (if true = true then t1 { D with nx := tz D } σ H2 else tz D σ H2) else x σ H2 fun d H3 => if (!d) = true then t1 { D with nx := tz D } σ H3 else tz D σ H3) :
    tSeq (tIfS (tOr (tNot t) (tOr u (tNot x))) t1 tNext) tz D σ H := h
theorem all2_split {H : Hp} {vs : List V} {ps : List (Rat × Rat)} (h : All2 (PlL H) vs ps) {i : Nat} {v : V} (e : vs[i]? = some v) : ∃ p, ps[i]? = some p ∧ PlL H v p := h.get e
theorem rot_get {α β : Type} {R : α → β → Prop} {as : List α} {bs : List β} (h : All2 R as bs) : All2 R (rot as) (rot bs) := by
  have dr : ∀ {as : List α} {bs : List β}, All2 R as bs → All2 R (as.drop 1) (bs.drop 1) := fun h => by
    cases h with
    | nil => exact .nil
    | cons _ t => exact t
  have tk : ∀ {as : List α} {bs : List β}, All2 R as bs → All2 R (as.take 1) (bs.take 1) := fun h => by
    cases h with
    | nil => exact .nil
    | cons r t => exact .cons r .nil
  have ap : ∀ {as as' : List α} {bs bs' : List β}, All2 R as bs → All2 R as' bs' → All2 R (as ++ as') (bs ++ bs') := fun h1 h2 => by
    induction h1 with
    | nil => exact h2
    | cons r _ ih => exact .cons r ih
  exact ap (dr h) (tk h)
theorem zip_get {α β : Type} {xs : List α} {ys : List β} {i : Nat} {x : α} {y : β} (h1 : xs[i]? = some x) (h2 : ys[i]? = some y) : (List.zip xs ys)[i]? = some (x, y) := by
  rw [List.getElem?_zip_eq_some]
  exact ⟨h1, h2⟩
theorem l_lcCall2 {sp : Sp} {E : XK} {ta : TA} {ws : List V} {σ : L2.St} {H : Hp} {g : TG} {te : TE} {vs : List Nat} {Q : VK} (h : VA ta σ H ws) (q : ∀ Q' : VK, (∀ a H1, tLc (iList K (tC (.ref a))) g tYes te vs σ H1 Q → Q' (.ref a) H1) → sp ws H Q' E) : tLc (iList K (tCall sp [] E ta)) g tYes te vs σ H Q :=
  c_call h (q _ fun a H1 z => z)
end
end LW

namespace LW
open PySem PySem.Spec PyProof.Rows L2 GL
section
variable {P : Program} {w : World} {K : PySem.W.Frag} {mg : Str → Option Value} {base : Heap}

/-! ### the grid -/
theorem q_two {te : TE} {i j : Nat} {tz : TS} {D : Ends} {σ : L2.St} {H : Hp} (h : te σ H fun v H1 => gTup K 2 (gCons (gName i) (gCons (gName j) gNil)) v σ H1 fun σ2 H2 => tz D σ2 H2) : tSeq (tAsg te (gTup K 2 (gCons (gName i) (gCons (gName j) gNil)))) tz D σ H := h
theorem q_par {ta : TA} {tz : TS} {D : Ends} {σ : L2.St} {H : Hp} {i j : Nat} (h : ta σ H fun vs H1 => ∃ v w, vs = [v, w] ∧ tz D ((σ.set i (some v)).set j (some w)) H1) : tSeq (tPar i j ta) tz D σ H := h
def sc (D : Nat) (q : Rat) : Int := q.num * ((D / q.den : Nat) : Int)
def Grid (H : Hp) (Dx Dy : Nat) (v : V) (p : Rat × Rat) : Prop := ∃ T, v = .ref T ∧ H T = some (.tup [.int (sc Dx p.1), .int (sc Dy p.2)])
theorem Grid.same {H H' : Hp} {Dx Dy : Nat} {v : V} {p : Rat × Rat} (h : Grid H Dx Dy v p) (s : L2.Same H H') : Grid H' Dx Dy v p := by
  obtain ⟨T, e, t⟩ := h
  exact ⟨T, e, s _ _ t⟩
theorem Grid.upd {H : Hp} {Dx Dy : Nat} {v : V} {p : Rat × Rat} {F : Addr} {xs : List V} {o : HO} (h : Grid H Dx Dy v p) (e : H F = some (.lst xs)) : Grid (upd H F o) Dx Dy v p := by
  obtain ⟨T, e1, t⟩ := h
  refine ⟨T, e1, ?_⟩
  rw [upd_ne (fun z => by rw [z, e] at t; cases t)]
  exact t
def GridRow (H : Hp) (Dx Dy : Nat) (v : V) (ps : List (Rat × Rat)) : Prop := ∃ f ts, v = .ref f ∧ H f = some (.lst ts) ∧ All2 (Grid H Dx Dy) ts ps
/-- rows of places as told -/
def RowsL (K : PySem.W.Frag) (H : Hp) (rows : List V) (pss : List (List (Rat × Rat))) : Prop := All2 (fun v ps => ∃ r ls, v = .ref r ∧ Seq K H r ls ∧ All2 (PlL H) ls ps) rows pss
def spGrid (K : PySem.W.Frag) : Sp := fun vs H Q _ => ∃ (R : Addr) (rows : List V) (pss : List (List (Rat × Rat))) (n : Nat), vs = [.ref R] ∧ H R = some (.lst rows) ∧ RowsL K H rows pss ∧ rows.length ≤ 100 ∧ pss.flatten.length ≤ 100 ∧ n * pss.flatten.length + n ≤ 900 ∧
  (∀ p ∈ pss.flatten, Sm n p.1 ∧ Sm n p.2) ∧ ∀ (Dx Dy : Nat) (F : Addr) (fs : List V) (H' : Hp), 0 < Dx → 0 < Dy → Dx ≤ 2 ^ (n * pss.flatten.length) → Dy ≤ 2 ^ (n * pss.flatten.length) → (∀ p ∈ pss.flatten, p.1.den ∣ Dx) → (∀ p ∈ pss.flatten, p.2.den ∣ Dy) → L2.Same H H' → H' F = some (.lst fs) → All2 (GridRow H' Dx Dy) fs pss → Q (.ref F) H'
theorem flat_at {α : Type} : ∀ {xss : List (List α)} {i k : Nat} {xs : List α} {x : α}, xss[i]? = some xs → xs[k]? = some x → xss.flatten[((xss.take i).map List.length).sum + k]? = some x
  | [], i, k, xs, x, h, _ => by simp at h
  | ys :: xss, 0, k, xs, x, h, hk => by
    simp at h
    subst h
    simp
    rw [List.getElem?_append_left (List.getElem?_eq_some_iff.mp hk).1]
    exact hk
  | ys :: xss, i + 1, k, xs, x, h, hk => by
    have ih := flat_at (xss := xss) (i := i) (by simpa using h) hk
    simp only [List.take_succ_cons, List.map_cons, List.sum_cons, List.flatten_cons]
    rw [Nat.add_assoc, List.getElem?_append_right (Nat.le_add_right _ _), Nat.add_sub_cancel_left]
    exact ih
theorem flat_len {α : Type} : ∀ xss : List (List α), xss.flatten.length = (xss.map List.length).sum
  | [] => rfl
  | xs :: xss => by rw [List.flatten_cons, List.length_append, flat_len xss, List.map_cons, List.sum_cons]
def offs {α : Type} (xss : List (List α)) (i : Nat) : Nat := ((xss.take i).map List.length).sum
theorem offs_all {α : Type} (xss : List (List α)) : offs xss xss.length = xss.flatten.length := by
  unfold offs
  rw [List.take_length, flat_len]
theorem offs_succ {α : Type} {xss : List (List α)} {i : Nat} {xs : List α} (h : xss[i]? = some xs) : offs xss (i + 1) = offs xss i + xs.length := by
  unfold offs
  rw [List.take_succ, List.map_append, List.sum_append, h]
  simp
theorem offs_le {α : Type} {xss : List (List α)} (i : Nat) : offs xss i ≤ xss.flatten.length := by
  rw [flat_len]
  unfold offs
  have e := List.take_append_drop i xss
  calc ((xss.take i).map List.length).sum ≤ ((xss.take i).map List.length).sum + ((xss.drop i).map List.length).sum := Nat.le_add_right _ _
    _ = (xss.map List.length).sum := by rw [← List.sum_append, ← List.map_append, e]
/-- the values of the rows, by their lengths -/
theorem vals_of {K : PySem.W.Frag} {H : Hp} {rows : List V} {pss : List (List (Rat × Rat))} (h : RowsL K H rows pss) : ∃ xss : List (List V), All2 (fun xs ps => All2 (PlL H) xs ps) xss pss ∧ rows.length = xss.length ∧ ∀ (i : Nat) (v : V) (xs : List V), rows[i]? = some v → xss[i]? = some xs → ∃ r, v = V.ref r ∧ Seq K H r xs := by
  unfold RowsL at h
  induction h with
  | nil => exact ⟨[], .nil, rfl, fun i v xs e => by simp at e⟩
  | cons h t ih =>
    obtain ⟨r, ls, rfl, q, al⟩ := h
    obtain ⟨xss, a, l, g⟩ := ih
    refine ⟨ls :: xss, .cons al a, by rw [List.length_cons, List.length_cons, l], fun i v xs e1 e2 => ?_⟩
    cases i with
    | zero => simp at e1 e2; subst e1 e2; exact ⟨r, rfl, q⟩
    | succ i => exact g i v xs (by simpa using e1) (by simpa using e2)
theorem off_eq {K : PySem.W.Frag} {H : Hp} {xss : List (List V)} {pss : List (List (Rat × Rat))} (h : All2 (fun xs ps => All2 (PlL H) xs ps) xss pss) (i : Nat) : off xss i = offs pss i := by
  unfold off offs
  induction h generalizing i with
  | nil => simp
  | cons r t ih =>
    cases i with
    | zero => rfl
    | succ i => simp only [List.take_succ_cons, List.map_cons, List.sum_cons, ih i, r.len]
theorem off_full {K : PySem.W.Frag} {H : Hp} {xss : List (List V)} {pss : List (List (Rat × Rat))} (h : All2 (fun xs ps => All2 (PlL H) xs ps) xss pss) : off xss xss.length = pss.flatten.length := by
  rw [off_eq (K := K) h, h.len, offs_all]
theorem ok_grid_of (T : Txt K mg) : FnOk P w K mg base CX0 4 (fA mg "grid_of") (fDat K (fA mg "grid_of")) ["rows"] (spGrid K) := by
  have Gwhole_row := ok_whole_row (P := P) (w := w) (base := base) T
  refine T.grid_of.F.ok scgrid_of (fun vs H Q E h => ?_) (fun cdv A outer s H vs Q E hr h => ?_)
  · obtain ⟨R, rows, pss, n, rfl, _⟩ := h
    rfl
  obtain ⟨R, rows, pss, n, rfl, hR, hL, hl, hN, hn, sm, k⟩ := h
  refine ⟨_, (pss_cons (ps_asg (pe_c T.whole_row Gwhole_row (hr.mono (by decide)) (pa_cons (pe_lc2 (own := [("row", 3), ("place", 4)]) (vs1 := [4]) (g := gName 3) (g1 := gName 4) (tt := tYes) (tt1 := tYes) (by rfl) scgrid_of.nd (pi_list (pv 0)) (blkOk_by (own := [("row", 3), ("place", 4)]) (N := ["rows", "wide", "_", "row", "place", "high", "points", "found", "start"]) (sc := defScope sgrid_of) (by decide +kernel)) (by decide) (fun _ _ _ _ _ => pg_name (i := 3) scgrid_of.nd rfl (Or.inl rfl)) (fun _ _ _ _ _ => pts_nil) (fun _ _ _ _ _ => (show PI _ _ _ (fun σ H R => iList K (tVar 3) σ H R ∨ iTup K (tVar 3) σ H R) from (pi_or (pi_list (pv 3)) (pi_tup (pv 3))))) (fun _ _ _ _ _ => pg_name (i := 4) scgrid_of.nd rfl (Or.inl rfl)) (fun _ _ _ _ _ => pts_nil) (fun _ _ _ _ _ => (pe_ix (show IxR _ (rIxT K) from ix_tup) (pv 4) pe_int (fun _ _ => rfl)))) pa_nil)) (pg_tup rfl (pgs_cons (pg_name (i := 1) scgrid_of.nd rfl (Or.inl rfl)) (pgs_cons (pg_name (i := 2) scgrid_of.nd rfl (Or.inl rfl)) pgs_nil))))
  (pss_cons (ps_asg (pe_c T.whole_row Gwhole_row (hr.mono (by decide)) (pa_cons (pe_lc2 (own := [("row", 3), ("place", 4)]) (vs1 := [4]) (g := gName 3) (g1 := gName 4) (tt := tYes) (tt1 := tYes) (by rfl) scgrid_of.nd (pi_list (pv 0)) (blkOk_by (own := [("row", 3), ("place", 4)]) (N := ["rows", "wide", "_", "row", "place", "high", "points", "found", "start"]) (sc := defScope sgrid_of) (by decide +kernel)) (by decide) (fun _ _ _ _ _ => pg_name (i := 3) scgrid_of.nd rfl (Or.inl rfl)) (fun _ _ _ _ _ => pts_nil) (fun _ _ _ _ _ => (show PI _ _ _ (fun σ H R => iList K (tVar 3) σ H R ∨ iTup K (tVar 3) σ H R) from (pi_or (pi_list (pv 3)) (pi_tup (pv 3))))) (fun _ _ _ _ _ => pg_name (i := 4) scgrid_of.nd rfl (Or.inl rfl)) (fun _ _ _ _ _ => pts_nil) (fun _ _ _ _ _ => (pe_ix (show IxR _ (rIxT K) from ix_tup) (pv 4) pe_int (fun _ _ => rfl)))) pa_nil)) (pg_tup rfl (pgs_cons (pg_name (i := 5) scgrid_of.nd rfl (Or.inl rfl)) (pgs_cons (pg_name (i := 2) scgrid_of.nd rfl (Or.inl rfl)) pgs_nil))))
  (pss_cons (ps_set (i := 6) scgrid_of.nd rfl (Or.inl rfl) (ZL.pe_listZip (by rfl) (by rfl) T.zip (by rfl) T.list (pa_cons (pv 1) (pa_cons (pv 5) pa_nil))))
  (pss_cons (ps_par (i := 7) (j := 8) (by rfl) scgrid_of.nd rfl rfl (by decide) rfl rfl (pa_cons (pe_lst pa_nil) (pa_cons pe_int pa_nil)) (by rfl))
  (pss_cons (ps_for PassesOwn.never rfl (pi_list (pv 0)) (pg_name (i := 3) scgrid_of.nd rfl (Or.inl rfl))
  (pss_cons (ps_expr (pe_bm PySem.F.plainAttrs_list PySem.F.slot_list_append PySem.F.type_list_append mt_append (pv 7) (pa_cons (pe_slice sl_list (pv 6) (po_some (pv 8)) (po_some (pe_op op_add (pv 8) (pe_callB call_len_seq (by rfl) T.len PySem.boot_len (pa_cons (pv 3) pa_nil))))) pa_nil)))
  (pss_one (ps_set (i := 8) scgrid_of.nd rfl (Or.inl rfl) (pe_op op_add (pv 8) (pe_callB call_len_seq (by rfl) T.len PySem.boot_len (pa_cons (pv 3) pa_nil)))))))
  (pss_one (ps_ret (pv 7)))))))), ?_⟩
  obtain ⟨xss, al, lx, rw_⟩ := vals_of hL
  have full := off_full (K := K) al
  have lp : rows.length = pss.length := by rw [lx, al.len]
  -- one of both rows of ratios
  have wide : ∀ {f : Rat × Rat → Rat} {j : Nat} {σ : L2.St} {H1 : Hp} {Q' : VK} (hj : j = 0 ∧ f = Prod.fst ∨ j = 1 ∧ f = Prod.snd), σ.length = 9 → σ[0]? = some (some (.ref R)) → L2.Same H H1 →
      (∀ (p l : Addr) (D : Nat) (H' : Hp), L2.Same H1 H' → 0 < D → D ≤ 2 ^ (n * pss.flatten.length) → (∀ p ∈ pss.flatten, (f p).den ∣ D) → H' p = some (.tup [.ref l, .int (D : Int)]) → H' l = some (.lst ((tops D (pss.flatten.map f)).map V.int)) → Q' (.ref p) H') →
      tCall spWhole [] E0 (tCons (tLc2 (iList K (tVar 0)) (gName 3) tYes (fun σ H R => iList K (tVar 3) σ H R ∨ iTup K (tVar 3) σ H R) (gName 4) tYes (tOp (rIxT K) (tVar 4) (tC (.int (j : Int)))) [3, 4] [4]) tNil) σ H1 Q' := by
    intro f j σ H1 Q' hj hσ h0 s1 q
    obtain ⟨x0, x1, x2, x3, x4, x5, x6, x7, x8, rfl⟩ : ∃ x0 x1 x2 x3 x4 x5 x6 x7 x8, σ = [x0, x1, x2, x3, x4, x5, x6, x7, x8] := by
      match σ, hσ with
      | [x0, x1, x2, x3, x4, x5, x6, x7, x8], _ => exact ⟨_, _, _, _, _, _, _, _, _, rfl⟩
    cases h0
    refine call_1 (l_lc2 (R := fun i v H2 => ∃ p, pss.flatten[i]? = some p ∧ ∃ a, v = .ref a ∧ Lo H2 a (f p)) (fun i v H2 H3 s ⟨p, h1, a, h2, h3⟩ => ⟨p, h1, a, h2, h3.same s⟩) (fun i v H2 D ys zs ⟨p, h1, a, h2, h3⟩ e => ⟨p, h1, a, h2, ?_⟩) (val_var rfl) (SqL.of (s1 _ _ hR)) lx (fun i v xs e1 e2 => ?_) (by rw [full]; omega) (fun _ => rfl) (fun _ _ => rfl) (by show 3 < 9; decide) (fun i v xs m x H2 e1 e2 e3 s2 => ?_) (fun p ys H2 s2 e2 r2 => ?_))
    · unfold Lo at h3 ⊢
      rw [upd_ne (fun z => by rw [z, e] at h3; cases h3)]
      exact h3
    · obtain ⟨r, e, sq⟩ := rw_ i v xs e1 e2
      exact ⟨r, e, sq.same s1⟩
    · obtain ⟨ps, hp, a⟩ := al.get e2
      obtain ⟨p, hpk, b, x', y', rfl, eb, l1, l2⟩ := a.get e3
      have fl := flat_at hp hpk
      rw [off_eq (K := K) al]
      have s12 := s1.trans s2
      rcases hj with ⟨rfl, rfl⟩ | ⟨rfl, rfl⟩
      · exact em_val (v_ixT (n := 0) (val_var rfl) val_c (SqT.of (s12 _ _ eb)) rfl) ⟨p, fl, x', rfl, l1.same s12⟩
      · exact em_val (v_ixT (n := 1) (val_var rfl) val_c (SqT.of (s12 _ _ eb)) rfl) ⟨p, fl, y', rfl, l2.same s12⟩
    · rw [full] at r2
      refine (show spWhole ([.ref p] ++ []) H2 Q' E0 from ?_)
      refine ⟨p, pss.flatten.map f, n, rfl, ⟨ys, e2, All2.mk (by rw [r2.2, List.length_map]) fun i v q2 hv hq => ?_⟩, fun q2 hq => ?_, by rw [List.length_map]; exact hn, by rw [List.length_map]; omega, fun p2 l D H3 s3 d0 dl dd e3 e4 => q p2 l D H3 (s2.trans s3) d0 (by rw [List.length_map] at dl; exact dl) (fun p hp => dd _ (List.mem_map_of_mem hp)) e3 e4⟩
      · obtain ⟨p3, hp3, a, e5, lo⟩ := r2.1.get hv
        rw [Nat.zero_add] at hp3
        rw [List.getElem?_map, hp3] at hq
        cases hq
        exact ⟨a, e5, lo⟩
      · obtain ⟨p3, hp3, rfl⟩ := List.mem_map.mp hq
        rcases hj with ⟨_, rfl⟩ | ⟨_, rfl⟩
        · exact (sm p3 hp3).1
        · exact (sm p3 hp3).2
  refine q_two (wide (f := Prod.fst) (j := 0) (.inl ⟨rfl, rfl⟩) rfl rfl (L2.Same.refl H) fun px lX Dx H1 s1 dx0 dxl dxd epx elx => g_two (SqT.of epx) ?_)
  refine q_two (wide (f := Prod.snd) (j := 1) (.inr ⟨rfl, rfl⟩) rfl rfl s1 fun py lY Dy H2 s2 dy0 dyl dyd epy ely => g_two (SqT.of epy) ?_)
  have elx2 := s2 _ _ elx
  have lenx : ((tops Dx (pss.flatten.map Prod.fst)).map V.int).length = pss.flatten.length := by unfold tops; rw [List.length_map, List.length_map, List.length_map]
  have leny : ((tops Dy (pss.flatten.map Prod.snd)).map V.int).length = pss.flatten.length := by unfold tops; rw [List.length_map, List.length_map, List.length_map]
  refine q_asg (lz_in ((val_var rfl) _ ((val_var rfl) _ ⟨lX, lY, _, _, rfl, .inl ⟨SqL.of elx2, SqL.of ely⟩, by rw [lenx, leny], by rw [lenx]; omega, fun Z zs H3 s3 nZ eZ hz => ?_⟩)))
  have zl : zs.length = pss.flatten.length := by rw [hz.1, lenx]
  have pts : All2 (Grid H3 Dx Dy) zs pss.flatten := All2.mk zl fun i v p hv hp => by
    obtain ⟨U, e1, _, e3⟩ := hz.2 i (.int (sc Dx p.1)) (.int (sc Dy p.2)) (by unfold tops; rw [List.getElem?_map, List.getElem?_map, List.getElem?_map, hp]; rfl) (by unfold tops; rw [List.getElem?_map, List.getElem?_map, List.getElem?_map, hp]; rfl)
    rw [hv] at e1
    cases e1
    exact ⟨U, rfl, e3⟩
  have s123 := (s1.trans s2).trans s3
  refine q_par (ta_two (l_lst va_nil (by decide) fun F hF => (val_c _ ⟨_, _, rfl, ?_⟩)))
  have s4 := Same.new' (o := .lst []) hF
  refine q_forL (K := K) (val_var rfl) (SqL.of (s4 _ _ (s123 _ _ hR))) (fun i σ H5 => ∃ (fs : List V) (z : Option V), σ = [some (.ref R), some (.ref lX), some (.int (Dy : Int)), z, none, some (.ref lY), some (.ref Z), some (.ref F), some (.int (offs pss i : Int))] ∧
    (∀ b o, H3 b = some o → H5 b = some o) ∧ H5 F = some (.lst fs) ∧ fs.length = i ∧ ∀ (j : Nat) (v : V) (ps : List (Rat × Rat)), fs[j]? = some v → pss[j]? = some ps → GridRow H5 Dx Dy v ps ∧ v ≠ .ref F) ⟨[], none, rfl, fun b o e => s4 _ _ e, upd_same, rfl, fun j v ps e => by simp at e⟩ (fun i σ H5 _ ⟨fs, z, _, s5, _⟩ => SqL.of (s5 _ _ (s123 _ _ hR))) ?_ ?_
  · rintro i v σ H5 hv ⟨fs, z, rfl, s5, eF, fl, gr⟩
    have hi : i < rows.length := (List.getElem?_eq_some_iff.mp hv).1
    have hp : pss[i]? = some (pss[i]'(by omega)) := List.getElem?_eq_getElem _
    generalize pss[i]'(by omega) = ps at hp
    obtain ⟨ps', hp', r, ls, rfl, sq, al2⟩ := All2.get hL hv
    rw [hp] at hp'
    cases hp'
    have lls := al2.len
    have s15 : L2.Same H H5 := fun b o e => s5 _ _ (s123 _ _ e)
    refine g_name ?_
    have osucc := offs_succ hp
    have ole : offs pss i + ps.length ≤ pss.flatten.length := by rw [← osucc]; exact offs_le _
    have nFH : H F = none := none_of s123 hF
    have lenR : ∀ {σ : L2.St} {H6 : Hp}, L2.Same H H6 → σ[3]? = some (some (.ref r)) → Val (tCB (fun xs H Q => ∃ p ys, xs = [.ref p] ∧ (SqL K H p ys ∨ SqT K H p ys) ∧ Q (.int ys.length) H) (tCons (tVar 3) tNil)) σ H6 (.int (ps.length : Int)) := fun s6 e => by
      have := v_len (K := K) (te := tVar 3) (val_var e) (sq.same s6)
      rw [lls] at this
      exact this
    refine q_app0 (val_var rfl) eF ((val_var rfl) _ ((val_var rfl) _ ⟨_, rfl, (v_add (i := (offs pss i : Int)) (j := (ps.length : Int)) (val_var rfl) (lenR s15 rfl)) _ ⟨_, rfl, Z, zs, rfl, SqL.of (s5 _ _ eZ), fun p hp0 => ?_⟩⟩))
    have s6 := Same.new' (o := .lst (cutV zs (some (offs pss i : Int)) (some ((offs pss i : Int) + (ps.length : Int))))) hp0
    have nF : p ≠ F := fun z => by rw [z, eF] at hp0; cases hp0
    refine ⟨F, fs, .ref p, rfl, rfl, s6 _ _ eF, Nat.lt_of_lt_of_le (show fs.length < 1000 by omega) (by decide), ?_⟩
    have cut : cutV zs (some (offs pss i : Int)) (some ((offs pss i : Int) + (ps.length : Int))) = (zs.drop (offs pss i)).take ps.length := by
      unfold cutV
      rw [show ((offs pss i : Int) + (ps.length : Int)) = ((offs pss i + ps.length : Nat) : Int) by omega, HT.sIx_nat, HT.sIx_nat]
      rw [show min (offs pss i) zs.length = offs pss i by omega, show min (offs pss i + ps.length) zs.length - offs pss i = ps.length by omega]
    rw [cut] at s6 ⊢
    have ep : upd (upd H5 p (.lst ((zs.drop (offs pss i)).take ps.length))) F (.lst (fs ++ [.ref p])) p = some (.lst ((zs.drop (offs pss i)).take ps.length)) := by rw [upd_ne nF, upd_same]
    refine (v_add (i := (offs pss i : Int)) (j := (ps.length : Int)) (val_var rfl) (lenR (fun b o e => ?_) rfl)) _ ?_
    · have hb : b ≠ F := fun z => by rw [z, nFH] at e; cases e
      rw [upd_ne hb]
      exact s6 _ _ (s15 _ _ e)
    · refine ⟨fs ++ [.ref p], some (.ref r), by rw [osucc]; rfl, fun b o e => ?_, upd_same, by rw [List.length_append, fl]; rfl, fun j v ps' e1 e2 => ?_⟩
      · have hb : b ≠ F := fun z => by rw [z, hF] at e; cases e
        rw [upd_ne hb]
        exact s6 _ _ (s5 _ _ e)
      · rcases Nat.lt_or_ge j fs.length with lt | ge
        · rw [List.getElem?_append_left lt] at e1
          obtain ⟨⟨f, ts, rfl, ef, gd⟩, nv⟩ := gr j v ps' e1 e2
          have nf : f ≠ F := fun z => nv (by rw [z])
          refine ⟨⟨f, ts, rfl, ?_, gd.imp fun _ _ q => (q.same s6).upd (s6 _ _ eF)⟩, nv⟩
          rw [upd_ne nf]
          exact s6 _ _ ef
        · have ej : j = i := by
            have := (List.getElem?_eq_some_iff.mp e1).1
            rw [List.length_append] at this
            simp at this
            omega
          subst ej
          rw [List.getElem?_append_right ge, show j - fs.length = 0 by omega] at e1
          cases e1
          rw [hp] at e2
          cases e2
          refine ⟨⟨p, _, rfl, ep, All2.mk (by rw [List.length_take, List.length_drop]; omega) fun m x q hx hq => ?_⟩, fun z => nF (by cases z; rfl)⟩
          have hm : m < ps.length := (List.getElem?_eq_some_iff.mp hq).1
          rw [List.getElem?_take_of_lt hm, List.getElem?_drop] at hx
          obtain ⟨q', hq', gd⟩ := pts.get hx
          rw [show pss.flatten[offs pss j + m]? = some q from flat_at hp hq] at hq'
          cases hq'
          exact ((gd.same s5).same s6).upd (s6 _ _ eF)
  · rintro σ H5 ⟨fs, z, rfl, s5, eF, fl, gr⟩
    refine st_ret (val_var rfl) (k Dx Dy F fs H5 dx0 dy0 dxl dyl dxd dyd (fun b o e => s5 _ _ (s123 _ _ e)) eF (All2.mk (by rw [fl, lp]) fun j v ps e1 e2 => (gr j v ps e1 e2).1))
end
end LW

namespace LW
open PySem PySem.Spec PyProof.Rows L2 GL
section
variable {P : Program} {w : World} {K : PySem.W.Frag} {mg : Str → Option Value} {base : Heap}

/-! ### winding -/
def betw (a b n : Int) : Bool := (decide (a ≤ n) && decide (n ≤ b)) || (decide (b ≤ n) && decide (n ≤ a))
def spBetw : Sp := fun vs H Q _ => ∃ a b n : Int, vs = [.int a, .int b, .int n] ∧ Q (.bl (betw a b n)) H
theorem chain_in {r r' : R2} {ta tb tc : TE} {σ : L2.St} {H : Hp} {Q : VK} (h : ta σ H fun x H1 => tb σ H1 fun y H2 => r x y H2 fun z H3 => ∃ k, z = .bl k ∧ (if k = true then tc σ H3 fun w' H4 => r' y w' H4 Q else Q (.bl false) H3)) : tChain r r' ta tb tc σ H Q := h
theorem v_chain {g g' : Int → Int → Bool} {ta tb tc : TE} {σ : L2.St} {H : Hp} {a b c : Int} (ha : Val ta σ H (.int a)) (hb : Val tb σ H (.int b)) (hc : Val tc σ H (.int c)) :
    Val (tChain (rI0 fun i j => .bl (g i j)) (rI0 fun i j => .bl (g' i j)) ta tb tc) σ H (.bl (g a b && g' b c)) := fun Q q => chain_in (ha _ (hb _ ⟨a, b, rfl, rfl, _, rfl, by
  cases e : g a b with
  | true =>
    rw [e, Bool.true_and] at q
    exact iteT (hc _ ⟨b, c, rfl, rfl, q⟩)
  | false =>
    rw [e, Bool.false_and] at q
    exact iteF q⟩))
abbrev P2 := Int × Int
def turnI (pt a b : P2) : Int := (b.1 - a.1) * (pt.2 - a.2) - (b.2 - a.2) * (pt.1 - a.1)
def onI (pt a b : P2) : Bool := decide (turnI pt a b = 0) && (betw a.1 b.1 pt.1 && betw a.2 b.2 pt.2)
def upI (pt a b : P2) : Bool := (decide (a.2 ≤ pt.2) && decide (pt.2 < b.2)) && decide (turnI pt a b > 0)
def dnI (pt a b : P2) : Bool := (decide (b.2 ≤ pt.2) && decide (pt.2 < a.2)) && decide (turnI pt a b < 0)
/-- how often the sides go round the place, None on a side -/
def windS (pt : P2) : List (P2 × P2) → Int → Option Int
  | [], f => some f
  | (a, b) :: r, f => if onI pt a b = true then none else windS pt r ((f + if upI pt a b = true then 1 else 0) - if dnI pt a b = true then 1 else 0)
theorem windS_cons (pt a b : P2) (r : List (P2 × P2)) (f : Int) : windS pt ((a, b) :: r) f = if onI pt a b = true then none else windS pt r ((f + if upI pt a b = true then 1 else 0) - if dnI pt a b = true then 1 else 0) := rfl
def wv : Option Int → V
  | none => .non
  | some z => .int z
def scp (Dx Dy : Nat) (p : Rat × Rat) : P2 := (sc Dx p.1, sc Dy p.2)
/-- BadRow(row) leaves -/
def BadRw (mg : Str → Option Value) (H : Hp) (v : V) (E : XK) : Prop := ∀ (d : Addr) (H' : Hp), L2.Same H H' → H d = none → H' d = some (.xd [("row", v)]) → E (.ref (fA mg "BadRow")) (some d) H'
theorem BadRw.from {H H' : Hp} {v : V} {E : XK} (b : BadRw mg H v E) (s : L2.Same H H') : BadRw mg H' v E := fun d H2 s2 n e => b d H2 (s.trans s2) (s.free n) e
def spWind (mg : Str → Option Value) : Sp := fun vs H Q E => ∃ v u, vs = [v, u] ∧ ((NoCl H v ∧ BadRw mg H v E) ∨ ∃ (a : Addr) (xs : List V) (ps : List (Rat × Rat)), v = .ref a ∧ Sq H a xs ∧ All2 (PlR H) xs ps ∧ 2 ≤ xs.length ∧ xs.length ≤ 60 ∧
  (((∃ s ∈ sidesR ps, s.1 = s.2) ∧ BadRw mg H v E) ∨ ((∀ s ∈ sidesR ps, s.1 ≠ s.2) ∧ PlQ H u false ∧ BadRw mg H u E) ∨
  ((∀ s ∈ sidesR ps, s.1 ≠ s.2) ∧ ∃ (p : Rat × Rat) (n : Nat), PlR H u p ∧ n * (ps.length + 1) + n ≤ 900 ∧ (∀ q ∈ p :: ps, Sm n q.1 ∧ Sm n q.2) ∧
    ∀ (Dx Dy : Nat) (H' : Hp), 0 < Dx → 0 < Dy → (∀ q ∈ p :: ps, q.1.den ∣ Dx ∧ q.2.den ∣ Dy) → L2.Same H H' → Q (wv (windS (scp Dx Dy p) (sidesR (ps.map (scp Dx Dy))) 0)) H')))
theorem g_ll {σ : L2.St} {H : Hp} {F f0 : Addr} {v x : V} {i j : Nat} {K' : L2.St → Hp → Prop} (h : SqL K H F [.ref f0, v]) (h0 : SqL K H f0 [x]) (q : K' ((σ.set i (some x)).set j (some v)) H) :
    gLst K 2 (gCons (gLst K 1 (gCons (gName i) gNil)) (gCons (gName j) gNil)) (.ref F) σ H K' := ⟨F, _, rfl, h, rfl, _, _, rfl, ⟨f0, _, rfl, h0, rfl, _, _, rfl, ⟨rfl, _, _, rfl, ⟨rfl, q⟩⟩⟩⟩
theorem g_22 {σ : L2.St} {H : Hp} {U A B : Addr} {a b c d : V} {i j k l : Nat} {K' : L2.St → Hp → Prop} (h : SqT K H U [.ref A, .ref B]) (h1 : SqT K H A [a, b]) (h2 : SqT K H B [c, d]) (q : K' ((((σ.set i (some a)).set j (some b)).set k (some c)).set l (some d)) H) :
    gTup K 2 (gCons (gTup K 2 (gCons (gName i) (gCons (gName j) gNil))) (gCons (gTup K 2 (gCons (gName k) (gCons (gName l) gNil))) gNil)) (.ref U) σ H K' :=
  ⟨U, _, rfl, h, rfl, _, _, rfl, g_two h1 ⟨_, _, rfl, g_two h2 ⟨rfl, q⟩⟩⟩
theorem tn {σ : L2.St} {H : Hp} {Q : List V → Hp → Prop} (h : Q [] H) : tNil σ H Q := h
theorem q_gen {te : TE} {g : TG} {tz : TS} {D : Ends} {σ : L2.St} {H : Hp} (h : te σ H fun v H1 => g v σ H1 fun σ2 H2 => tz D σ2 H2) : tSeq (tAsg te g) tz D σ H := h
theorem q_forLC {sp : Sp} {E : XK} {ta : TA} {ws : List V} {g : TG} {tb tz : TS} {D : Ends} {σ : L2.St} {H : Hp} (h : VA ta σ H ws) (q : ∀ Q' : VK, (∀ a H1, tSeq (tFor (iList K (tC (.ref a))) g tb) tz D σ H1 → Q' (.ref a) H1) → sp ws H Q' E) :
    tSeq (tFor (iList K (tCall sp [] E ta)) g tb) tz D σ H := c_call h (q _ fun a H1 z => z)
theorem ta_lst2 {t1 t2 : TE} {σ : L2.St} {H : Hp} {Q : VK} (h : t1 σ H fun v H1 => t2 σ H1 fun w H2 => 2 ≤ sizeLine ∧ ∀ q, H2 q = none → Q (.ref q) (upd H2 q (.lst [v, w]))) : tLst (tCons t1 (tCons t2 tNil)) σ H Q := h
theorem ta_lst1 {t1 : TE} {σ : L2.St} {H : Hp} {Q : VK} (h : t1 σ H fun v H1 => 1 ≤ sizeLine ∧ ∀ q, H1 q = none → Q (.ref q) (upd H1 q (.lst [v]))) : tLst (tCons t1 tNil) σ H Q := h
theorem ans_chain {te : TE} {σ : L2.St} {H : Hp} {b : Bool} (h : Val te σ H (.bl b)) : Ans (tTest te) σ H b := fun Q q => h _ ⟨b, rfl, q⟩
/-- if t: x = e (the same either way behind it) -/
theorem q_ite {t : TT} {te : TE} {tz : TS} {D : Ends} {σ : L2.St} {H : Hp} {b : Bool} {f2 : Nat} {v2 : V} (h : Ans t σ H b) (h1 : b = true → Val te σ H v2) (h2 : b = false → σ = σ.set f2 (some v2)) (q : tz D (σ.set f2 (some v2)) H) : tSeq (tIfS t (tAsg te (gName f2)) tNext) tz D σ H :=
  q_when h (fun e => h1 e _ q) fun e => by
    rw [← h2 e] at q
    exact q
theorem q_iteE {t : TT} {te : TE} {D : Ends} {σ : L2.St} {H : Hp} {b : Bool} {f2 : Nat} {v2 : V} (h : Ans t σ H b) (h1 : b = true → Val te σ H v2) (h2 : b = false → σ = σ.set f2 (some v2)) (q : D.nx (σ.set f2 (some v2)) H) : tIfS t (tAsg te (gName f2)) tNext D σ H :=
  st_if h (fun e => h1 e _ q) fun e => by
    rw [← h2 e] at q
    exact q
theorem sc_abs {n N D : Nat} {q : Rat} (sm : Sm n q) (hD : D ≤ 2 ^ N) : (sc D q).natAbs ≤ 2 ^ (n + N) := by
  unfold sc
  rw [Int.natAbs_mul, Int.natAbs_natCast, Nat.pow_add]
  exact Nat.mul_le_mul (Nat.le_of_lt sm.1) (Nat.le_trans (Nat.div_le_self _ _) hD)
theorem sub_fit {a b : Int} (ha : a.natAbs ≤ 2 ^ 900) (hb : b.natAbs ≤ 2 ^ 900) : (a - b).natAbs < 2 ^ 1000 := by
  have h : (a - b).natAbs ≤ 2 ^ 900 + 2 ^ 900 := Nat.le_trans (by omega) (Nat.add_le_add ha hb)
  have e : (2 : Nat) ^ 900 + 2 ^ 900 = 2 ^ 901 := by rw [Nat.pow_succ (n := 2) (m := 900)]; exact (Nat.mul_two _).symm
  rw [e] at h
  exact Nat.lt_of_le_of_lt h (Nat.pow_lt_pow_right (by decide) (by decide))
end
end LW

/-! xs[:0:-1]: all but the first one, from the last one on -/
namespace L2
open PySem PySem.Spec PyProof.Rows HT
theorem tr_range (n : Nat) : (List.range (n - 1)).map (fun k => n - 1 - k) = ((List.range (n - 1)).map (1 + ·)).reverse := by
  apply List.ext_getElem
  · simp
  · intro i h1 h2
    simp at h1
    rw [List.getElem_map, List.getElem_reverse]
    simp
    omega
theorem tr_pick (items : Array Value) : ((List.range (items.size - 1)).map (fun k => items.size - 1 - k)).filterMap (items[·]?) = items.toList.tail.reverse := by
  rw [tr_range, List.filterMap_reverse, PySem.pick_run, List.drop_one, List.take_of_length_le]
  rw [List.length_tail, Array.length_toList]
  exact Nat.le_refl _
theorem tr_bounds (n : Nat) (h : 1 ≤ n) : sliceBounds none (some 0) (some (-1)) n = ((n : Int) - 1, 0, -1) := by
  show ((n : Int) - 1, max (-1 : Int) (min 0 ((n : Int) - 1)), (-1 : Int)) = _
  rw [show max (-1 : Int) (min 0 ((n : Int) - 1)) = 0 by omega]
theorem tr_sr (n : Nat) (h : 1 ≤ n) : sliceRange ((n : Int) - 1) 0 (-1) = (List.range (n - 1)).map fun k => n - 1 - k := by
  unfold sliceRange
  have h1 : ¬ ((-1 : Int) > 0) := by decide
  by_cases z : (n : Int) - 1 > 0
  · have e : ((n : Int) - 1 - 0 - -1 - 1) / (- -1) = ((n - 1 : Nat) : Int) := by
      rw [show (- -1 : Int) = 1 by decide, Int.ediv_one]
      omega
    simp only [h1, if_false, z, if_true, e, Int.toNat_natCast]
    apply List.map_congr_left
    intro k hk
    have := List.mem_range.mp hk
    omega
  · have e : n = 1 := by omega
    subst e
    simp
theorem tr_slice (items : Array Value) (h : 1 ≤ items.size) : slicePick items none (some 0) (some (-1)) = items.toList.tail.reverse.toArray := by
  unfold slicePick
  rw [tr_bounds _ h]
  show ((sliceRange ((items.size : Int) - 1) 0 (-1)).filterMap (items[·]?)).toArray = _
  rw [tr_sr _ h, tr_pick]
section
variable {prog : Program} {w : World} {A : Around} {E : Value → Shared → Prop} {s : Shared}
theorem tr_adjust (n : Nat) (h : 1 ≤ n) : Builtin.Slice.sliceAdjust none (some 0) (-1) (n : Int) = ((n : Int) - 1, 0) := by
  show ((n : Int) - 1, min (0 : Int) ((n : Int) - 1)) = _
  rw [show min (0 : Int) ((n : Int) - 1) = 0 by omega]
theorem tr_places (n : Nat) (h : 1 ≤ n) : Builtin.Slice.slicePlaces ((n : Int) - 1) 0 (-1) = n - 1 := by
  unfold Builtin.Slice.slicePlaces
  have h1 : ¬ ((-1 : Int) > 0) := by decide
  simp only [h1, if_false]
  rw [show (- -1 : Int) = 1 by decide, Int.ediv_one]
  split <;> omega
theorem sliceApplied_tr {sl : Addr} {vl vu vs : Value} {n : Nat} {Q : Int × Int × Nat → Shared → Prop} (hs : s.heap.IsSliceOf sl vl vu vs) (pl : IsPart vl none) (pu : IsPart vu (some 0)) (ps : IsPart vs (some (-1))) (h1 : 1 ≤ n)
    (h : Q ((n : Int) - 1, -1, n - 1) s) : wpAny (model prog w) A (Builtin.Slice.sliceApplied (.ref sl) (pure (n : Int))) Q E s := by
  obtain ⟨os, hos, hcs, hds⟩ := id hs
  unfold Builtin.Slice.sliceApplied Builtin.Slice.sliceFields
  refine wpAny_bind (wpAny_bind (wpAny_field hos hds (x := vl) rfl (wpAny_bind (wpAny_field hos hds (x := vu) rfl (wpAny_bind (wpAny_field hos hds (x := vs) rfl (wpAny_pure ?_)))))))
  refine wpAny_bind (slicePart_ ps ?_)
  show wpAny _ _ (if ((-1 : Int) == 0) = true then _ else _) _ _ s
  rw [if_neg (by decide)]
  refine wpAny_bind (slicePart_ pl (wpAny_bind (slicePart_ pu (wpAny_bind (wpAny_pure ?_)))))
  show wpAny _ _ (match Builtin.Slice.sliceAdjust none (some 0) (-1) (n : Int) with | (lo, hi) => pure (lo, (-1 : Int), Builtin.Slice.slicePlaces lo hi (-1))) _ _ s
  rw [tr_adjust n h1]
  show wpAny _ _ (pure ((n : Int) - 1, (-1 : Int), Builtin.Slice.slicePlaces ((n : Int) - 1) 0 (-1))) _ _ s
  rw [tr_places n h1]
  exact wpAny_pure h
theorem fm_congr {α β : Type} {f g : α → Option β} : ∀ {l : List α}, (∀ x ∈ l, f x = g x) → l.filterMap f = l.filterMap g
  | [], _ => rfl
  | x :: l, h => by
    rw [List.filterMap_cons, List.filterMap_cons, h x (List.mem_cons_self ..), fm_congr fun y hy => h y (List.mem_cons_of_mem _ hy)]
theorem vals_tail : ∀ {xs : List V} {us : List Value}, Vals xs us → Vals xs.tail us.tail
  | _, _, .nil => .nil
  | _, _, .cons _ t => t
theorem tr_pick2 (xs : Array Value) : ((List.range (xs.size - 1)).filterMap fun (m : Nat) => xs[((xs.size : Int) - 1 + (m : Int) * -1).toNat]?).toArray = xs.toList.tail.reverse.toArray := by
  rw [← tr_pick, List.filterMap_map]
  congr 1
  refine fm_congr fun m hm => ?_
  have := List.mem_range.mp hm
  show xs[((xs.size : Int) - 1 + (m : Int) * -1).toNat]? = xs[xs.size - 1 - m]?
  rw [show ((xs.size : Int) - 1 + (m : Int) * -1).toNat = xs.size - 1 - m by omega]
theorem getItem_tuple_tr {prog : Program} {w : World} {A : Around} {E : Value → Shared → Prop} {s : Shared} {t sl : Addr} {items : Array Value} {vl vu vs : Value} {Q : Value → Shared → Prop} (ht : IsTup s.heap t items) (hs : s.heap.IsSliceOf sl vl vu vs) (pl : IsPart vl none) (pu : IsPart vu (some 0)) (ps : IsPart vs (some (-1))) (h1 : 1 ≤ items.size)
    (h : Q (.ref s.heap.objs.size) { s with heap := s.heap.push { cls := .type "tuple", data := .seq items.toList.tail.reverse.toArray } })
    (hsz : items.size ≤ sizeLine) : wpAny (model prog w) A (getItem (.ref t) (.ref sl)) Q E s := by
  have htake : sizeOk (.seq items.toList.tail.reverse.toArray) := by
    show items.toList.tail.reverse.toArray.size ≤ sizeLine
    rw [List.size_toArray, List.length_reverse, List.length_tail, Array.length_toList]
    omega
  obtain ⟨os, hos, hcs, hds⟩ := id hs
  have hTs : s.TypeIs (.ref sl) "slice" := ⟨os, hos, hcs⟩
  unfold getItem
  try with_reducible refine wpAny_holding ?_
  first | refine wpAny_bind (wpAny_pure ?_) | skip
  refine wpAny_bind (wpAny_sequenceKey ht.typeIs (by decide) ?_)
  refine wpAny_bind (wpAny_callSpecial?_slot (name := Str.ofString "__getitem__") ht.typeIs PyProof.Rows.slot_tuple_getitem
    (wpAny_call_entry PyProof.Rows.slot_tuple_getitem ht.typeIs entry_tuple_getitem ?_ (args_tuple_getitem _ _)))
  show wpAny _ _ (Builtin.Tuple.tupleItemsOf (.ref t) >>= _) _ _ s
  refine wpAny_bind (tupleItemsOf_ ht ?_)
  refine wpAny_bind (wpAny_typeOf hTs ?_)
  rw [if_pos (by decide)]
  refine wpAny_bind (sliceApplied_tr hs pl pu ps h1 ?_)
  have hno : ¬ ((((items.size : Int) - 1) == 0 && (-1 : Int) == 1 && (items.size - 1) == items.size) = true) := by
    simp
  show wpAny _ _ (if (((items.size : Int) - 1) == 0 && (-1 : Int) == 1 && (items.size - 1) == items.size) = true then _ else _) _ _ s
  rw [if_neg hno, tr_pick2]
  first
    | exact wpAny_bind (m := Builtin.Tuple.tupleExact _) (wpAny_newObj_type (wpAny_pure ⟨_, rfl, wpAny_pure h⟩) htake)
    | exact wpAny_bind (m := Builtin.Tuple.tupleExact _) (wpAny_newObj_type (wpAny_bind (wpAny_pure (wpAny_pure ⟨_, rfl, wpAny_pure h⟩))) htake)
    | exact wpAny_bind (wpAny_bind (m := Builtin.Tuple.tupleExact _) (wpAny_newObj_type (wpAny_pure (wpAny_pure ⟨_, rfl, wpAny_pure h⟩)) htake))
    | exact wpAny_bind (wpAny_bind (m := Builtin.Tuple.tupleExact _) (wpAny_newObj_type (wpAny_pure ⟨_, rfl, wpAny_pure h⟩) htake))
end
section
variable {X : Cx}
/-- xs[:0:-1] of a list or a tuple that is not empty -/
def tTlR (K : PySem.W.Frag) (te : TE) : TE := fun σ H Q => te σ H fun x H1 => ∃ a xs, x = .ref a ∧ 1 ≤ xs.length ∧ ((SqL K H1 a xs ∧ ∀ p, H1 p = none → Q (.ref p) (upd H1 p (.lst xs.tail.reverse))) ∨ (SqT K H1 a xs ∧ ∀ p, H1 p = none → Q (.ref p) (upd H1 p (.tup xs.tail.reverse))))
theorem pe_tlR {e : Expr} {te : TE} {k k0 : Nat} {p0 p1 p2 p3 pos : Pos} (he : PE X e te) : PE X (.Subscript e (.Slice none (some (.Constant (.int 0) k0 p0)) (some (.UnaryOp .USub (.Constant (.int 1) k p1) p2)) p3) pos) (tTlR X.K te) := by
  refine ⟨fun pins s σ H Q I h => ?_⟩
  refine Subscript_ (thn (he.run pins s σ H _ I h) fun v s1 ⟨x, H1, I1, r1, q1⟩ => ?_)
  obtain ⟨a, xs, ex, hn, q⟩ := q1
  subst ex
  cases r1
  have hst : PO X (some (.UnaryOp .USub (.Constant (.int 1) k p1) p2)) (tPart (tUn (rU fun i => .int (-i)) (tC (.int 1)))) := po_some (pe_un un_neg pe_int)
  have hz0 : PO X (some (.Constant (.int 0) k0 p0)) (tPart (tC (.int 0))) := po_some pe_int
  refine wpAny_Slice (thn (po_none.run pins s1 σ H1 (fun o H2 => o = none ∧ H2 = H1) I1 ⟨rfl, rfl⟩) fun vl s2 ⟨l, H2, I2, pl, el, e2⟩ => ?_)
  subst el e2
  refine thn (hz0.run pins s2 σ H2 (fun o H3 => o = some 0 ∧ H3 = H2) I2 ⟨0, rfl, rfl, rfl⟩) fun vu s3 ⟨u, H3, I3, pu, eu, e3⟩ => ?_
  subst eu e3
  refine thn (hst.run pins s3 σ H3 (fun o H4 => o = some (-1) ∧ H4 = H3) I3 ⟨1, rfl, -1, rfl, rfl, rfl⟩) fun vs s4 ⟨o, H4, I4, ps, eo, e4⟩ => ?_
  subst eo e4
  have I5 : Inv X pins σ H4 { s4 with heap := s4.heap.push { cls := .type "slice", data := .fields #[vl, vu, vs] } } := I4.kept (t' := s4.toks) fun b ob q => Heap.get?_push_of_some _ q
  show wpAny (model X.prog X.w) X.A (subscriptTail e (.Slice none (some (.Constant (.int 0) k0 p0)) (some (.UnaryOp .USub (.Constant (.int 1) k p1) p2)) p3) (.ref a) (.ref s4.heap.objs.size)) (EP X pins σ Q) X.xe { s4 with heap := s4.heap.push { cls := .type "slice", data := .fields #[vl, vu, vs] } }
  rcases q with ⟨hx, q⟩ | ⟨hx, q⟩
  · obtain ⟨its, r, ht, hz⟩ := I5.list hx
    have hlen := r.length
    refine tail_any (ops := [.ref a, .ref s4.heap.objs.size]) ht.isList.typeIs (PySem.slot_list_getitem.lookup) ?_ (by with_unfolding_all rfl)
    refine wpAny_getItem_list_slice ht.isList (Heap.IsSliceOf.new _ vl vu vs) pl pu ps (by decide) ?_ (by rw [List.size_toArray]; omega)
    rw [tr_slice _ (by rw [List.size_toArray]; omega)]
    refine ⟨.ref _, _, I5.laid (t' := s4.toks) (o := .lst xs.tail.reverse) (fun b ob q => Heap.get?_push_of_some _ q) (Nat.le_refl _) ?_, rfl, q _ (I5.hok.fresh (Nat.le_refl _))⟩
    exact ⟨by rw [List.length_reverse, List.length_tail]; omega, _, 0, (vals_tail r).reverse, Heap.get?_push_size _ rfl⟩
  · obtain ⟨its, r, ht, hz⟩ := I5.tuple hx
    have hlen := r.length
    refine tail_any (ops := [.ref a, .ref s4.heap.objs.size]) ht.typeIs (PyProof.Rows.slot_tuple_getitem.lookup) ?_ (by with_unfolding_all rfl)
    refine getItem_tuple_tr ht (Heap.IsSliceOf.new _ vl vu vs) pl pu ps (by rw [List.size_toArray]; omega) ?_ (by rw [List.size_toArray]; omega)
    refine ⟨.ref _, _, I5.laid (t' := s4.toks) (o := .tup xs.tail.reverse) (fun b ob q => Heap.get?_push_of_some _ q) (Nat.le_refl _) ?_, rfl, q _ (I5.hok.fresh (Nat.le_refl _))⟩
    exact ⟨by rw [List.length_reverse, List.length_tail]; omega, _, (vals_tail r).reverse, IsTup.new _ _⟩
end
end L2

namespace LW
open PySem PySem.Spec PyProof.Rows L2 GL
section
variable {P : Program} {w : World} {K : PySem.W.Frag} {mg : Str → Option Value} {base : Heap}
abbrev RP := Rat × Rat
/-! ### what the program reckons, on points -/
section
variable {α : Type} [Sub α] [Mul α] [OfNat α 0] [LT α] [LE α] [DecidableEq α] [DecidableLT α] [DecidableLE α]
def crs (a b c : α × α) : α := (b.1 - a.1) * (c.2 - a.2) - (b.2 - a.2) * (c.1 - a.1)
def sgT (a b c : α × α) : Int := if crs a b c = 0 then 0 else if 0 < crs a b c then 1 else -1
def mn (a c : α) : α := if a < c then a else c
def mx (a c : α) : α := if a < c then c else a
def meetE (e f : (α × α) × (α × α)) : Bool := decide (mn e.1.1 e.2.1 ≤ mx f.1.1 f.2.1) && decide (mn f.1.1 f.2.1 ≤ mx e.1.1 e.2.1) && decide (mn e.1.2 e.2.2 ≤ mx f.1.2 f.2.2) && decide (mn f.1.2 f.2.2 ≤ mx e.1.2 e.2.2) &&
  decide (sgT e.1 e.2 f.1 * sgT e.1 e.2 f.2 ≤ 0) && decide (sgT f.1 f.2 e.1 * sgT f.1 f.2 e.2 ≤ 0)
def haveM (es fs : List ((α × α) × (α × α))) : Bool := es.any fun e => fs.any fun f => meetE e f
end
def Bg (p : P2) : Prop := p.1.natAbs ≤ 2 ^ 900 ∧ p.2.natAbs ≤ 2 ^ 900
def PtAt (H : Hp) (v : V) (p : P2) : Prop := ∃ T, v = .ref T ∧ H T = some (.tup [.int p.1, .int p.2])
theorem PtAt.same {H H' : Hp} {v : V} {p : P2} (h : PtAt H v p) (s : L2.Same H H') : PtAt H' v p := by
  obtain ⟨T, e, t⟩ := h
  exact ⟨T, e, s _ _ t⟩
def RowAt (H : Hp) (l : Addr) (ps : List P2) : Prop := ∃ ts, H l = some (.lst ts) ∧ All2 (PtAt H) ts ps
theorem RowAt.same {H H' : Hp} {l : Addr} {ps : List P2} (h : RowAt H l ps) (s : L2.Same H H') : RowAt H' l ps := by
  obtain ⟨ts, e, al⟩ := h
  exact ⟨ts, s _ _ e, al.imp fun _ _ p => p.same s⟩
/-- a side with what bounds it -/
def EdAt (H : Hp) (v : V) (e : P2 × P2) : Prop := ∃ T A B, v = .ref T ∧ H T = some (.tup [.int (mn e.1.1 e.2.1), .int (mx e.1.1 e.2.1), .int (mn e.1.2 e.2.2), .int (mx e.1.2 e.2.2), .ref A, .ref B]) ∧ H A = some (.tup [.int e.1.1, .int e.1.2]) ∧ H B = some (.tup [.int e.2.1, .int e.2.2])
theorem EdAt.same {H H' : Hp} {v : V} {e : P2 × P2} (h : EdAt H v e) (s : L2.Same H H') : EdAt H' v e := by
  obtain ⟨T, A, B, ev, t, a, b⟩ := h
  exact ⟨T, A, B, ev, s _ _ t, s _ _ a, s _ _ b⟩
def EdsAt (H : Hp) (l : Addr) (es : List (P2 × P2)) : Prop := ∃ ts, H l = some (.lst ts) ∧ All2 (EdAt H) ts es
theorem EdsAt.same {H H' : Hp} {l : Addr} {es : List (P2 × P2)} (h : EdsAt H l es) (s : L2.Same H H') : EdsAt H' l es := by
  obtain ⟨ts, e, al⟩ := h
  exact ⟨ts, s _ _ e, al.imp fun _ _ p => p.same s⟩
def BgE (e : P2 × P2) : Prop := Bg e.1 ∧ Bg e.2
/-! ### the turn -/
def spTurn : Sp := fun vs H Q _ => ∃ (x y z : V) (a b c : P2), vs = [x, y, z] ∧ PtAt H x a ∧ PtAt H y b ∧ PtAt H z c ∧ Bg a ∧ Bg b ∧ Bg c ∧ Q (.int (sgT a b c)) H
theorem l_ifE {r : L2.R2} {t1 t2 ta tb : TE} {σ : L2.St} {H : Hp} {Q : VK} (h : t1 σ H fun x H1 => t2 σ H1 fun y H2 => r x y H2 fun z H3 => ∃ b, z = .bl b ∧ if b = true then ta σ H3 Q else tb σ H3 Q) : tIf (tTest (tOp r t1 t2)) ta tb σ H Q := h
theorem ite_sg {c : Prop} [Decidable c] {b : Bool} {A B : Prop} (e : b = decide c) (h1 : c → A) (h2 : ¬ c → B) : if b = true then A else B := by
  subst e
  by_cases h : c
  · rw [if_pos (decide_eq_true h)]
    exact h1 h
  · rw [if_neg (by rw [decide_eq_true_iff]; exact h)]
    exact h2 h
theorem l_and {t u : TT} {σ : L2.St} {H : Hp} {Q : Bool → Hp → Prop} (h : t σ H fun c H1 => if c = true then u σ H1 Q else Q false H1) : tAnd t u σ H Q := h
theorem l_or {t u : TT} {σ : L2.St} {H : Hp} {Q : Bool → Hp → Prop} (h : t σ H fun c H1 => if c = true then Q true H1 else u σ H1 Q) : tOr t u σ H Q := h
theorem t_op {r : L2.R2} {ta tb : TE} {σ : L2.St} {H : Hp} {K' : Bool → Hp → Prop} (h : ta σ H fun x H1 => tb σ H1 fun y H2 => r x y H2 fun z H3 => ∃ b, z = .bl b ∧ K' b H3) : tTest (tOp r ta tb) σ H K' := h
theorem q_un {t : TT} {t1 tz : TS} {D : Ends} {σ : L2.St} {H : Hp} (h : t σ H fun b H1 => if b = true then t1 { D with nx := tz D } σ H1 else tz D σ H1) : tSeq (tIfS t t1 tNext) tz D σ H := h
theorem st_un {t : TT} {t1 : TS} {D : Ends} {σ : L2.St} {H : Hp} (h : t σ H fun b H1 => if b = true then t1 D σ H1 else D.nx σ H1) : tIfS t t1 tNext D σ H := h
theorem not_in {t : TT} {σ : L2.St} {H : Hp} {Q : Bool → Hp → Prop} (h : t σ H fun c H1 => Q (!c) H1) : tNot t σ H Q := h
theorem tt_in {te : TE} {σ : L2.St} {H : Hp} {Q : Bool → Hp → Prop} (h : te σ H fun v H1 => ∃ b, v = .bl b ∧ Q b H1) : tTest te σ H Q := h
theorem st_forL {σ : L2.St} {H : Hp} {te : TE} {g : TG} {tb : TS} {D : Ends} {a : Addr} {xs : List V} (h : Val te σ H (.ref a)) (hx : SqL K H a xs) (Pv : Nat → L2.St → Hp → Prop) (h0 : Pv 0 σ H) (hl : ∀ i σ H, i ≤ xs.length → Pv i σ H → SqL K H a xs)
    (hs : ∀ i x σ H, xs[i]? = some x → Pv i σ H → g x σ H fun σ2 H2 => tb { D with nx := Pv (i + 1), ct := Pv (i + 1), bk := D.nx } σ2 H2) (hd : ∀ σ H, Pv xs.length σ H → D.nx σ H) : tFor (iList K te) g tb D σ H := q_forL (tz := fun D => D.nx) h hx Pv h0 hl hs hd
theorem l_lcCall {sp : Sp} {E : XK} {ta : TA} {ws : List V} {σ : L2.St} {H : Hp} {g : TG} {te : TE} {vs : List Nat} {Q : VK} (h : VA ta σ H ws) (q : ∀ Q' : VK, (∀ a H1, tLc (iList K (tC (.ref a))) g tYes te vs σ H1 Q → Q' (.ref a) H1) → sp ws H Q' E) : tLc (iList K (tCall sp [] E ta)) g tYes te vs σ H Q :=
  c_call h (q _ fun a H1 z => z)
theorem turn_nest {te : TE} {vs : List Nat} {σ : L2.St} {a b c d : V} {t ta tb : Addr} {H : Hp} {R : V → Hp → Prop} {i j k l : Nat} (ht : SqT K H t [.ref ta, .ref tb]) (h1 : SqT K H ta [a, b]) (h2 : SqT K H tb [c, d])
    (hw : wipe (((((wipe σ vs).set i (some a)).set j (some b)).set k (some c)).set l (some d)) vs = wipe σ vs) (h : EM te (((((wipe σ vs).set i (some a)).set j (some b)).set k (some c)).set l (some d)) H R) :
    Turn1 (gTup K 2 (gCons (gTup K 2 (gCons (gName i) (gCons (gName j) gNil))) (gCons (gTup K 2 (gCons (gName k) (gCons (gName l) gNil))) gNil))) te vs σ (.ref t) H R :=
  fun K' kk => ⟨t, _, rfl, ht, rfl, .ref ta, _, rfl, ta, _, rfl, h1, rfl, a, _, rfl, b, _, rfl, rfl, .ref tb, _, rfl, tb, _, rfl, h2, rfl, c, _, rfl, d, _, rfl, rfl, rfl, kk _ hw h⟩
theorem g_nest {σ : L2.St} {a b c d : V} {t ta tb : Addr} {H : Hp} {i j k l : Nat} {K' : L2.St → Hp → Prop} (ht : SqT K H t [.ref ta, .ref tb]) (h1 : SqT K H ta [a, b]) (h2 : SqT K H tb [c, d]) (q : K' ((((σ.set i (some a)).set j (some b)).set k (some c)).set l (some d)) H) :
    gTup K 2 (gCons (gTup K 2 (gCons (gName i) (gCons (gName j) gNil))) (gCons (gTup K 2 (gCons (gName k) (gCons (gName l) gNil))) gNil)) (.ref t) σ H K' :=
  ⟨t, _, rfl, ht, rfl, .ref ta, _, rfl, ta, _, rfl, h1, rfl, a, _, rfl, b, _, rfl, rfl, .ref tb, _, rfl, tb, _, rfl, h2, rfl, c, _, rfl, d, _, rfl, rfl, rfl, q⟩
theorem g_six {i j k l m n : Nat} {a b c d e f : V} {T : Addr} {σ : L2.St} {H : Hp} {K' : L2.St → Hp → Prop} (hT : SqT K H T [a, b, c, d, e, f]) (q : K' ((((((σ.set i (some a)).set j (some b)).set k (some c)).set l (some d)).set m (some e)).set n (some f)) H) :
    gTup K 6 (gCons (gName i) (gCons (gName j) (gCons (gName k) (gCons (gName l) (gCons (gName m) (gCons (gName n) gNil)))))) (.ref T) σ H K' :=
  ⟨T, _, rfl, hT, rfl, a, _, rfl, b, _, rfl, c, _, rfl, d, _, rfl, e, _, rfl, f, _, rfl, rfl, q⟩
theorem tup_six {σ : L2.St} {H : Hp} {t1 t2 t3 t4 t5 t6 : TE} {Q : VK} (h : t1 σ H fun v1 H1 => t2 σ H1 fun v2 H2 => t3 σ H2 fun v3 H3 => t4 σ H3 fun v4 H4 => t5 σ H4 fun v5 H5 => t6 σ H5 fun v6 H6 => 6 ≤ sizeLine ∧ ∀ q, H6 q = none → Q (.ref q) (upd H6 q (.tup [v1, v2, v3, v4, v5, v6]))) : tTup (tCons t1 (tCons t2 (tCons t3 (tCons t4 (tCons t5 (tCons t6 tNil)))))) σ H Q := h
theorem v_mn {σ : L2.St} {H : Hp} {t1 t2 : TE} {a c : Int} (h1 : Val t1 σ H (.int a)) (h2 : Val t2 σ H (.int c)) : Val (tIf (tTest (tOp (rI0 fun i j => .bl (decide (i < j))) t1 t2)) t1 t2) σ H (.int (mn a c)) := fun Q q => l_ifE (h1 _ (h2 _ ⟨a, c, rfl, rfl, _, rfl, ite_sg (c := a < c) rfl (fun h => h1 _ (by unfold mn at q; rw [if_pos h] at q; exact q)) (fun h => h2 _ (by unfold mn at q; rw [if_neg h] at q; exact q))⟩))
theorem v_mx {σ : L2.St} {H : Hp} {t1 t2 : TE} {a c : Int} (h1 : Val t1 σ H (.int a)) (h2 : Val t2 σ H (.int c)) : Val (tIf (tTest (tOp (rI0 fun i j => .bl (decide (i < j))) t1 t2)) t2 t1) σ H (.int (mx a c)) := fun Q q => l_ifE (h1 _ (h2 _ ⟨a, c, rfl, rfl, _, rfl, ite_sg (c := a < c) rfl (fun h => h2 _ (by unfold mx at q; rw [if_pos h] at q; exact q)) (fun h => h1 _ (by unfold mx at q; rw [if_neg h] at q; exact q))⟩))
def spEdges : Sp := fun vs H Q _ => ∃ (l : Addr) (ps : List P2), vs = [.ref l] ∧ RowAt H l ps ∧ 2 ≤ ps.length ∧ ps.length ≤ 1000 ∧ ∀ l' H', L2.Same H H' → EdsAt H' l' (sidesR ps) → Q (.ref l') H'
def spMeet : Sp := fun vs H Q _ => ∃ (l1 l2 : Addr) (es fs : List (P2 × P2)), vs = [.ref l1, .ref l2] ∧ EdsAt H l1 es ∧ EdsAt H l2 fs ∧ (∀ e ∈ es, BgE e) ∧ (∀ e ∈ fs, BgE e) ∧ Q (.bl (haveM es fs)) H
/-! ### tests that change nothing -/
def TV (t : TT) (σ : L2.St) (H : Hp) (b : Bool) : Prop := ∀ Q : Bool → Hp → Prop, Q b H → t σ H Q
theorem tv_le {t1 t2 : TE} {σ : L2.St} {H : Hp} {i j : Int} (h1 : Val t1 σ H (.int i)) (h2 : Val t2 σ H (.int j)) : TV (tTest (tOp (rI0 fun i j => .bl (decide (i ≤ j))) t1 t2)) σ H (decide (i ≤ j)) := fun Q q => h1 _ (h2 _ ⟨i, j, rfl, rfl, _, rfl, q⟩)
theorem tv_and {t u : TT} {σ : L2.St} {H : Hp} {b c : Bool} (h1 : TV t σ H b) (h2 : TV u σ H c) : TV (tAnd t u) σ H (b && c) := fun Q q => h1 _ (by
  cases b with
  | false =>
    rw [if_neg (by decide)]
    exact q
  | true =>
    rw [if_pos rfl]
    exact h2 _ q)
theorem q_cases {b : Bool} {A B : Prop} (h1 : b = true → A) (h2 : b = false → B) : if b = true then A else B := by
  cases b with
  | false =>
    rw [if_neg (by decide)]
    exact h2 rfl
  | true =>
    rw [if_pos rfl]
    exact h1 rfl
theorem sgT_le (a b c : P2) : (sgT a b c).natAbs ≤ 1 := by
  unfold sgT
  split
  · decide
  · split <;> decide
theorem sg_fit (a b c d e f : P2) : CMul (sgT a b c) (sgT d e f) := by
  have h := sgT_le a b c
  exact .inl ⟨by omega, by omega⟩
theorem v_turn {E : XK} {ta : TA} {σ : L2.St} {H : Hp} {a b c : P2} {A B C : Addr} (h : VA ta σ H [.ref A, .ref B, .ref C]) (tA : H A = some (.tup [.int a.1, .int a.2])) (tB : H B = some (.tup [.int b.1, .int b.2])) (tC : H C = some (.tup [.int c.1, .int c.2])) (bA : Bg a) (bB : Bg b) (bC : Bg c) :
    Val (tCall spTurn [] E ta) σ H (.int (sgT a b c)) := fun Q q => c_call h ⟨_, _, _, a, b, c, rfl, ⟨A, rfl, tA⟩, ⟨B, rfl, tB⟩, ⟨C, rfl, tC⟩, bA, bB, bC, q⟩
theorem meetE_eq (e f : P2 × P2) : meetE e f = ((decide (mn e.1.1 e.2.1 ≤ mx f.1.1 f.2.1) && (decide (mn f.1.1 f.2.1 ≤ mx e.1.1 e.2.1) && (decide (mn e.1.2 e.2.2 ≤ mx f.1.2 f.2.2) && decide (mn f.1.2 f.2.2 ≤ mx e.1.2 e.2.2)))) && (decide (sgT e.1 e.2 f.1 * sgT e.1 e.2 f.2 ≤ 0) && decide (sgT f.1 f.2 e.1 * sgT f.1 f.2 e.2 ≤ 0))) := by
  unfold meetE
  simp only [Bool.and_assoc]
theorem ok_turn (T : Txt K mg) : FnOk P w K mg base CX0 1 (fA mg "_turn") (fDat K (fA mg "_turn")) ["a", "b", "c"] spTurn := by
  refine T._turn.F.ok sc_turn (fun vs H Q E h => ?_) (fun cdv A outer s H vs Q E hr h => ?_)
  · obtain ⟨x, y, z, a, b, c, rfl, _⟩ := h
    rfl
  obtain ⟨x, y, z, a, b, c, rfl, ⟨ta, rfl, tA⟩, ⟨tb, rfl, tB⟩, ⟨tc, rfl, tC⟩, bA, bB, bC, k⟩ := h
  refine ⟨_, (pss_cons (ps_set (i := 3) sc_turn.nd rfl (Or.inl rfl) (pe_op op_sub (pe_op op_mulW (pe_op op_sub (pe_ix ix_tup (pv 1) pe_int (fun _ _ => rfl)) (pe_ix ix_tup (pv 0) pe_int (fun _ _ => rfl))) (pe_op op_sub (pe_ix ix_tup (pv 2) pe_int (fun _ _ => rfl)) (pe_ix ix_tup (pv 0) pe_int (fun _ _ => rfl)))) (pe_op op_mulW (pe_op op_sub (pe_ix ix_tup (pv 1) pe_int (fun _ _ => rfl)) (pe_ix ix_tup (pv 0) pe_int (fun _ _ => rfl))) (pe_op op_sub (pe_ix ix_tup (pv 2) pe_int (fun _ _ => rfl)) (pe_ix ix_tup (pv 0) pe_int (fun _ _ => rfl))))))
  (pss_cons (ps_if (pt_cmpR op_eq (pv 3) pe_int (nomark _)) (pss_one (ps_ret pe_int)) pss_nil)
  (pss_one (ps_ret (pe_ifExp (pt_cmpR op_gt (pv 3) pe_int (nomark _)) pe_int (pe_un un_neg pe_int)))))), ?_⟩
  have fa := fun {x y : Int} (h : x.natAbs ≤ 2 ^ 900) (k : y.natAbs ≤ 2 ^ 900) => sub_fit h k
  refine q_set (v := .int (crs a b c)) (v_sub (v_mul (v_sub (v_ixT (n := 0) (val_var rfl) val_c (SqT.of tB) rfl) (v_ixT (n := 0) (val_var rfl) val_c (SqT.of tA) rfl)) (v_sub (v_ixT (n := 1) (val_var rfl) val_c (SqT.of tC) rfl) (v_ixT (n := 1) (val_var rfl) val_c (SqT.of tA) rfl)) (fit_mul (fa bB.1 bA.1) (fa bC.2 bA.2)))
    (v_mul (v_sub (v_ixT (n := 1) (val_var rfl) val_c (SqT.of tB) rfl) (v_ixT (n := 1) (val_var rfl) val_c (SqT.of tA) rfl)) (v_sub (v_ixT (n := 0) (val_var rfl) val_c (SqT.of tC) rfl) (v_ixT (n := 0) (val_var rfl) val_c (SqT.of tA) rfl)) (fit_mul (fa bB.2 bA.2) (fa bC.1 bA.1)))) ?_
  unfold sgT at k
  generalize crs a b c = z at k ⊢
  refine q_cmp ((val_var rfl) _ (val_c _ ⟨rfl, _, rfl, ite_sg (c := z = 0) (by simp) (fun h => ?_) (fun h => ?_)⟩))
  · rw [if_pos h] at k
    exact r_ret (val_c _ k)
  · rw [if_neg h] at k
    refine r_ret (l_ifE ((val_var rfl) _ (val_c _ ⟨_, _, rfl, rfl, _, rfl, ite_sg (c := 0 < z) (by simp) (fun h2 => ?_) (fun h2 => ?_)⟩)))
    · rw [if_pos h2] at k
      exact val_c _ k
    · rw [if_neg h2] at k
      exact (v_neg val_c) _ k
theorem ok_edges (T : Txt K mg) : FnOk P w K mg base CX0 2 (fA mg "_edges") (fDat K (fA mg "_edges")) ["row"] spEdges := by
  have Gsides_of := ok_sides_of (P := P) (w := w) (base := base) T
  refine T._edges.F.ok sc_edges (fun vs H Q E h => ?_) (fun cdv A outer s H vs Q E hr h => ?_)
  · obtain ⟨l, ps, rfl, _⟩ := h
    rfl
  obtain ⟨l, ps, rfl, ⟨ts, e, al⟩, h2, hl, k⟩ := h
  refine ⟨_, (pss_one (ps_ret (pe_lc (own := [("a", 1), ("b", 2), ("c", 3), ("d", 4)]) (g := (gTup K 2 (gCons (gTup K 2 (gCons (gName 1) (gCons (gName 2) gNil))) (gCons (gTup K 2 (gCons (gName 3) (gCons (gName 4) gNil))) gNil)))) (tt := tYes) (by rfl) sc_edges.nd (pi_list (pe_c T.sides_of Gsides_of (hr.mono (by decide)) (pa_cons (pv 0) pa_nil))) (blkOk_by (own := [("a", 1), ("b", 2), ("c", 3), ("d", 4)]) (N := ["row", "a", "b", "c", "d"]) (sc := defScope s_edges) (by decide +kernel)) (fun _ _ _ _ _ => (pg_tup rfl (pgs_cons (pg_tup rfl (pgs_cons (pg_name (i := 1) sc_edges.nd rfl (Or.inl rfl)) (pgs_cons (pg_name (i := 2) sc_edges.nd rfl (Or.inl rfl)) pgs_nil))) (pgs_cons (pg_tup rfl (pgs_cons (pg_name (i := 3) sc_edges.nd rfl (Or.inl rfl)) (pgs_cons (pg_name (i := 4) sc_edges.nd rfl (Or.inl rfl)) pgs_nil))) pgs_nil)))) (fun _ _ _ _ _ => pts_nil) (fun _ _ _ _ _ => (pe_tup (pa_cons (pe_ifExp (pt_cmpR op_lt (pv 1) (pv 3) (nomark _)) (pv 1) (pv 3)) (pa_cons (pe_ifExp (pt_cmpR op_lt (pv 1) (pv 3) (nomark _)) (pv 3) (pv 1)) (pa_cons (pe_ifExp (pt_cmpR op_lt (pv 2) (pv 4) (nomark _)) (pv 2) (pv 4)) (pa_cons (pe_ifExp (pt_cmpR op_lt (pv 2) (pv 4) (nomark _)) (pv 4) (pv 2)) (pa_cons (pe_tup (pa_cons (pv 1) (pa_cons (pv 2) pa_nil))) (pa_cons (pe_tup (pa_cons (pv 3) (pa_cons (pv 4) pa_nil))) pa_nil))))))))))), ?_⟩
  have lts := al.len
  refine r_ret (l_lcCall (va_cons (val_var rfl) va_nil) fun Q' q' => ⟨l, ts, rfl, .inl e, by omega, by omega, fun sl zs H1 s1 es Z => q' sl H1 ?_⟩)
  have alr := rot_get al
  refine l_lcL (R := fun i v H => ∃ e, (sidesR ps)[i]? = some e ∧ EdAt H v e) (fun i v H1 H2 s ⟨e, h1, h2⟩ => ⟨e, h1, h2.same s⟩) (fun i v H D ys zs ⟨e, h1, T, A, B, ev, t, a, b⟩ hD => ⟨e, h1, T, A, B, ev, by rw [upd_ne (ne_of t hD (by intro z; cases z))]; exact t, by rw [upd_ne (ne_of a hD (by intro z; cases z))]; exact a, by rw [upd_ne (ne_of b hD (by intro z; cases z))]; exact b⟩) val_c (SqL.of es) (by rw [Z.1]; omega) (fun i v H2 hv s2 => ?_) (fun p ys H2 s2 e2 r2 => ?_)
  · have hi : i < ts.length := by rw [← Z.1]; exact (List.getElem?_eq_some_iff.mp hv).1
    have hx : ts[i]? = some ts[i] := List.getElem?_eq_getElem hi
    have hy : (rot ts)[i]? = some ((rot ts)[i]'(by rw [rot_len]; exact hi)) := List.getElem?_eq_getElem _
    generalize ts[i] = x at hx
    generalize (rot ts)[i]'(by rw [rot_len]; exact hi) = y at hy
    obtain ⟨T, hT, eT⟩ := Z.2 i x y hx hy
    rw [hT] at hv
    cases hv
    obtain ⟨a, ha, A, rfl, tA⟩ := al.get hx
    obtain ⟨b, hb, B, rfl, tB⟩ := alr.get hy
    have sA := s2 _ _ (s1 _ _ tA)
    have sB := s2 _ _ (s1 _ _ tB)
    refine turn_nest (SqT.of (s2 _ _ eT)) (SqT.of sA) (SqT.of sB) rfl (fun Q2 q2 => tup_six ((v_mn (val_var rfl) (val_var rfl)) _ ((v_mx (val_var rfl) (val_var rfl)) _ ((v_mn (val_var rfl) (val_var rfl)) _ ((v_mx (val_var rfl) (val_var rfl)) _ (l_tup (va_cons (val_var rfl) (va_cons (val_var rfl) va_nil)) (by show 2 ≤ 100000; decide) fun A' hA => l_tup (va_cons (val_var rfl) (va_cons (val_var rfl) va_nil)) (by show 2 ≤ 100000; decide) fun B' hB => ⟨by decide, fun T' hT' => ?_⟩))))))
    have u1 := Same.new' (o := .tup [V.int a.1, V.int a.2]) hA
    have u2 := Same.new' (o := .tup [V.int b.1, V.int b.2]) hB
    have u3 := Same.new' (o := .tup [V.int (mn a.1 b.1), V.int (mx a.1 b.1), V.int (mn a.2 b.2), V.int (mx a.2 b.2), V.ref A', V.ref B']) hT'
    exact q2 _ _ ((u1.trans u2).trans u3) ⟨(a, b), List.getElem?_zip_eq_some.mpr ⟨ha, hb⟩, T', A', B', rfl, upd_same, u3 _ _ (u2 _ _ upd_same), u3 _ _ upd_same⟩
  · refine k p H2 (s1.trans s2) ⟨ys, e2, All2.mk ?_ fun i v x hv hx => ?_⟩
    · rw [r2.2, Z.1, lts]
      unfold sidesR
      rw [List.length_zip, rot_len, Nat.min_self]
    · obtain ⟨e, he, ed⟩ := r2.1.get hv
      rw [Nat.zero_add, hx] at he
      cases he
      exact ed
theorem ok_have_meeting (T : Txt K mg) : FnOk P w K mg base CX0 2 (fA mg "_have_meeting") (fDat K (fA mg "_have_meeting")) ["edges", "others"] spMeet := by
  have G_turn := ok_turn (P := P) (w := w) (base := base) T
  refine T._have_meeting.F.ok sc_have_meeting (fun vs H Q E h => ?_) (fun cdv A outer s H vs Q E hr h => ?_)
  · obtain ⟨l1, l2, es, fs, rfl, _⟩ := h
    rfl
  obtain ⟨l1, l2, es, fs, rfl, E1, E2, b1, b2, k⟩ := h
  refine ⟨_, (pss_cons (ps_for PassesOwn.never rfl (pi_list (pv 0)) (pg_tup rfl (pgs_cons (pg_name (i := 2) sc_have_meeting.nd rfl (Or.inl rfl)) (pgs_cons (pg_name (i := 3) sc_have_meeting.nd rfl (Or.inl rfl)) (pgs_cons (pg_name (i := 4) sc_have_meeting.nd rfl (Or.inl rfl)) (pgs_cons (pg_name (i := 5) sc_have_meeting.nd rfl (Or.inl rfl)) (pgs_cons (pg_name (i := 6) sc_have_meeting.nd rfl (Or.inl rfl)) (pgs_cons (pg_name (i := 7) sc_have_meeting.nd rfl (Or.inl rfl)) pgs_nil)))))))
  (pss_one (ps_for PassesOwn.never rfl (pi_list (pv 1)) (pg_tup rfl (pgs_cons (pg_name (i := 8) sc_have_meeting.nd rfl (Or.inl rfl)) (pgs_cons (pg_name (i := 9) sc_have_meeting.nd rfl (Or.inl rfl)) (pgs_cons (pg_name (i := 10) sc_have_meeting.nd rfl (Or.inl rfl)) (pgs_cons (pg_name (i := 11) sc_have_meeting.nd rfl (Or.inl rfl)) (pgs_cons (pg_name (i := 12) sc_have_meeting.nd rfl (Or.inl rfl)) (pgs_cons (pg_name (i := 13) sc_have_meeting.nd rfl (Or.inl rfl)) pgs_nil)))))))
  (pss_one (ps_if (PW.pt (pw_and (pt_cmpR op_le (pv 2) (pv 9) (nomark _)) (pw_and (pt_cmpR op_le (pv 8) (pv 3) (nomark _)) (pw_and (pt_cmpR op_le (pv 4) (pv 11) (nomark _)) (pw_and1 (pt_cmpR op_le (pv 10) (pv 5) (nomark _))))))) (pss_one (ps_if (PW.pt (pw_and (pt_cmpR op_le (pe_op op_mul (pe_c T._turn G_turn (hr.mono (by decide)) (pa_cons (pv 6) (pa_cons (pv 7) (pa_cons (pv 12) pa_nil)))) (pe_c T._turn G_turn (hr.mono (by decide)) (pa_cons (pv 6) (pa_cons (pv 7) (pa_cons (pv 13) pa_nil))))) pe_int (nomark _)) (pw_and1 (pt_cmpR op_le (pe_op op_mul (pe_c T._turn G_turn (hr.mono (by decide)) (pa_cons (pv 12) (pa_cons (pv 13) (pa_cons (pv 6) pa_nil)))) (pe_c T._turn G_turn (hr.mono (by decide)) (pa_cons (pv 12) (pa_cons (pv 13) (pa_cons (pv 7) pa_nil))))) pe_int (nomark _))))) (pss_one (ps_ret pe_bl)) pss_nil)) pss_nil)))))
  (pss_one (ps_ret pe_bl))), ?_⟩
  obtain ⟨ts, e1, al1⟩ := E1
  obtain ⟨us, e2, al2⟩ := E2
  have l1' := al1.len
  have l2' := al2.len
  refine q_forL (val_var rfl) (SqL.of e1) (fun i σ H' => H' = H ∧ ∃ z2 z3 z4 z5 z6 z7 z8 z9 z10 z11 z12 z13, σ = [some (V.ref l1), some (V.ref l2), z2, z3, z4, z5, z6, z7, z8, z9, z10, z11, z12, z13] ∧ ∀ e ∈ es.take i, ∀ f ∈ fs, meetE e f = false)
    ⟨rfl, _, _, _, _, _, _, _, _, _, _, _, _, rfl, fun e he => by simp at he⟩ (fun i σ H' _ z => by rw [z.1]; exact SqL.of e1) (fun i x σ H' hx z => ?_) (fun σ H' z => ?_)
  · obtain ⟨rfl, z2, z3, z4, z5, z6, z7, z8, z9, z10, z11, z12, z13, rfl, no⟩ := z
    obtain ⟨e, he, T, A, B, rfl, tT, tA, tB⟩ := al1.get hx
    obtain ⟨bA, bB⟩ := b1 e (get_mem he)
    refine g_six (SqT.of tT) (st_forL (val_var rfl) (SqL.of e2) (fun j σ H2 => H2 = H' ∧ ∃ z8 z9 z10 z11 z12 z13, σ = [some (V.ref l1), some (V.ref l2), some (V.int (mn e.1.1 e.2.1)), some (V.int (mx e.1.1 e.2.1)), some (V.int (mn e.1.2 e.2.2)), some (V.int (mx e.1.2 e.2.2)), some (V.ref A), some (V.ref B), z8, z9, z10, z11, z12, z13] ∧ ∀ f ∈ fs.take j, meetE e f = false)
      ⟨rfl, _, _, _, _, _, _, rfl, fun f hf => by simp at hf⟩ (fun j σ H2 _ z => by rw [z.1]; exact SqL.of e2) (fun j y σ H2 hy z => ?_) (fun σ H2 z => ?_))
    · obtain ⟨rfl, z8, z9, z10, z11, z12, z13, rfl, nof⟩ := z
      obtain ⟨f, hf, U, C, D', rfl, tU, tC, tD⟩ := al2.get hy
      obtain ⟨bC, bD⟩ := b2 f (get_mem hf)
      have yes : meetE e f = true → haveM es fs = true := fun m => List.any_eq_true.mpr ⟨e, get_mem he, List.any_eq_true.mpr ⟨f, get_mem hf, m⟩⟩
      have on : ∀ (b : Bool), meetE e f = b → b = false → ∀ g ∈ fs.take (j + 1), meetE e g = false := fun b h1 h2 g hg => by
        rw [List.take_add_one, hf] at hg
        rcases List.mem_append.mp hg with h | h
        · exact nof g h
        · simp at h
          subst h
          rw [h1, h2]
      have next : meetE e f = false → (fun σ (H3 : Hp) => H3 = H2 ∧ ∃ z8 z9 z10 z11 z12 z13, σ = [some (V.ref l1), some (V.ref l2), some (V.int (mn e.1.1 e.2.1)), some (V.int (mx e.1.1 e.2.1)), some (V.int (mn e.1.2 e.2.2)), some (V.int (mx e.1.2 e.2.2)), some (V.ref A), some (V.ref B), z8, z9, z10, z11, z12, z13] ∧ ∀ f ∈ fs.take (j + 1), meetE e f = false) [some (V.ref l1), some (V.ref l2), some (V.int (mn e.1.1 e.2.1)), some (V.int (mx e.1.1 e.2.1)), some (V.int (mn e.1.2 e.2.2)), some (V.int (mx e.1.2 e.2.2)), some (V.ref A), some (V.ref B), some (V.int (mn f.1.1 f.2.1)), some (V.int (mx f.1.1 f.2.1)), some (V.int (mn f.1.2 f.2.2)), some (V.int (mx f.1.2 f.2.2)), some (V.ref C), some (V.ref D')] H2 := fun m => ⟨rfl, _, _, _, _, _, _, rfl, on _ m rfl⟩
      refine g_six (SqT.of tU) (st_un ((tv_and (tv_le (val_var rfl) (val_var rfl)) (tv_and (tv_le (val_var rfl) (val_var rfl)) (tv_and (tv_le (val_var rfl) (val_var rfl)) (tv_le (val_var rfl) (val_var rfl))))) _ (q_cases (fun c1 => ?_) (fun c1 => ?_))))
      · refine st_un ((tv_and (tv_le (v_mul (v_turn (va_cons (val_var rfl) (va_cons (val_var rfl) (va_cons (val_var rfl) va_nil))) tA tB tC bA bB bC) (v_turn (va_cons (val_var rfl) (va_cons (val_var rfl) (va_cons (val_var rfl) va_nil))) tA tB tD bA bB bD) (sg_fit ..)) val_c)
          (tv_le (v_mul (v_turn (va_cons (val_var rfl) (va_cons (val_var rfl) (va_cons (val_var rfl) va_nil))) tC tD tA bC bD bA) (v_turn (va_cons (val_var rfl) (va_cons (val_var rfl) (va_cons (val_var rfl) va_nil))) tC tD tB bC bD bB) (sg_fit ..)) val_c)) _ (q_cases (fun c2 => ?_) (fun c2 => ?_)))
        · rw [yes (by rw [meetE_eq, c1, c2]; rfl)] at k
          exact r_ret (val_c _ k)
        · exact next (by rw [meetE_eq, c1, c2]; rfl)
      · exact next (by rw [meetE_eq, c1]; rfl)
    · obtain ⟨rfl, z8, z9, z10, z11, z12, z13, rfl, nof⟩ := z
      refine ⟨rfl, _, _, _, _, _, _, _, _, _, _, _, _, rfl, fun g hg => ?_⟩
      rw [List.take_add_one, he] at hg
      rcases List.mem_append.mp hg with h | h
      · exact no g h
      · simp at h
        subst h
        intro f hf
        exact nof f (by rw [l2', List.take_length]; exact hf)
  · obtain ⟨rfl, z2, z3, z4, z5, z6, z7, z8, z9, z10, z11, z12, z13, rfl, no⟩ := z
    have e : haveM es fs = false := by
      unfold haveM
      rw [List.any_eq_false]
      intro e he
      rw [Bool.not_eq_true, List.any_eq_false]
      intro f hf
      rw [no e (by rw [l1', List.take_length]; exact he) f hf]
      decide
    rw [e] at k
    exact r_ret (val_c _ k)
end
end LW

namespace LW
open PySem PySem.Spec PyProof.Rows L2 GL
section
variable {P : Program} {w : World} {K : PySem.W.Frag} {mg : Str → Option Value} {base : Heap}
/-! ### where a point is -/
section
variable {α : Type} [Sub α] [Mul α] [OfNat α 0] [LT α] [LE α] [DecidableEq α] [DecidableLT α] [DecidableLE α]
def onB (p : α × α) (e : (α × α) × (α × α)) : Bool := if (decide (p.2 < e.1.2) != decide (p.2 < e.2.2)) = true then decide (crs e.1 e.2 p = 0) else decide (e.1.2 = p.2) && (decide (e.1.1 = p.1) || (decide (e.2.2 = p.2) && (decide (p.1 < e.1.1) != decide (p.1 < e.2.1))))
def flp (p : α × α) (e : (α × α) × (α × α)) : Bool := (decide (p.2 < e.1.2) != decide (p.2 < e.2.2)) && (decide (0 < crs e.1 e.2 p) == decide (p.2 < e.2.2))
def whG (p : α × α) : Int → List ((α × α) × (α × α)) → Int
  | f, [] => f
  | f, e :: r => if onB p e = true then 0 else whG p (if flp p e = true then -f else f) r
end
theorem v_gt {σ : L2.St} {H : Hp} {t1 t2 : TE} {i j : Int} (h1 : Val t1 σ H (.int i)) (h2 : Val t2 σ H (.int j)) : Val (tOp (rI0 fun i j => .bl (decide (j < i))) t1 t2) σ H (.bl (decide (j < i))) := v_I0 h1 h2
theorem v_neB {σ : L2.St} {H : Hp} {t1 t2 : TE} {i j : Bool} (h1 : Val t1 σ H (.bl i)) (h2 : Val t2 σ H (.bl j)) : Val (tOp rNe t1 t2) σ H (.bl (i != j)) := val_op h1 h2 fun Q q => ⟨rfl, by
  have e : (!decide (V.bl i = V.bl j)) = (i != j) := by cases i <;> cases j <;> rfl
  rw [e]
  exact q⟩
theorem v_eqB {σ : L2.St} {H : Hp} {t1 t2 : TE} {i j : Bool} (h1 : Val t1 σ H (.bl i)) (h2 : Val t2 σ H (.bl j)) : Val (tOp rEq t1 t2) σ H (.bl (i == j)) := val_op h1 h2 fun Q q => ⟨rfl, by
  have e : (decide (V.bl i = V.bl j)) = (i == j) := by cases i <;> cases j <;> rfl
  rw [e]
  exact q⟩
theorem v_eqI {σ : L2.St} {H : Hp} {t1 t2 : TE} {i j : Int} (h1 : Val t1 σ H (.int i)) (h2 : Val t2 σ H (.int j)) : Val (tOp rEq t1 t2) σ H (.bl (decide (i = j))) := val_op h1 h2 fun Q q => ⟨rfl, by
  have e : (decide (V.int i = V.int j)) = decide (i = j) := by simp
  rw [e]
  exact q⟩
theorem v_neI {σ : L2.St} {H : Hp} {t1 t2 : TE} {i j : Int} (h1 : Val t1 σ H (.int i)) (h2 : Val t2 σ H (.int j)) : Val (tOp rNe t1 t2) σ H (.bl (!decide (i = j))) := val_op h1 h2 fun Q q => ⟨rfl, by
  have e : (decide (V.int i = V.int j)) = decide (i = j) := by simp
  rw [e]
  exact q⟩
theorem tv_or {t u : TT} {σ : L2.St} {H : Hp} {b c : Bool} (h1 : Ans t σ H b) (h2 : Ans u σ H c) : Ans (tOr t u) σ H (b || c) := fun Q q => h1 _ (by
  cases b with
  | false =>
    rw [if_neg (by decide)]
    exact h2 _ q
  | true =>
    rw [if_pos rfl]
    exact q)
theorem sides_at {ps : List P2} {H : Hp} {xs zs : List V} (al : All2 (PtAt H) xs ps) (Z : Sds H xs zs) {i : Nat} {v : V} (hv : zs[i]? = some v) : ∃ T A B e, v = .ref T ∧ (sidesR ps)[i]? = some e ∧ H T = some (.tup [.ref A, .ref B]) ∧ H A = some (.tup [.int e.1.1, .int e.1.2]) ∧ H B = some (.tup [.int e.2.1, .int e.2.2]) := by
  have hi : i < xs.length := by rw [← Z.1]; exact (List.getElem?_eq_some_iff.mp hv).1
  have hx : xs[i]? = some xs[i] := List.getElem?_eq_getElem hi
  have hy : (rot xs)[i]? = some ((rot xs)[i]'(by rw [rot_len]; exact hi)) := List.getElem?_eq_getElem _
  generalize xs[i] = x at hx
  generalize (rot xs)[i]'(by rw [rot_len]; exact hi) = y at hy
  obtain ⟨T, hT, eT⟩ := Z.2 i x y hx hy
  rw [hT] at hv
  cases hv
  obtain ⟨a, ha, A, rfl, tA⟩ := al.get hx
  obtain ⟨b, hb, B, rfl, tB⟩ := (rot_get al).get hy
  exact ⟨T, A, B, (a, b), rfl, List.getElem?_zip_eq_some.mpr ⟨ha, hb⟩, eT, tA, tB⟩
theorem drop_at {α : Type} {xs : List α} {i : Nat} {x : α} (h : xs[i]? = some x) : xs.drop i = x :: xs.drop (i + 1) := by
  obtain ⟨hi, e⟩ := List.getElem?_eq_some_iff.mp h
  rw [List.drop_eq_getElem_cons hi, e]
theorem sides_mem {ps : List P2} {Pr : P2 → Prop} (h : ∀ p ∈ ps, Pr p) {e : P2 × P2} (he : e ∈ sidesR ps) : Pr e.1 ∧ Pr e.2 := by
  have z := List.of_mem_zip (show (e.1, e.2) ∈ List.zip ps (rot ps) from he)
  refine ⟨h _ z.1, h _ ?_⟩
  unfold rot at z
  rcases List.mem_append.mp z.2 with q | q
  · exact List.mem_of_mem_drop q
  · exact List.mem_of_mem_take q
theorem neg_pm {f : Int} (h : f = 1 ∨ f = -1) (b : Bool) : (if b = true then -f else f) = 1 ∨ (if b = true then -f else f) = -1 := by
  cases b <;> rcases h with rfl | rfl <;> decide
def spWhere : Sp := fun vs H Q _ => ∃ (v : V) (l : Addr) (p : P2) (ps : List P2), vs = [v, .ref l] ∧ PtAt H v p ∧ RowAt H l ps ∧ 2 ≤ ps.length ∧ ps.length ≤ 1000 ∧ Bg p ∧ (∀ q ∈ ps, Bg q) ∧ ∀ H', L2.Same H H' → Q (.int (whG p (-1) (sidesR ps))) H'
theorem ok_where (T : Txt K mg) : FnOk P w K mg base CX0 2 (fA mg "where") (fDat K (fA mg "where")) ["point", "row"] spWhere := by
  have Gsides_of := ok_sides_of (P := P) (w := w) (base := base) T
  refine T.«where».F.ok scwhere (fun vs H Q E h => ?_) (fun cdv A outer s H vs Q E hr h => ?_)
  · obtain ⟨v, l, p, ps, rfl, _⟩ := h
    rfl
  obtain ⟨v, l, p, ps, rfl, ⟨Tp, rfl, tT⟩, ⟨ts, e, al⟩, h2, hl, bp, bps, k⟩ := h
  refine ⟨_, (pss_cons (ps_asg (pv 0) (pg_tup rfl (pgs_cons (pg_name (i := 2) scwhere.nd rfl (Or.inl rfl)) (pgs_cons (pg_name (i := 3) scwhere.nd rfl (Or.inl rfl)) pgs_nil))))
  (pss_cons (ps_set (i := 4) scwhere.nd rfl (Or.inl rfl) (pe_un un_neg pe_int))
  (pss_cons (ps_for PassesOwn.never rfl (pi_list (pe_c T.sides_of Gsides_of (hr.mono (by decide)) (pa_cons (pv 1) pa_nil))) (pg_tup rfl (pgs_cons (pg_tup rfl (pgs_cons (pg_name (i := 5) scwhere.nd rfl (Or.inl rfl)) (pgs_cons (pg_name (i := 6) scwhere.nd rfl (Or.inl rfl)) pgs_nil))) (pgs_cons (pg_tup rfl (pgs_cons (pg_name (i := 7) scwhere.nd rfl (Or.inl rfl)) (pgs_cons (pg_name (i := 8) scwhere.nd rfl (Or.inl rfl)) pgs_nil))) pgs_nil)))
  (pss_one (ps_if (pt_cmpR op_ne (pe_cmpR op_gt (pv 6) (pv 3) (nomark _)) (pe_cmpR op_gt (pv 8) (pv 3) (nomark _)) (nomark _)) (pss_cons (ps_set (i := 9) scwhere.nd rfl (Or.inl rfl) (pe_op op_sub (pe_op op_mulW (pe_op op_sub (pv 7) (pv 5)) (pe_op op_sub (pv 3) (pv 6))) (pe_op op_mulW (pe_op op_sub (pv 8) (pv 6)) (pe_op op_sub (pv 2) (pv 5)))))
  (pss_cons (ps_if (pt_cmpR op_eq (pv 9) pe_int (nomark _)) (pss_one (ps_ret pe_int)) pss_nil)
  (pss_one (ps_if (pt_cmpR op_eq (pe_cmpR op_gt (pv 9) pe_int (nomark _)) (pe_cmpR op_gt (pv 8) (pv 3) (nomark _)) (nomark _)) (pss_one (ps_set (i := 4) scwhere.nd rfl (Or.inl rfl) (pe_un un_neg (pv 4)))) pss_nil)))) (pss_one (ps_if (PW.pt (pw_and (pt_cmpR op_eq (pv 6) (pv 3) (nomark _)) (pw_and1 (PW.pt (pw_or (pt_cmpR op_eq (pv 5) (pv 2) (nomark _)) (pw_or1 (PW.pt (pw_and (pt_cmpR op_eq (pv 8) (pv 3) (nomark _)) (pw_and1 (pt_cmpR op_ne (pe_cmpR op_gt (pv 5) (pv 2) (nomark _)) (pe_cmpR op_gt (pv 7) (pv 2) (nomark _)) (nomark _))))))))))) (pss_one (ps_ret pe_int)) pss_nil)))))
  (pss_one (ps_ret (pv 4)))))), ?_⟩
  have lts := al.len
  refine q_gen ((val_var rfl) _ (g_two (SqT.of tT) (q_set (v_neg val_c) (q_forLC (va_cons (val_var rfl) va_nil) fun Q' q' => ⟨l, ts, rfl, .inl e, by omega, by omega, fun sl zs H1 s1 es Z => q' sl H1 ?_⟩))))
  have al1 := al.imp fun _ _ z => PtAt.same z s1
  refine q_forL val_c (SqL.of es) (fun i σ H' => H' = H1 ∧ ∃ f z5 z6 z7 z8 z9, σ = [some (.ref Tp), some (.ref l), some (.int p.1), some (.int p.2), some (V.int f), z5, z6, z7, z8, z9] ∧ (f = 1 ∨ f = -1) ∧ whG p f ((sidesR ps).drop i) = whG p (-1) (sidesR ps))
    ⟨rfl, _, _, _, _, _, _, rfl, .inr rfl, rfl⟩ (fun i σ H' _ z => by rw [z.1]; exact SqL.of es) (fun i x σ H' hx z => ?_) (fun σ H' z => ?_)
  · obtain ⟨rfl, f, z5, z6, z7, z8, z9, rfl, pm, eq⟩ := z
    obtain ⟨U, A, B, e, rfl, he, tU, tA, tB⟩ := sides_at al1 Z hx
    obtain ⟨bA, bB⟩ := sides_mem bps (get_mem he)
    rw [drop_at he] at eq
    have eq2 : (if onB p e = true then 0 else whG p (if flp p e = true then -f else f) ((sidesR ps).drop (i + 1))) = whG p (-1) (sidesR ps) := eq
    have zero : onB p e = true → Q (.int 0) H' := fun o => by
      rw [if_pos o] at eq2
      rw [eq2]
      exact k _ s1
    have fa := fun {x y : Int} (h : x.natAbs ≤ 2 ^ 900) (k : y.natAbs ≤ 2 ^ 900) => sub_fit h k
    refine g_22 (SqT.of tU) (SqT.of tA) (SqT.of tB) (st_if (ans_chain (v_neB (v_gt (val_var rfl) (val_var rfl)) (v_gt (val_var rfl) (val_var rfl)))) (fun c => ?_) (fun c => ?_))
    · refine q_set (v := .int (crs e.1 e.2 p)) (v_sub (v_mul (v_sub (val_var rfl) (val_var rfl)) (v_sub (val_var rfl) (val_var rfl)) (fit_mul (fa bB.1 bA.1) (fa bp.2 bA.2))) (v_mul (v_sub (val_var rfl) (val_var rfl)) (v_sub (val_var rfl) (val_var rfl)) (fit_mul (fa bB.2 bA.2) (fa bp.1 bA.1)))) ?_
      refine q_when (ans_chain (v_eqI (val_var rfl) val_c)) (fun c2 => r_ret (val_c _ (zero (by unfold onB; rw [if_pos c]; exact c2)))) (fun c2 => ?_)
      have no : onB p e = false := by
        unfold onB
        rw [if_pos c]
        exact c2
      rw [if_neg (by rw [no]; decide)] at eq2
      refine st_if (ans_chain (v_eqB (v_gt (val_var rfl) val_c) (v_gt (val_var rfl) (val_var rfl)))) (fun c3 => (v_neg (val_var rfl)) _ ?_) (fun c3 => ?_)
      · have y : flp p e = true := by
          unfold flp
          rw [c, c3]
          rfl
        rw [if_pos y] at eq2
        exact ⟨rfl, -f, _, _, _, _, _, rfl, by rcases pm with rfl | rfl <;> decide, eq2⟩
      · have y : flp p e = false := by
          unfold flp
          rw [c, c3]
          rfl
        rw [if_neg (by rw [y]; decide)] at eq2
        exact ⟨rfl, f, _, _, _, _, _, rfl, pm, eq2⟩
    · have y : flp p e = false := by
        unfold flp
        rw [c]
        rfl
      refine st_if (tv_and (ans_chain (v_eqI (val_var rfl) (val_var rfl))) (tv_or (ans_chain (v_eqI (val_var rfl) (val_var rfl))) (tv_and (ans_chain (v_eqI (val_var rfl) (val_var rfl))) (ans_chain (v_neB (v_gt (val_var rfl) (val_var rfl)) (v_gt (val_var rfl) (val_var rfl))))))) (fun c2 => r_ret (val_c _ (zero (by unfold onB; rw [if_neg (by rw [c]; decide)]; exact c2)))) (fun c2 => ?_)
      have no : onB p e = false := by
        unfold onB
        rw [if_neg (by rw [c]; decide)]
        exact c2
      rw [if_neg (by rw [no]; decide), if_neg (by rw [y]; decide)] at eq2
      exact ⟨rfl, f, _, _, _, _, _, rfl, pm, eq2⟩
  · obtain ⟨rfl, f, z5, z6, z7, z8, z9, rfl, pm, eq⟩ := z
    have en : (sidesR ps).drop zs.length = [] := List.drop_eq_nil_of_le (by
      unfold sidesR
      rw [List.length_zip, rot_len, Nat.min_self, Z.1, lts]
      exact Nat.le_refl _)
    rw [en] at eq
    have eq2 : f = whG p (-1) (sidesR ps) := eq
    refine r_ret ((val_var rfl) _ ?_)
    rw [eq2]
    exact k _ s1
end
end LW

/-! any(xs) of a list of ints. -/
namespace L2
open PySem PySem.Spec PyProof.Rows
theorem vals_int : ∀ {xs : List Int} {its : List Value} {i : Nat} {v : Value}, Vals (xs.map V.int) its → its[i]? = some v → ∃ x t, xs[i]? = some x ∧ v = .int x t
  | [], _, i, v, r, e => by cases r; simp at e
  | x :: xs, _, 0, v, r, e => by
    cases r with
    | cons a r => 
      obtain ⟨t, rfl⟩ := a
      simp at e
      exact ⟨x, t, rfl, e.symm⟩
  | x :: xs, _, i + 1, v, r, e => by
    cases r with
    | cons a r =>
      rename_i b its'
      have e' : its'[i]? = some v := by simpa using e
      simpa using vals_int r e'
theorem truth_ints {prog : Program} {w : World} {A : Around} {xs : List Int} {its : List Value} (e : Vals (xs.map V.int) its) :
    TruthOf prog w A (fun i v => its.toArray[i]? = some v) (fun i => xs.getD i 0 != 0) := fun i v s Q E hv hq => by
  obtain ⟨x, t, hx, rfl⟩ := vals_int e (show its[i]? = some v by simpa using hv)
  have hg : xs.getD i 0 = x := by rw [List.getD_eq_getElem?_getD, hx]; rfl
  have hq' : Q (xs.getD i 0 != 0) s := hq
  rw [hg] at hq'
  exact truthy_int hq'
theorem anyI_range : ∀ xs : List Int, (List.range xs.length).any (fun i => xs.getD i 0 != 0) = xs.any (· != 0)
  | [] => rfl
  | b :: bs => by
    rw [List.length_cons, List.range_succ_eq_map, List.any_cons, List.any_map, List.any_cons, ← anyI_range bs]
    all_goals rfl
section
variable {X : Cx}
def rAnyI (K : PySem.W.Frag) : List V → Hp → VK → Prop := fun vs H Q => ∃ (a : Addr) (xs : List Int), vs = [V.ref a] ∧ SqL K H a (xs.map V.int) ∧ Q (.bl (xs.any (· != 0))) H
theorem cr_anyI (hc : X.calm = true) : CallR X (.builtin "any") (rAnyI X.K) := by
  intro pins s σ H vs us Q I r h
  obtain ⟨a, xs, rfl, hs, q⟩ := h
  obtain ⟨us', rv, hl, _⟩ := I.list hs
  rw [Vals.ref1 r]
  refine call_any_walk (iter_any hl.isList fun s2 same at0 other => ?_)
  subst same
  refine ⟨_, _, _, _, _, _, _, rfl, Walks.list (A := X.A.in1) (I.ok.hd hc) _ a other us'.toArray, at0, truth_ints rv, fun h' tk hk => ?_⟩
  have keep : ∀ b o, s.heap.get? b = some o → h'.get? b = some o := fun b o eo => hk b o (fun m => Nat.lt_irrefl _ ((List.mem_singleton.mp m) ▸ Heap.lt_size eo)) (Heap.get?_push_of_some _ eo)
  refine ⟨.bl _, H, I.kept keep, congrArg Value.bool ?_, q⟩
  have l : us'.length = xs.length := by
    have := rv.length
    simpa using this.symm
  rw [← anyI_range, List.size_toArray, l]
end
end L2

/-! all(xs) of a list of ints. -/
namespace L2
open PySem PySem.Spec PyProof.Rows
theorem allI_range : ∀ xs : List Int, (List.range xs.length).all (fun i => xs.getD i 0 != 0) = xs.all (· != 0)
  | [] => rfl
  | b :: bs => by
    rw [List.length_cons, List.range_succ_eq_map, List.all_cons, List.all_map, List.all_cons, ← allI_range bs]
    all_goals rfl
section
variable {X : Cx}
def rAllI (K : PySem.W.Frag) : List V → Hp → VK → Prop := fun vs H Q => ∃ (a : Addr) (xs : List Int), vs = [V.ref a] ∧ SqL K H a (xs.map V.int) ∧ Q (.bl (xs.all (· != 0))) H
theorem cr_allI (hc : X.calm = true) : CallR X (.builtin "all") (rAllI X.K) := by
  intro pins s σ H vs us Q I r h
  obtain ⟨a, xs, rfl, hs, q⟩ := h
  obtain ⟨us', rv, hl, _⟩ := I.list hs
  rw [Vals.ref1 r]
  refine call_all_walk (iter_any hl.isList fun s2 same at0 other => ?_)
  subst same
  refine ⟨_, _, _, _, _, _, _, rfl, Walks.list (A := X.A.in1) (I.ok.hd hc) _ a other us'.toArray, at0, truth_ints rv, fun h' tk hk => ?_⟩
  have keep : ∀ b o, s.heap.get? b = some o → h'.get? b = some o := fun b o eo => hk b o (fun m => Nat.lt_irrefl _ ((List.mem_singleton.mp m) ▸ Heap.lt_size eo)) (Heap.get?_push_of_some _ eo)
  refine ⟨.bl _, H, I.kept keep, congrArg Value.bool ?_, q⟩
  have l : us'.length = xs.length := by
    have := rv.length
    simpa using this.symm
  rw [← allI_range, List.size_toArray, l]
end
end L2

namespace LW
open PySem PySem.Spec PyProof.Rows L2 GL
section
variable {P : Program} {w : World} {K : PySem.W.Frag} {mg : Str → Option Value} {base : Heap}
/-! ### a border goes once -/
/-- [.. for i, x in enumerate(xs)] -/
theorem l_lcE {σ : L2.St} {H : Hp} {ta : TA} {g : TG} {te : TE} {vs : List Nat} {Q : VK} {a : Addr} {xs : List V} {R : Nat → V → Hp → Prop} (st : ∀ k, Stays (R k)) (of : Off R) (h : VA ta σ H [.ref a]) (hx : H a = some (.lst xs)) (hn : xs.length ≤ 10000)
    (hs : ∀ (i : Nat) x T H1, xs[i]? = some x → L2.Same H H1 → SqT K H1 T [.int (i : Int), x] → Turn1 g te vs σ (.ref T) H1 (R i)) (q : ∀ p ys H', L2.Same H H' → H p = none → H' p = some (.lst ys) → Rows R 0 xs.length ys H' → Q (.ref p) H') : tLc (iEnum K ta) g tYes te vs σ H Q := by
  refine h _ ⟨a, xs, rfl, SqL.of hx, fun D hD => lc_it walk_enum (LcP R H D) ⟨[], Same.new' hD, upd_same, hD, trivial, rfl⟩ (fun i H1 hi p => SqL.of (p.choose_spec.1 _ _ hx)) (fun i x H1 H2 hi p y => ?_) (fun H1 ⟨ys, s, e, nD, r⟩ => q D ys H1 s nD e r)⟩
  obtain ⟨T, x1, y1, rfl, hT, rfl, ex, ey⟩ := y
  cases ex
  have sT := Same.new' (o := .tup [.int (i : Int), y1]) hT
  have p2 : LcP R H D i (upd H1 T (.tup [.int (i : Int), y1])) := by
    obtain ⟨ys, s, e, nD, r⟩ := p
    exact ⟨ys, s.trans sT, sT _ _ e, nD, Run.keep st sT r.1, r.2⟩
  exact lc_step st of p2 (by omega) (fun s => hs i y1 T _ ey s (SqT.of upd_same))
def cutN {α : Type} (xs : List α) (a b : Nat) : List α := (xs.drop (min a xs.length)).take (min b xs.length - min a xs.length)
theorem cutV_nat (xs : List V) (a b : Nat) : cutV xs (some (a : Int)) (some (b : Int)) = cutN xs a b := by
  unfold cutV cutN
  rw [HT.sIx_nat, HT.sIx_nat]
theorem cutN_mem {α : Type} {xs : List α} {a b : Nat} {x : α} (h : x ∈ cutN xs a b) : x ∈ xs := List.mem_of_mem_drop (List.mem_of_mem_take h)
theorem All2.drop {α β : Type} {R : α → β → Prop} {as : List α} {bs : List β} (h : All2 R as bs) (n : Nat) : All2 R (as.drop n) (bs.drop n) := by
  induction h generalizing n with
  | nil => rw [List.drop_nil, List.drop_nil]; exact .nil
  | cons h t ih =>
    cases n with
    | zero => exact .cons h t
    | succ n => exact ih n
theorem All2.take {α β : Type} {R : α → β → Prop} {as : List α} {bs : List β} (h : All2 R as bs) (n : Nat) : All2 R (as.take n) (bs.take n) := by
  induction h generalizing n with
  | nil => rw [List.take_nil, List.take_nil]; exact .nil
  | cons h t ih =>
    cases n with
    | zero => exact .nil
    | succ n => exact .cons h (ih n)
theorem All2.cut {α β : Type} {R : α → β → Prop} {as : List α} {bs : List β} (h : All2 R as bs) (a b : Nat) : All2 R (cutN as a b) (cutN bs a b) := by
  unfold cutN
  rw [h.len]
  exact (h.drop _).take _
theorem All2.atI {α β : Type} {R : α → β → Prop} {as : List α} {bs : List β} (h : All2 R as bs) {i : Int} {b : β} (e : L2.atI bs i = some b) : ∃ a, L2.atI as i = some a ∧ R a b := by
  unfold L2.atI at e ⊢
  rw [h.len]
  cases q : ixN bs.length i with
  | none => rw [q] at e; cases e
  | some j =>
    rw [q] at e
    have e2 : bs[j]? = some b := e
    have hj : j < as.length := by rw [h.len]; exact (List.getElem?_eq_some_iff.mp e2).1
    obtain ⟨b2, h2, r⟩ := h.get (List.getElem?_eq_getElem hj)
    rw [e2] at h2
    cases h2
    exact ⟨_, List.getElem?_eq_getElem hj, r⟩
theorem atI_some {α : Type} (xs : List α) {i : Int} (h1 : -(xs.length : Int) ≤ i) (h2 : i < xs.length) : ∃ x, L2.atI xs i = some x := by
  unfold L2.atI ixN
  by_cases h : 0 ≤ i
  · rw [if_pos h, if_pos h2]
    exact ⟨_, List.getElem?_eq_getElem (by omega)⟩
  · rw [if_neg h, if_pos h1]
    exact ⟨_, List.getElem?_eq_getElem (by omega)⟩
theorem atI_mem {α : Type} {xs : List α} {i : Int} {x : α} (h : L2.atI xs i = some x) : x ∈ xs := by
  obtain ⟨j, _, e, _⟩ := atI_get h
  exact List.mem_of_getElem? e
section
variable {α : Type} [Sub α] [Mul α] [OfNat α 0] [LT α] [LE α] [DecidableEq α] [DecidableLT α] [DecidableLE α]
def tnO (ps : List (α × α)) (k : Nat) : Int := match L2.atI ps ((k : Int) - 2), L2.atI ps ((k : Int) - 1), ps[k]? with
  | some a, some b, some c => sgT a b c
  | _, _, _ => 0
def goesO (ps : List (α × α)) : Bool := ((List.range ps.length).map (tnO ps)).all (· != 0) && (List.range (ps.length - 2)).all fun k => !haveM (cutN (sidesR ps) k (k + 1)) (cutN (sidesR ps) (k + 2) (if k = 0 then ps.length - 1 else ps.length))
end
def spOnce : Sp := fun vs H Q _ => ∃ (l : Addr) (ps : List P2), vs = [.ref l] ∧ RowAt H l ps ∧ 3 ≤ ps.length ∧ ps.length ≤ 1000 ∧ (∀ q ∈ ps, Bg q) ∧ ∀ H', L2.Same H H' → Q (.bl (goesO ps)) H'
theorem sl2 {t1 t2 te : TE} {σ : L2.St} {H : Hp} {Q : VK} {v : V} {lo hi : Int} {r : V → Option Int → Option Int → Hp → VK → Prop} (h : Val te σ H v) (h1 : Val t1 σ H (.int lo)) (h2 : Val t2 σ H (.int hi)) (q : r v (some lo) (some hi) H Q) : tSl r te (tPart t1) (tPart t2) σ H Q := h _ (h1 _ ⟨lo, rfl, h2 _ ⟨hi, rfl, q⟩⟩)
theorem v_ifE {t : TT} {ta tb : TE} {σ : L2.St} {H : Hp} {b : Bool} {v : V} (h : Ans t σ H b) (h1 : b = true → Val ta σ H v) (h2 : b = false → Val tb σ H v) : Val (tIf t ta tb) σ H v := fun Q q => h _ (q_cases (fun e => h1 e _ q) (fun e => h2 e _ q))
theorem call_two {sp : Sp} {E : XK} {t1 t2 : TE} {σ : L2.St} {H : Hp} {Q : VK} (h : t1 σ H fun v H1 => t2 σ H1 fun w H2 => sp [v, w] H2 Q E) : tCall sp [] E (tCons t1 (tCons t2 tNil)) σ H Q := h
def twA (ps : List P2) : Int := ((sidesR ps).map fun e => e.1.1 * e.2.2 - e.1.2 * e.2.1).sum
def spTwA : Sp := fun vs H Q _ => ∃ (l : Addr) (ps : List P2), vs = [.ref l] ∧ RowAt H l ps ∧ 2 ≤ ps.length ∧ ps.length ≤ 1000 ∧ (∀ q ∈ ps, q.1.natAbs ≤ 2 ^ 450 ∧ q.2.natAbs ≤ 2 ^ 450) ∧ ∀ H', L2.Same H H' → Q (.int (twA ps)) H'
theorem cb_in {r : List V → Hp → VK → Prop} {te : TE} {σ : L2.St} {H : Hp} {Q : VK} (h : te σ H fun v H1 => r [v] H1 Q) : tCB r (tCons te tNil) σ H Q := h
theorem rows_fun {f : Nat → V} {n : Nat} {ys : List V} {H : Hp} (r : Rows (fun i v _ => v = f i) 0 n ys H) : ys = (List.range n).map f := by
  refine List.ext_getElem? fun i => ?_
  rw [List.getElem?_map]
  cases h : ys[i]? with
  | some v =>
    have hi := (List.getElem?_eq_some_iff.mp h).1
    rw [r.2] at hi
    have e : v = f (0 + i) := r.1.get h
    rw [List.getElem?_range hi, e, Nat.zero_add]
    rfl
  | none =>
    have h1 := List.getElem?_eq_none_iff.mp h
    rw [List.getElem?_eq_none_iff.mpr (by rw [List.length_range, ← r.2]; exact h1)]
    rfl
theorem ok_goes_once (T : Txt K mg) : FnOk P w K mg base CX0 3 (fA mg "_goes_once") (fDat K (fA mg "_goes_once")) ["row"] spOnce := by
  have G_turn := ok_turn (P := P) (w := w) (base := base) T
  have G_edges := ok_edges (P := P) (w := w) (base := base) T
  have G_have_meeting := ok_have_meeting (P := P) (w := w) (base := base) T
  refine T._goes_once.F.ok sc_goes_once (fun vs H Q E h => ?_) (fun cdv A outer s H vs Q E hr h => ?_)
  · obtain ⟨l, ps, rfl, _⟩ := h
    rfl
  obtain ⟨l, ps, rfl, ⟨ts, e, al⟩, h2, hl, bps, k⟩ := h
  refine ⟨_, (pss_cons (ps_set (i := 1) sc_goes_once.nd rfl (Or.inl rfl) (pe_callB call_len_seq (by rfl) T.len PySem.boot_len (pa_cons (pv 0) pa_nil)))
  (pss_cons (ps_if (pt_not (pt_val (pe_callB (cr_allI rfl) (by rfl) T.all (by decide +kernel) (pa_cons (pe_lc (own := [("k", 2), ("point", 3)]) (g := gTup K 2 (gCons (gName 2) (gCons (gName 3) gNil))) (tt := tYes) (by rfl) sc_goes_once.nd (pi_enum (by rfl) T.enumerate (pa_cons (pv 0) pa_nil)) (blkOk_by (own := [("k", 2), ("point", 3)]) (N := ["row", "many", "k", "point", "edges"]) (sc := defScope s_goes_once) (by decide +kernel)) (fun _ _ _ _ _ => pg_tup rfl (pgs_cons (pg_name (i := 2) sc_goes_once.nd rfl (Or.inl rfl)) (pgs_cons (pg_name (i := 3) sc_goes_once.nd rfl (Or.inl rfl)) pgs_nil))) (fun _ _ _ _ _ => pts_nil) (fun _ _ _ _ _ => (pe_c T._turn G_turn (hr.mono (by decide)) (pa_cons (pe_ix (show IxR _ (rIxL K) from ix_list) (pv 0) (pe_op op_sub (pv 2) pe_int) (fun _ _ => rfl)) (pa_cons (pe_ix (show IxR _ (rIxL K) from ix_list) (pv 0) (pe_op op_sub (pv 2) pe_int) (fun _ _ => rfl)) (pa_cons (pv 3) pa_nil)))))) pa_nil)))) (pss_one (ps_ret pe_bl)) pss_nil)
  (pss_cons (ps_set (i := 4) sc_goes_once.nd rfl (Or.inl rfl) (pe_c T._edges G_edges (hr.mono (by decide)) (pa_cons (pv 0) pa_nil)))
  (pss_cons (ps_for PassesOwn.never rfl (pi_range1 (by rfl) T.range (pa_cons (pe_op op_sub (pv 1) pe_int) pa_nil)) (pg_name (i := 2) sc_goes_once.nd rfl (Or.inl rfl))
  (pss_one (ps_if (pt_val (pe_c T._have_meeting G_have_meeting (hr.mono (by decide)) (pa_cons (pe_slice (show SlR _ (rSlL K) from sl_list) (pv 4) (po_some (pv 2)) (po_some (pe_op op_add (pv 2) pe_int))) (pa_cons (pe_slice (show SlR _ (rSlL K) from sl_list) (pv 4) (po_some (pe_op op_add (pv 2) pe_int)) (po_some (pe_ifExp (pt_cmpR op_eq (pv 2) pe_int (nomark _)) (pe_op op_sub (pv 1) pe_int) (pv 1)))) pa_nil)))) (pss_one (ps_ret pe_bl)) pss_nil)))
  (pss_one (ps_ret pe_bl)))))), ?_⟩
  have lts := al.len
  refine q_set (v := .int (ps.length : Int)) (by rw [← lts]; exact v_len (val_var rfl) (.inl (SqL.of e))) ?_
  refine q_un (not_in (tt_in (cb_in (l_lcE (R := fun i v _ => v = .int (tnO ps i)) (fun i v H1 H2 s h => h) (fun i v H1 D ys zs h hD => h) (va_cons (val_var rfl) va_nil) e (by omega) (fun i x T H1 hx s1 eT => ?_) (fun p ys H2 s2 nD e2 r2 => ?_)))))
  · obtain ⟨c, hc, C, rfl, tC⟩ := al.get hx
    have hi : i < ps.length := (List.getElem?_eq_some_iff.mp hc).1
    obtain ⟨a, ha⟩ := atI_some ps (i := (i : Int) - 2) (by omega) (by omega)
    obtain ⟨b, hb⟩ := atI_some ps (i := (i : Int) - 1) (by omega) (by omega)
    obtain ⟨_, ha', A, rfl, tA⟩ := al.atI ha
    obtain ⟨_, hb', B, rfl, tB⟩ := al.atI hb
    have et : tnO ps i = sgT a b c := by
      unfold tnO
      rw [ha, hb, hc]
    refine turn_two eT rfl (em_val (v_turn (va_cons (val_op (val_var rfl) (v_sub (val_var rfl) val_c) fun Q q => ⟨_, _, _, _, rfl, rfl, SqL.of (s1 _ _ e), ha', q⟩) (va_cons (val_op (val_var rfl) (v_sub (val_var rfl) val_c) fun Q q => ⟨_, _, _, _, rfl, rfl, SqL.of (s1 _ _ e), hb', q⟩) (va_cons (val_var rfl) va_nil))) (s1 _ _ tA) (s1 _ _ tB) (s1 _ _ tC) (bps _ (atI_mem ha)) (bps _ (atI_mem hb)) (bps _ (get_mem hc))) (by rw [et]))
  have ey : ys = ((List.range ps.length).map (tnO ps)).map V.int := by
    rw [lts] at r2
    rw [rows_fun (f := fun i => V.int (tnO ps i)) r2, List.map_map]
    rfl
  refine ⟨p, (List.range ps.length).map (tnO ps), rfl, by rw [← ey]; exact SqL.of e2, _, rfl, q_cases (fun c => r_ret (val_c _ ?_)) (fun c => ?_)⟩
  · have z : goesO ps = false := by
      unfold goesO
      rw [(Bool.not_eq_true' _).mp c]
      rfl
    have k2 := k H2 s2
    rw [z] at k2
    exact k2
  have c' : ((List.range ps.length).map (tnO ps)).all (· != 0) = true := (Bool.not_eq_false' _).mp c
  refine q_asg (c_call (va_cons (val_var rfl) va_nil) ⟨l, ps, rfl, ⟨ts, s2 _ _ e, al.imp fun _ _ z => PtAt.same z s2⟩, by omega, hl, fun l' H3 s3 E3 => ?_⟩)
  have sl : (sidesR ps).length = ps.length := by
    unfold sidesR
    rw [List.length_zip, rot_len, Nat.min_self]
  have bgE : ∀ e ∈ sidesR ps, BgE e := fun e he => sides_mem bps he
  refine q_forR1 (n := ps.length - 2) (by rw [show ((ps.length - 2 : Nat) : Int) = (ps.length : Int) - 2 by omega]; exact va_cons (v_sub (val_var rfl) val_c) va_nil) (by omega) (fun i σ H' => L2.Same H3 H' ∧ ∃ z2 z3, σ = [some (V.ref l), some (V.int (ps.length : Int)), z2, z3, some (V.ref l')] ∧
      ∀ j, j < i → haveM (cutN (sidesR ps) j (j + 1)) (cutN (sidesR ps) (j + 2) (if j = 0 then ps.length - 1 else ps.length)) = false)
    ⟨Same.refl _, _, _, rfl, fun j hj => by omega⟩ (fun i σ H' hi z => ?_) (fun σ H' z => ?_)
  · obtain ⟨s4, z2, z3, rfl, no⟩ := z
    obtain ⟨us, eu, au⟩ := E3.same s4
    refine st_un (tt_in (call_two (sl2 (lo := ((i : Nat) : Int)) (hi := ((i + 1 : Nat) : Int)) (val_var rfl) (val_var rfl) (by rw [show ((i + 1 : Nat) : Int) = (i : Int) + 1 by omega]; exact v_add (val_var rfl) val_c) ⟨l', us, rfl, SqL.of eu, fun p1 hp1 => ?_⟩)))
    have u1 := Same.new' (o := .lst (cutV us (some ((i : Nat) : Int)) (some ((i + 1 : Nat) : Int)))) hp1
    refine sl2 (lo := ((i + 2 : Nat) : Int)) (hi := (((if i = 0 then ps.length - 1 else ps.length) : Nat) : Int)) (val_var rfl) (by rw [show ((i + 2 : Nat) : Int) = (i : Int) + 2 by omega]; exact v_add (val_var rfl) val_c)
      (v_ifE (ans_chain (v_eqI (val_var rfl) val_c)) (fun c2 => ?_) (fun c2 => ?_)) ⟨l', us, rfl, SqL.of (u1 _ _ eu), fun p2 hp2 => ?_⟩
    · have z : i = 0 := by have := of_decide_eq_true c2; omega
      rw [if_pos z, show ((ps.length - 1 : Nat) : Int) = (ps.length : Int) - 1 by omega]
      exact v_sub (val_var rfl) val_c
    · have z : ¬ i = 0 := fun y => by
        have := of_decide_eq_false c2
        omega
      rw [if_neg z]
      exact val_var rfl
    have u2 := Same.new' (o := .lst (cutV us (some ((i + 2 : Nat) : Int)) (some (((if i = 0 then ps.length - 1 else ps.length) : Nat) : Int)))) hp2
    have o1 : EdsAt (upd (upd (fun a => H' a) p1 (.lst (cutV us (some ((i : Nat) : Int)) (some ((i + 1 : Nat) : Int))))) p2 (.lst (cutV us (some ((i + 2 : Nat) : Int)) (some (((if i = 0 then ps.length - 1 else ps.length) : Nat) : Int))))) p1 (cutN (sidesR ps) i (i + 1)) :=
      ⟨_, u2 _ _ upd_same, by rw [cutV_nat]; exact (au.cut _ _).imp fun _ _ z => EdAt.same z (u1.trans u2)⟩
    have o2 : EdsAt (upd (upd (fun a => H' a) p1 (.lst (cutV us (some ((i : Nat) : Int)) (some ((i + 1 : Nat) : Int))))) p2 (.lst (cutV us (some ((i + 2 : Nat) : Int)) (some (((if i = 0 then ps.length - 1 else ps.length) : Nat) : Int))))) p2 (cutN (sidesR ps) (i + 2) (if i = 0 then ps.length - 1 else ps.length)) :=
      ⟨_, upd_same, by rw [cutV_nat]; exact (au.cut _ _).imp fun _ _ z => EdAt.same z (u1.trans u2)⟩
    refine ⟨p1, p2, _, _, rfl, o1, o2, fun e he => bgE e (cutN_mem he), fun e he => bgE e (cutN_mem he), _, rfl, q_cases (fun m => r_ret (val_c _ ?_)) (fun m => ?_)⟩
    · have z : goesO ps = false := by
        unfold goesO
        rw [c']
        show ((List.range (ps.length - 2)).all _) = false
        rw [List.all_eq_false]
        exact ⟨i, List.mem_range.mpr hi, by rw [m]; decide⟩
      have k2 := k _ (s2.trans (s3.trans (s4.trans (u1.trans u2))))
      rw [z] at k2
      exact k2
    · refine ⟨s4.trans (u1.trans u2), _, _, rfl, fun j hj => ?_⟩
      by_cases hji : j = i
      · subst hji
        exact m
      · exact no j (by omega)
  · obtain ⟨s4, z2, z3, rfl, no⟩ := z
    have z : goesO ps = true := by
      unfold goesO
      rw [c']
      show ((List.range (ps.length - 2)).all _) = true
      rw [List.all_eq_true]
      intro j hj
      rw [no j (List.mem_range.mp hj)]
      rfl
    have k2 := k _ (s2.trans (s3.trans s4))
    rw [z] at k2
    exact r_ret (val_c _ k2)
theorem ok_twice_area (T : Txt K mg) : FnOk P w K mg base CX0 2 (fA mg "_twice_area") (fDat K (fA mg "_twice_area")) ["row"] spTwA := by
  have Gsides_of := ok_sides_of (P := P) (w := w) (base := base) T
  refine T._twice_area.F.ok sc_twice_area (fun vs H Q E h => ?_) (fun cdv A outer s H vs Q E hr h => ?_)
  · obtain ⟨l, ps, rfl, _⟩ := h
    rfl
  obtain ⟨l, ps, rfl, ⟨ts, e, al⟩, h2, hl, bps, k⟩ := h
  refine ⟨_, (pss_one (ps_ret (pe_callB (cr_sum rfl) (by rfl) T.sum (by decide +kernel) (pa_cons (pe_lc (own := [("a", 1), ("b", 2), ("c", 3), ("d", 4)]) (g := (gTup K 2 (gCons (gTup K 2 (gCons (gName 1) (gCons (gName 2) gNil))) (gCons (gTup K 2 (gCons (gName 3) (gCons (gName 4) gNil))) gNil)))) (tt := tYes) (by rfl) sc_twice_area.nd (pi_list (pe_c T.sides_of Gsides_of (hr.mono (by decide)) (pa_cons (pv 0) pa_nil))) (blkOk_by (own := [("a", 1), ("b", 2), ("c", 3), ("d", 4)]) (N := ["row", "a", "b", "c", "d"]) (sc := defScope s_twice_area) (by decide +kernel)) (fun _ _ _ _ _ => (pg_tup rfl (pgs_cons (pg_tup rfl (pgs_cons (pg_name (i := 1) sc_twice_area.nd rfl (Or.inl rfl)) (pgs_cons (pg_name (i := 2) sc_twice_area.nd rfl (Or.inl rfl)) pgs_nil))) (pgs_cons (pg_tup rfl (pgs_cons (pg_name (i := 3) sc_twice_area.nd rfl (Or.inl rfl)) (pgs_cons (pg_name (i := 4) sc_twice_area.nd rfl (Or.inl rfl)) pgs_nil))) pgs_nil)))) (fun _ _ _ _ _ => pts_nil) (fun _ _ _ _ _ => (pe_op op_sub (pe_op op_mulW (pv 1) (pv 4)) (pe_op op_mulW (pv 2) (pv 3))))) pa_nil)))), ?_⟩
  have lts := al.len
  refine r_ret (cb_in (l_lcCall (va_cons (val_var rfl) va_nil) fun Q' q' => ⟨l, ts, rfl, .inl e, by omega, by omega, fun sl zs H1 s1 es Z => q' sl H1 ?_⟩))
  have al1 := al.imp fun _ _ z => PtAt.same z s1
  have sl2 : (sidesR ps).length = ps.length := by
    unfold sidesR
    rw [List.length_zip, rot_len, Nat.min_self]
  refine l_lcL (R := fun i v _ => ∃ b, ((sidesR ps).map fun e => e.1.1 * e.2.2 - e.1.2 * e.2.1)[i]? = some b ∧ v = V.int b) (fun i v H1 H2 s h => h) (fun i v H D ys zs h hD => h) val_c (SqL.of es) (by rw [Z.1]; omega) (fun i v H2 hv s2 => ?_) (fun p ys H2 s2 e2 r2 => ?_)
  · obtain ⟨U, A, B, e, rfl, he, tU, tA, tB⟩ := sides_at al1 Z hv
    obtain ⟨bA, bB⟩ := sides_mem (Pr := fun q => q.1.natAbs ≤ 2 ^ 450 ∧ q.2.natAbs ≤ 2 ^ 450) bps (get_mem he)
    have sm := fun {x : Int} (h : x.natAbs ≤ 2 ^ 450) => Nat.lt_of_le_of_lt h (Nat.pow_lt_pow_right (a := 2) (m := 450) (n := 1000) (by decide) (by decide))
    refine turn_nest (SqT.of (s2 _ _ tU)) (SqT.of (s2 _ _ tA)) (SqT.of (s2 _ _ tB)) rfl (em_val (v_sub (v_mul (val_var rfl) (val_var rfl) (fit_mul (sm bA.1) (sm bB.2))) (v_mul (val_var rfl) (val_var rfl) (fit_mul (sm bA.2) (sm bB.1)))) ⟨_, ?_, rfl⟩)
    rw [List.getElem?_map, he]
    rfl
  · have ey := rows_map (f := V.int) r2 (by rw [List.length_map, sl2, Z.1, lts])
    refine ⟨p, _, rfl, by rw [← ey]; exact SqL.of e2, k H2 (s1.trans s2)⟩
end
end LW

namespace LW
open PySem PySem.Spec PyProof.Rows L2 GL
section
variable {P : Program} {w : World} {K : PySem.W.Frag} {mg : Str → Option Value} {base : Heap}
/-! ### a hole apart from the rest -/
section
variable {α : Type} [Sub α] [Mul α] [OfNat α 0] [LT α] [LE α] [DecidableEq α] [DecidableLT α] [DecidableLE α]
def apEach (last row : List (α × α)) : Bool := match last[0]?, row[0]? with
  | some a, some b => decide (whG a (-1) (sidesR row) = -1) && decide (whG b (-1) (sidesR last) = -1)
  | _, _ => false
def hasAp (r0 : List (α × α)) (mid : List (List (α × α))) (last : List (α × α)) : Bool := ((r0 :: mid).all fun row => !haveM (sidesR last) (sidesR row)) && (match last[0]? with
  | some a => decide (whG a (-1) (sidesR r0) = 1)
  | none => false) && mid.all (apEach last)
end
def RowV (H : Hp) (v : V) (ps : List P2) : Prop := ∃ l, v = .ref l ∧ RowAt H l ps
theorem RowV.same {H H' : Hp} {v : V} {ps : List P2} (h : RowV H v ps) (s : L2.Same H H') : RowV H' v ps := by
  obtain ⟨l, e, r⟩ := h
  exact ⟨l, e, r.same s⟩
def OkRow (ps : List P2) : Prop := 2 ≤ ps.length ∧ ps.length ≤ 1000 ∧ ∀ q ∈ ps, Bg q
def spApart : Sp := fun vs H Q _ => ∃ (R : Addr) (v0 vl : V) (ms : List V) (r0 last : List P2) (mid : List (List P2)), vs = [.ref R] ∧ H R = some (.lst (v0 :: (ms ++ [vl]))) ∧ RowV H v0 r0 ∧ All2 (RowV H) ms mid ∧ RowV H vl last ∧ mid.length ≤ 1000 ∧ OkRow r0 ∧ (∀ r ∈ mid, OkRow r) ∧ OkRow last ∧ ∀ H', L2.Same H H' → Q (.bl (hasAp r0 mid last)) H'
theorem atI_last {xs : List V} {v : V} (h : xs[xs.length - 1]? = some v) : atI xs (-1) = some v := by
  have hl : 0 < xs.length := by have := (List.getElem?_eq_some_iff.mp h).1; omega
  unfold atI ixN
  rw [if_neg (by omega), if_pos (by omega)]
  show xs[((-1 : Int) + (xs.length : Int)).toNat]? = some v
  rw [show ((-1 : Int) + (xs.length : Int)).toNat = xs.length - 1 by omega]
  exact h
theorem cut_front (x : V) (ms : List V) (y : V) : cutV (x :: (ms ++ [y])) none (some (-1)) = x :: ms := by
  unfold cutV
  show ((x :: (ms ++ [y])).drop 0).take ((-1 + ((x :: (ms ++ [y])).length : Int)).toNat - 0) = x :: ms
  rw [List.drop_zero, show ((-1 : Int) + ((x :: (ms ++ [y])).length : Int)).toNat - 0 = (x :: ms).length by simp; omega]
  rw [show x :: (ms ++ [y]) = (x :: ms) ++ [y] from rfl, List.take_left]
theorem cut_mid (x : V) (ms : List V) (y : V) : cutV (x :: (ms ++ [y])) (some 1) (some (-1)) = ms := by
  unfold cutV
  show ((x :: (ms ++ [y])).drop (HT.sIx (x :: (ms ++ [y])).length 0 (some ((1 : Nat) : Int)))).take ((-1 + ((x :: (ms ++ [y])).length : Int)).toNat - HT.sIx (x :: (ms ++ [y])).length 0 (some ((1 : Nat) : Int))) = ms
  rw [HT.sIx_nat, show min 1 (x :: (ms ++ [y])).length = 1 by simp]
  show (ms ++ [y]).take _ = ms
  rw [show ((-1 : Int) + ((x :: (ms ++ [y])).length : Int)).toNat - 1 = ms.length by simp; omega, List.take_left]
theorem q_forSl {te t1 : TE} {g : TG} {tb tz : TS} {D : Ends} {σ : L2.St} {H : Hp} {a : Addr} {xs : List V} {hi : Int} (h : Val te σ H (.ref a)) (h1 : Val t1 σ H (.int hi)) (hx : SqL K H a xs) (q : ∀ p, H p = none → tSeq (tFor (iList K (tC (.ref p))) g tb) tz D σ (upd H p (.lst (cutV xs none (some hi))))) :
    tSeq (tFor (iList K (tSl (rSlL K) te tNoPart (tPart t1))) g tb) tz D σ H := h _ (h1 _ ⟨hi, rfl, a, xs, rfl, hx, fun p hp => q p hp⟩)
theorem l_lcSl {te t1 t2 : TE} {g : TG} {tu : TE} {vs : List Nat} {σ : L2.St} {H : Hp} {Q : VK} {a : Addr} {xs : List V} {lo hi : Int} (h : Val te σ H (.ref a)) (h1 : Val t1 σ H (.int lo)) (h2 : Val t2 σ H (.int hi)) (hx : SqL K H a xs)
    (q : ∀ p, H p = none → tLc (iList K (tC (.ref p))) g tYes tu vs σ (upd H p (.lst (cutV xs (some lo) (some hi)))) Q) : tLc (iList K (tSl (rSlL K) te (tPart t1) (tPart t2))) g tYes tu vs σ H Q := h _ (h1 _ ⟨lo, rfl, h2 _ ⟨hi, rfl, a, xs, rfl, hx, fun p hp => q p hp⟩⟩)
theorem andv_in {ta tb : TE} {σ : L2.St} {H : Hp} {Q : VK} (h : ta σ H fun x H1 => ∃ c, x = .bl c ∧ if c = true then tb σ H1 Q else Q (.bl false) H1) : tAndV ta tb σ H Q := h
theorem dI (i j : Int) : decide (V.int i = V.int j) = decide (i = j) := by simp
theorem ok_has_apart (T : Txt K mg) : FnOk P w K mg base CX0 3 (fA mg "has_apart") (fDat K (fA mg "has_apart")) ["rows"] spApart := by
  have Gwhere := ok_where (P := P) (w := w) (base := base) T
  have G_edges := ok_edges (P := P) (w := w) (base := base) T
  have G_have_meeting := ok_have_meeting (P := P) (w := w) (base := base) T
  refine T.has_apart.F.ok schas_apart (fun vs H Q E h => ?_) (fun cdv A outer s H vs Q E hr h => ?_)
  · obtain ⟨R, _, _, _, _, _, _, rfl, _⟩ := h
    rfl
  obtain ⟨R, v0, vl, ms, r0, last, mid, rfl, e, R0, am, Rl, hm, ok0, okm, okl, k⟩ := h
  refine ⟨_, (pss_cons (ps_set (i := 1) schas_apart.nd rfl (Or.inr rfl) (pe_ix ix_list (pv 0) (pe_un un_neg pe_int) (fun _ _ => rfl)))
  (pss_cons (ps_set (i := 2) schas_apart.nd rfl (Or.inl rfl) (pe_c T._edges G_edges (hr.mono (by decide)) (pa_cons (pv 1) pa_nil)))
  (pss_cons (ps_for PassesOwn.never rfl (pi_list (pe_slice (show SlR _ (rSlL K) from sl_list) (pv 0) po_none (po_some (pe_un un_neg pe_int)))) (pg_name (i := 3) schas_apart.nd rfl (Or.inl rfl))
  (pss_one (ps_if (pt_val (pe_c T._have_meeting G_have_meeting (hr.mono (by decide)) (pa_cons (pv 2) (pa_cons (pe_c T._edges G_edges (hr.mono (by decide)) (pa_cons (pv 3) pa_nil)) pa_nil)))) (pss_one (ps_ret pe_bl)) pss_nil)))
  (pss_cons (ps_if (pt_cmpR op_ne (pe_c T.«where» Gwhere (hr.mono (by decide)) (pa_cons (pe_ix ix_list (pv 1) pe_int (fun _ _ => rfl)) (pa_cons (pe_ix ix_list (pv 0) pe_int (fun _ _ => rfl)) pa_nil))) pe_int (nomark _)) (pss_one (ps_ret pe_bl)) pss_nil)
  (pss_one (ps_ret (pe_callB (cr_all rfl) (by rfl) T.all (by decide +kernel) (pa_cons (pe_lc (own := [("row", 3)]) (g := gName 3) (tt := tYes) (by rfl) schas_apart.nd (pi_list (pe_slice (show SlR _ (rSlL K) from sl_list) (pv 0) (po_some pe_int) (po_some (pe_un un_neg pe_int)))) (blkOk_by (own := [("row", 3)]) (N := ["rows", "last", "edges", "row"]) (sc := defScope shas_apart) (by decide +kernel)) (fun _ _ _ _ _ => pg_name (i := 3) schas_apart.nd rfl (Or.inl rfl)) (fun _ _ _ _ _ => pts_nil) (fun _ _ _ _ _ => (pe_and (pe_cmpR op_eq (pe_c T.«where» Gwhere (hr.mono (by decide)) (pa_cons (pe_ix (show IxR _ (rIxL K) from ix_list) (pv 1) pe_int (fun _ _ => rfl)) (pa_cons (pv 3) pa_nil))) (pe_un un_neg pe_int) (nomark _)) (pe_one (pe_cmpR op_eq (pe_c T.«where» Gwhere (hr.mono (by decide)) (pa_cons (pe_ix (show IxR _ (rIxL K) from ix_list) (pv 3) pe_int (fun _ _ => rfl)) (pa_cons (pv 1) pa_nil))) (pe_un un_neg pe_int) (nomark _)))))) pa_nil)))))))), ?_⟩
  obtain ⟨Ll, rfl, Rl⟩ := Rl
  have len : (v0 :: (ms ++ [V.ref Ll])).length = ms.length + 2 := by simp
  have lm := am.len
  refine q_set (v := .ref Ll) (val_op (val_var rfl) (v_neg val_c) fun Q q => ⟨R, _, -1, _, rfl, rfl, SqL.of e, atI_last (by rw [len]; simp), q⟩) ?_
  refine q_asg (c_call (va_cons (val_var rfl) va_nil) ⟨Ll, last, rfl, Rl, okl.1, okl.2.1, fun l' H1 s1 E1 => ?_⟩)
  refine q_forSl (val_var rfl) (v_neg val_c) (SqL.of (s1 _ _ e)) fun p1 hp1 => ?_
  rw [cut_front]
  have u1 := Same.new' (o := .lst (v0 :: ms)) hp1
  have all : All2 (RowV H) (v0 :: ms) (r0 :: mid) := .cons R0 am
  have oks : ∀ r ∈ r0 :: mid, OkRow r := fun r hr => by
    rcases List.mem_cons.mp hr with rfl | h
    · exact ok0
    · exact okm r h
  have bgl : ∀ e ∈ sidesR last, BgE e := fun e he => sides_mem okl.2.2 he
  refine q_forL val_c (SqL.of upd_same) (fun i σ H' => L2.Same (upd H1 p1 (.lst (v0 :: ms))) H' ∧ ∃ z3, σ = [some (V.ref R), some (V.ref Ll), some (V.ref l'), z3] ∧ ∀ r ∈ (r0 :: mid).take i, haveM (sidesR last) (sidesR r) = false)
    ⟨Same.refl _, _, rfl, fun r hr => by simp at hr⟩ (fun i σ H' _ z => SqL.of (z.1 _ _ upd_same)) (fun i x σ H' hx z => ?_) (fun σ H' z => ?_)
  · obtain ⟨s2, z3, rfl, no⟩ := z
    obtain ⟨r, hr, Lr, rfl, Rr⟩ := all.get hx
    have okr := oks r (get_mem hr)
    have sA := s1.trans (u1.trans s2)
    refine g_name (st_un (tt_in (call_two ((val_var rfl) _ (c_call (va_cons (val_var rfl) va_nil) ⟨Lr, r, rfl, Rr.same sA, okr.1, okr.2.1, fun l2 H3 s3 E3 => ⟨l', l2, _, _, rfl, E1.same (u1.trans (s2.trans s3)), E3, bgl, fun e he => sides_mem okr.2.2 he, _, rfl, q_cases (fun m => r_ret (val_c _ ?_)) (fun m => ?_)⟩⟩)))))
    · have z : hasAp r0 mid last = false := by
        unfold hasAp
        have : ((r0 :: mid).all fun row => !haveM (sidesR last) (sidesR row)) = false := by
          rw [List.all_eq_false]
          exact ⟨r, get_mem hr, by rw [m]; decide⟩
        rw [this]
        rfl
      have k2 := k _ (sA.trans s3)
      rw [z] at k2
      exact k2
    · refine ⟨s2.trans s3, _, rfl, fun q hq => ?_⟩
      rw [List.take_add_one, hr] at hq
      rcases List.mem_append.mp hq with h | h
      · exact no q h
      · simp at h
        subst h
        exact m
  · obtain ⟨s2, z3, rfl, no⟩ := z
    have no2 : ((r0 :: mid).all fun row => !haveM (sidesR last) (sidesR row)) = true := by
      rw [List.all_eq_true]
      intro r hr
      rw [no r (by rw [all.len, List.take_length]; exact hr)]
      rfl
    have sA := s1.trans (u1.trans s2)
    obtain ⟨L0, rfl, R0⟩ := R0
    obtain ⟨tl, el, al⟩ := Rl
    have ll := al.len
    have hl0 : tl[0]? = some (tl[0]'(by have := okl.1; omega)) := List.getElem?_eq_getElem _
    generalize tl[0]'(by have := okl.1; omega) = vt at hl0
    obtain ⟨pt, hpt, Pt⟩ := al.get hl0
    have bpt := okl.2.2 pt (get_mem hpt)
    refine q_un (t_op (c_call (va_cons (v_ixL (n := 0) (val_var rfl) val_c (SqL.of (sA _ _ el)) hl0) (va_cons (v_ixL (n := 0) (val_var rfl) val_c (SqL.of (sA _ _ e)) rfl) va_nil)) ⟨vt, L0, pt, r0, rfl, Pt.same sA, R0.same sA, ok0.1, ok0.2.1, bpt, ok0.2.2, fun H3 s3 => val_c _ ⟨rfl, _, rfl, q_cases (fun m => r_ret (val_c _ ?_)) (fun m => ?_)⟩⟩))
    · rw [dI] at m
      have m2 := (Bool.not_eq_true' _).mp m
      have z : hasAp r0 mid last = false := by
        unfold hasAp
        rw [hpt]
        show (_ && decide (whG pt (-1) (sidesR r0) = 1) && _) = false
        rw [m2, Bool.and_false, Bool.false_and]
      have k2 := k _ (sA.trans s3)
      rw [z] at k2
      exact k2
    rw [dI] at m
    have m2 := (Bool.not_eq_false' _).mp m
    have eh : hasAp r0 mid last = mid.all (apEach last) := by
      unfold hasAp
      rw [no2, hpt]
      show (true && decide (whG pt (-1) (sidesR r0) = 1) && _) = _
      rw [m2, Bool.true_and, Bool.true_and]
    have sB := sA.trans s3
    refine r_ret (cb_in (l_lcSl (val_var rfl) val_c (v_neg val_c) (SqL.of (sB _ _ e)) fun p2 hp2 => ?_))
    rw [cut_mid]
    have u2 := Same.new' (o := .lst ms) hp2
    refine l_lcL (R := fun i v _ => ∃ b, (mid.map (apEach last))[i]? = some b ∧ v = V.bl b) (fun i v H1 H2 s h => h) (fun i v H D ys zs h hD => h) val_c (SqL.of upd_same) (by omega) (fun i x H4 hx s4 => ?_) (fun p ys H4 s4 e4 r4 => ?_)
    · obtain ⟨r, hr, Lr, rfl, Rr⟩ := am.get hx
      have okr := okm r (get_mem hr)
      have sC := sB.trans (u2.trans s4)
      obtain ⟨tr, er, ar⟩ := Rr
      have lr := ar.len
      have hr0 : tr[0]? = some (tr[0]'(by have := okr.1; omega)) := List.getElem?_eq_getElem _
      generalize tr[0]'(by have := okr.1; omega) = vr at hr0
      obtain ⟨pr, hpr, Pr⟩ := ar.get hr0
      have bpr := okr.2.2 pr (get_mem hpr)
      have ea : apEach last r = (decide (whG pt (-1) (sidesR r) = -1) && decide (whG pr (-1) (sidesR last) = -1)) := by
        unfold apEach
        rw [hpt, hpr]
      have him : (mid.map (apEach last))[i]? = some (apEach last r) := by
        rw [List.getElem?_map, hr]
        rfl
      refine turn_name rfl (fun Q2 q2 => andv_in (op_in (c_call (va_cons (v_ixL (n := 0) (val_var rfl) val_c (SqL.of (sC _ _ el)) hl0) (va_cons (val_var rfl) va_nil)) ⟨vt, Lr, pt, r, rfl, Pt.same sC, RowAt.same ⟨tr, er, ar⟩ sC, okr.1, okr.2.1, bpt, okr.2.2, fun H5 s5 => (v_neg val_c) _ ⟨rfl, _, rfl, q_cases (fun m => ?_) (fun m => ?_)⟩⟩)))
      · refine op_in (c_call (va_cons (v_ixL (n := 0) (val_var rfl) val_c (SqL.of (s5 _ _ (sC _ _ er))) hr0) (va_cons (val_var rfl) va_nil)) ⟨vr, Ll, pr, last, rfl, Pr.same (sC.trans s5), RowAt.same ⟨tl, el, al⟩ (sC.trans s5), okl.1, okl.2.1, bpr, okl.2.2, fun H6 s6 => (v_neg val_c) _ ⟨rfl, q2 _ _ (s5.trans s6) ⟨_, him, ?_⟩⟩⟩)
        rw [dI] at m
        rw [dI, ea, m, Bool.true_and]
      · refine q2 _ _ s5 ⟨_, him, ?_⟩
        rw [dI] at m
        rw [ea, m, Bool.false_and]
    · have ey := rows_map (f := V.bl) r4 (by rw [List.length_map, lm])
      refine ⟨p, _, rfl, by rw [← ey]; exact SqL.of e4, ?_⟩
      have k2 := k H4 (sB.trans (u2.trans s4))
      rw [eh] at k2
      have ez : (mid.map (apEach last)).all id = mid.all (apEach last) := by rw [List.all_map]; rfl
      rw [ez]
      exact k2
end
end LW

namespace LW
open PySem PySem.Spec PyProof.Rows L2 GL
section
variable {P : Program} {w : World} {K : PySem.W.Frag} {mg : Str → Option Value} {base : Heap}
/-! ### the same on whole numbers as on ratios -/
theorem num_den' (q : Rat) : (q.num : Rat) = q * (q.den : Rat) := by
  have h : (q.den : Rat) ≠ 0 := by
    intro z
    have : (0 : Rat) < (q.den : Rat) := Rat.natCast_pos.mpr q.den_pos
    rw [z] at this
    exact Rat.lt_irrefl this
  have e := Rat.num_divInt_den q
  rw [Rat.divInt_eq_div] at e
  have e2 := Rat.div_mul_cancel (a := (q.num : Rat)) h
  rw [show ((q.num : Rat) / (q.den : Rat)) = q from e] at e2
  exact e2.symm
theorem sc_cast {D : Nat} {q : Rat} (h : q.den ∣ D) : ((sc D q : Int) : Rat) = q * (D : Rat) := by
  obtain ⟨c, hc⟩ := h
  unfold sc
  rw [hc, Nat.mul_div_cancel_left _ (Rat.den_pos _), Rat.intCast_mul, num_den', Rat.mul_assoc]
  congr 1
  rw [Rat.natCast_mul]
  rfl
theorem mul_lt {a b D : Rat} (h : 0 < D) : a * D < b * D ↔ a < b := by
  constructor
  · intro z
    by_cases q : a < b
    · exact q
    · exact absurd z (Rat.not_lt.mpr (Rat.mul_le_mul_of_nonneg_right (Rat.not_lt.mp q) (Rat.le_of_lt h)))
  · intro z
    exact Rat.mul_lt_mul_of_pos_right z h
theorem mul_eq {a b D : Rat} (h : 0 < D) : a * D = b * D ↔ a = b := by
  constructor
  · intro z
    have n : D ≠ 0 := fun q => by rw [q] at h; exact Rat.lt_irrefl h
    grind
  · intro z
    rw [z]
theorem lt_sc {x y : Int} {a b D : Rat} (h : 0 < D) (hx : (x : Rat) = a * D) (hy : (y : Rat) = b * D) : x < y ↔ a < b := by
  rw [← Rat.intCast_lt_intCast, hx, hy, mul_lt h]
theorem eq_sc {x y : Int} {a b D : Rat} (h : 0 < D) (hx : (x : Rat) = a * D) (hy : (y : Rat) = b * D) : x = y ↔ a = b := by
  rw [← Rat.intCast_inj, hx, hy, mul_eq h]
theorem le_sc {x y : Int} {a b D : Rat} (h : 0 < D) (hx : (x : Rat) = a * D) (hy : (y : Rat) = b * D) : x ≤ y ↔ a ≤ b := by
  rw [← Int.not_lt, ← Rat.not_lt, lt_sc h hy hx]
def Rl (Dx Dy : Rat) (q : P2) (p : RP) : Prop := ((q.1 : Int) : Rat) = p.1 * Dx ∧ ((q.2 : Int) : Rat) = p.2 * Dy
def RlE (Dx Dy : Rat) (e : P2 × P2) (d : RP × RP) : Prop := Rl Dx Dy e.1 d.1 ∧ Rl Dx Dy e.2 d.2
section
variable {Dx Dy : Rat} {a b c : P2} {a' b' c' : RP}
theorem rl_crs (ha : Rl Dx Dy a a') (hb : Rl Dx Dy b b') (hc : Rl Dx Dy c c') : ((crs a b c : Int) : Rat) = crs a' b' c' * (Dx * Dy) := by
  unfold crs
  obtain ⟨a1, a2⟩ := ha
  obtain ⟨b1, b2⟩ := hb
  obtain ⟨c1, c2⟩ := hc
  rw [Rat.intCast_sub, Rat.intCast_mul, Rat.intCast_mul, Rat.intCast_sub, Rat.intCast_sub, Rat.intCast_sub, Rat.intCast_sub, a1, a2, b1, b2, c1, c2]
  grind
theorem rl_sg (hx : 0 < Dx) (hy : 0 < Dy) (ha : Rl Dx Dy a a') (hb : Rl Dx Dy b b') (hc : Rl Dx Dy c c') : sgT a b c = sgT a' b' c' ∧ (crs a b c = 0 ↔ crs a' b' c' = 0) ∧ (0 < crs a b c ↔ 0 < crs a' b' c') := by
  have h := rl_crs ha hb hc
  have p := Rat.mul_pos hx hy
  have z0 : (((0 : Int) : Int) : Rat) = (0 : Rat) * (Dx * Dy) := by rw [Rat.zero_mul]; rfl
  have e1 : crs a b c = 0 ↔ crs a' b' c' = 0 := eq_sc p h z0
  have e2 : 0 < crs a b c ↔ 0 < crs a' b' c' := lt_sc p z0 h
  refine ⟨?_, e1, e2⟩
  unfold sgT
  by_cases h1 : crs a b c = 0
  · rw [if_pos h1, if_pos (e1.mp h1)]
  · rw [if_neg h1, if_neg (fun z => h1 (e1.mpr z))]
    by_cases h2 : 0 < crs a b c
    · rw [if_pos h2, if_pos (e2.mp h2)]
    · rw [if_neg h2, if_neg (fun z => h2 (e2.mpr z))]
theorem mn_sc {x y : Int} {u v D : Rat} (h : 0 < D) (hx : (x : Rat) = u * D) (hy : (y : Rat) = v * D) : ((mn x y : Int) : Rat) = mn u v * D := by
  unfold mn
  have e := lt_sc h hx hy
  by_cases q : x < y
  · rw [if_pos q, if_pos (e.mp q), hx]
  · rw [if_neg q, if_neg (fun z => q (e.mpr z)), hy]
theorem mx_sc {x y : Int} {u v D : Rat} (h : 0 < D) (hx : (x : Rat) = u * D) (hy : (y : Rat) = v * D) : ((mx x y : Int) : Rat) = mx u v * D := by
  unfold mx
  have e := lt_sc h hx hy
  by_cases q : x < y
  · rw [if_pos q, if_pos (e.mp q), hy]
  · rw [if_neg q, if_neg (fun z => q (e.mpr z)), hx]
theorem dec_iff {p q : Prop} [Decidable p] [Decidable q] (h : p ↔ q) : decide p = decide q := by
  by_cases z : p
  · rw [decide_eq_true z, decide_eq_true (h.mp z)]
  · rw [decide_eq_false z, decide_eq_false (fun y => z (h.mpr y))]
theorem rl_meet (hx : 0 < Dx) (hy : 0 < Dy) {e f : P2 × P2} {e' f' : RP × RP} (he : RlE Dx Dy e e') (hf : RlE Dx Dy f f') : meetE e f = meetE e' f' := by
  obtain ⟨⟨a1, a2⟩, b1, b2⟩ := he
  obtain ⟨⟨c1, c2⟩, d1, d2⟩ := hf
  have s1 := (rl_sg hx hy ⟨a1, a2⟩ ⟨b1, b2⟩ ⟨c1, c2⟩).1
  have s2 := (rl_sg hx hy ⟨a1, a2⟩ ⟨b1, b2⟩ ⟨d1, d2⟩).1
  have s3 := (rl_sg hx hy ⟨c1, c2⟩ ⟨d1, d2⟩ ⟨a1, a2⟩).1
  have s4 := (rl_sg hx hy ⟨c1, c2⟩ ⟨d1, d2⟩ ⟨b1, b2⟩).1
  unfold meetE
  rw [s1, s2, s3, s4, dec_iff (le_sc hx (mn_sc hx a1 b1) (mx_sc hx c1 d1)), dec_iff (le_sc hx (mn_sc hx c1 d1) (mx_sc hx a1 b1)), dec_iff (le_sc hy (mn_sc hy a2 b2) (mx_sc hy c2 d2)), dec_iff (le_sc hy (mn_sc hy c2 d2) (mx_sc hy a2 b2))]
theorem all2_any {α β : Type} {R : α → β → Prop} {as : List α} {bs : List β} {f : α → Bool} {g : β → Bool} (h : All2 R as bs) (q : ∀ a b, R a b → f a = g b) : as.any f = bs.any g := by
  induction h with
  | nil => rfl
  | cons h _ ih => rw [List.any_cons, List.any_cons, q _ _ h, ih]
theorem all2_all {α β : Type} {R : α → β → Prop} {as : List α} {bs : List β} {f : α → Bool} {g : β → Bool} (h : All2 R as bs) (q : ∀ a b, R a b → f a = g b) : as.all f = bs.all g := by
  induction h with
  | nil => rfl
  | cons h _ ih => rw [List.all_cons, List.all_cons, q _ _ h, ih]
theorem rl_have (hx : 0 < Dx) (hy : 0 < Dy) {es fs : List (P2 × P2)} {es' fs' : List (RP × RP)} (he : All2 (RlE Dx Dy) es es') (hf : All2 (RlE Dx Dy) fs fs') : haveM es fs = haveM es' fs' :=
  all2_any he fun _ _ h => all2_any hf fun _ _ k => rl_meet hx hy h k
theorem all2_zip {α β γ δ : Type} {R : α → β → Prop} {S : γ → δ → Prop} {as : List α} {bs : List β} {cs : List γ} {ds : List δ} (h : All2 R as bs) (k : All2 S cs ds) : All2 (fun x y => R x.1 y.1 ∧ S x.2 y.2) (List.zip as cs) (List.zip bs ds) := by
  induction h generalizing cs ds with
  | nil => exact .nil
  | cons h _ ih =>
    cases k with
    | nil => exact .nil
    | cons k t => exact .cons ⟨h, k⟩ (ih t)
theorem rl_sides {ps : List P2} {qs : List RP} (h : All2 (Rl Dx Dy) ps qs) : All2 (RlE Dx Dy) (sidesR ps) (sidesR qs) := all2_zip h (rot_get h)
theorem rl_atI {ps : List P2} {qs : List RP} (h : All2 (Rl Dx Dy) ps qs) (i : Int) : (L2.atI ps i = none ∧ L2.atI qs i = none) ∨ ∃ p q, L2.atI ps i = some p ∧ L2.atI qs i = some q ∧ Rl Dx Dy p q := by
  cases e : L2.atI qs i with
  | some q =>
    obtain ⟨p, hp, r⟩ := h.atI e
    exact .inr ⟨p, q, hp, rfl, r⟩
  | none =>
    refine .inl ⟨?_, rfl⟩
    unfold L2.atI at e ⊢
    rw [h.len]
    cases z : L2.ixN qs.length i with
    | none => rfl
    | some j =>
      rw [z] at e
      have e2 : qs[j]? = none := e
      have := List.getElem?_eq_none_iff.mp e2
      exact List.getElem?_eq_none_iff.mpr (by rw [h.len]; exact this)
theorem rl_tn (hx : 0 < Dx) (hy : 0 < Dy) {ps : List P2} {qs : List RP} (h : All2 (Rl Dx Dy) ps qs) (k : Nat) : tnO ps k = tnO qs k := by
  unfold tnO
  rcases rl_atI h ((k : Int) - 2) with ⟨e1, e2⟩ | ⟨p1, q1, e1, e2, r1⟩
  · rw [e1, e2]
  · rw [e1, e2]
    rcases rl_atI h ((k : Int) - 1) with ⟨e3, e4⟩ | ⟨p2, q2, e3, e4, r2⟩
    · rw [e3, e4]
    · rw [e3, e4]
      cases e5 : ps[k]? with
      | none =>
        have : qs[k]? = none := List.getElem?_eq_none_iff.mpr (by rw [← h.len]; exact List.getElem?_eq_none_iff.mp e5)
        rw [this]
      | some p3 =>
        obtain ⟨q3, e6, r3⟩ := h.get e5
        rw [e6]
        exact (rl_sg hx hy r1 r2 r3).1
theorem rl_goes (hx : 0 < Dx) (hy : 0 < Dy) {ps : List P2} {qs : List RP} (h : All2 (Rl Dx Dy) ps qs) : goesO ps = goesO qs := by
  unfold goesO
  have e : tnO ps = tnO qs := funext (rl_tn hx hy h)
  have s := rl_sides h
  have e2 : (fun k => !haveM (cutN (sidesR ps) k (k + 1)) (cutN (sidesR ps) (k + 2) (if k = 0 then ps.length - 1 else ps.length))) = fun k => !haveM (cutN (sidesR qs) k (k + 1)) (cutN (sidesR qs) (k + 2) (if k = 0 then qs.length - 1 else qs.length)) :=
    funext fun k => by rw [rl_have hx hy (s.cut _ _) (s.cut _ _), h.len]
  rw [e2, e, h.len]
theorem rl_onB (hx : 0 < Dx) (hy : 0 < Dy) {p : P2} {p' : RP} (hp : Rl Dx Dy p p') {e : P2 × P2} {e' : RP × RP} (he : RlE Dx Dy e e') : onB p e = onB p' e' ∧ flp p e = flp p' e' := by
  obtain ⟨a1, b1⟩ := he
  obtain ⟨_, c1, c2⟩ := rl_sg hx hy a1 b1 hp
  have d1 := dec_iff (lt_sc hy hp.2 a1.2)
  have d2 := dec_iff (lt_sc hy hp.2 b1.2)
  unfold onB flp
  rw [d1, d2, dec_iff c1, dec_iff c2, dec_iff (eq_sc hy a1.2 hp.2), dec_iff (eq_sc hx a1.1 hp.1), dec_iff (eq_sc hy b1.2 hp.2), dec_iff (lt_sc hx hp.1 a1.1), dec_iff (lt_sc hx hp.1 b1.1)]
  exact ⟨rfl, rfl⟩
theorem rl_wh (hx : 0 < Dx) (hy : 0 < Dy) {p : P2} {p' : RP} (hp : Rl Dx Dy p p') {es : List (P2 × P2)} {es' : List (RP × RP)} (h : All2 (RlE Dx Dy) es es') (f : Int) : whG p f es = whG p' f es' := by
  induction h generalizing f with
  | nil => rfl
  | cons h _ ih =>
    obtain ⟨e1, e2⟩ := rl_onB hx hy hp h
    unfold whG
    rw [e1, e2, ih]
theorem rl_each (hx : 0 < Dx) (hy : 0 < Dy) {l r : List P2} {l' r' : List RP} (hl : All2 (Rl Dx Dy) l l') (h : All2 (Rl Dx Dy) r r') : apEach l r = apEach l' r' := by
  unfold apEach
  cases hl with
  | nil => rfl
  | cons a t =>
    cases h with
    | nil => rfl
    | cons b u =>
      show (decide (_ = _) && decide (_ = _)) = (decide (_ = _) && decide (_ = _))
      rw [rl_wh hx hy a (rl_sides (.cons b u)), rl_wh hx hy b (rl_sides (.cons a t))]
theorem rl_ap (hx : 0 < Dx) (hy : 0 < Dy) {r0 last : List P2} {mid : List (List P2)} {r0' last' : List RP} {mid' : List (List RP)} (h0 : All2 (Rl Dx Dy) r0 r0') (hm : All2 (All2 (Rl Dx Dy)) mid mid') (hl : All2 (Rl Dx Dy) last last') : hasAp r0 mid last = hasAp r0' mid' last' := by
  unfold hasAp
  rw [all2_all (f := fun row => !haveM (sidesR last) (sidesR row)) (g := fun row => !haveM (sidesR last') (sidesR row)) (.cons h0 hm) (fun _ _ h => by rw [rl_have hx hy (rl_sides hl) (rl_sides h)]), all2_all hm (fun _ _ h => rl_each hx hy hl h)]
  cases hl with
  | nil => rfl
  | cons a t =>
    show (_ && decide (_ = _) && _) = (_ && decide (_ = _) && _)
    rw [rl_wh hx hy a (rl_sides h0)]
end
theorem rl_scp {Dx Dy : Nat} {p : RP} (h1 : p.1.den ∣ Dx) (h2 : p.2.den ∣ Dy) : Rl (Dx : Rat) (Dy : Rat) (scp Dx Dy p) p := ⟨sc_cast h1, sc_cast h2⟩
end
end LW

namespace LW
open PySem PySem.Spec PyProof.Rows L2 GL
section
variable {P : Program} {w : World} {K : PySem.W.Frag} {mg : Str → Option Value} {base : Heap}
/-! ### borders -/
def NoBd (H : Hp) (v : V) : Prop := (∃ n, Is H v n ∧ n ≠ "list" ∧ n ≠ "tuple") ∨ ∃ (a : Addr) (xs : List V) (bs : List Bool), v = .ref a ∧ Sq H a xs ∧ xs.length ≤ 1000 ∧ All2 (PlQ H) xs bs ∧ (xs.length < 3 ∨ bs.all id = false)
/-- the size of some places: n bits each, and of them all -/
def SzP (n k : Nat) (ps : List RP) : Prop := n * k + n ≤ 440 ∧ ∀ p ∈ ps, Sm n p.1 ∧ Sm n p.2
theorem SzP.sub {n k l : Nat} {ps qs : List RP} (h : SzP n k ps) (hl : l ≤ k) (hs : ∀ p ∈ qs, p ∈ ps) : SzP n l qs := ⟨Nat.le_trans (Nat.add_le_add_right (Nat.mul_le_mul_left _ hl) _) h.1, fun p hp => h.2 p (hs p hp)⟩
def spBorder : Sp := fun vs H Q _ => ∃ v, vs = [v] ∧ ((NoBd H v ∧ ∀ H', L2.Same H H' → Q .non H') ∨ ∃ (a : Addr) (xs : List V) (ps : List RP) (n : Nat), v = .ref a ∧ Sq H a xs ∧ All2 (PlR H) xs ps ∧ 3 ≤ xs.length ∧ xs.length ≤ 100 ∧ SzP n ps.length ps ∧
  (goesO ps = true → ∀ t vs H', L2.Same H H' → H' t = some (.tup vs) → All2 (PlL H') vs ps → Q (.ref t) H') ∧ (goesO ps = false → ∀ H', L2.Same H H' → Q .non H'))
theorem call_one {sp : Sp} {E : XK} {t1 : TE} {σ : L2.St} {H : Hp} {Q : VK} (h : t1 σ H fun v H1 => sp [v] H1 Q E) : tCall sp [] E (tCons t1 tNil) σ H Q := h
theorem grid_row {H : Hp} {Dx Dy : Nat} {ts : List V} {ps : List RP} (h : All2 (Grid H Dx Dy) ts ps) : All2 (PtAt H) ts (ps.map (scp Dx Dy)) := by
  induction h with
  | nil => exact .nil
  | cons h _ ih => exact .cons h ih
theorem grid_bg {n k Dx Dy : Nat} {ps : List RP} (z : SzP n k ps) (hx : Dx ≤ 2 ^ (n * k)) (hy : Dy ≤ 2 ^ (n * k)) : ∀ q ∈ ps.map (scp Dx Dy), q.1.natAbs ≤ 2 ^ 450 ∧ q.2.natAbs ≤ 2 ^ 450 := fun q hq => by
  obtain ⟨p, hp, rfl⟩ := List.mem_map.mp hq
  obtain ⟨s1, s2⟩ := z.2 p hp
  have le : (2 : Nat) ^ (n + n * k) ≤ 2 ^ 450 := Nat.pow_le_pow_right (by decide) (by have := z.1; omega)
  exact ⟨Nat.le_trans (sc_abs s1 hx) le, Nat.le_trans (sc_abs s2 hy) le⟩
theorem bg_of {q : P2} (h : q.1.natAbs ≤ 2 ^ 450 ∧ q.2.natAbs ≤ 2 ^ 450) : Bg q := ⟨Nat.le_trans h.1 (Nat.pow_le_pow_right (by decide) (by decide)), Nat.le_trans h.2 (Nat.pow_le_pow_right (by decide) (by decide))⟩
theorem rl_map {Dx Dy : Nat} {ps : List RP} (h1 : ∀ p ∈ ps, p.1.den ∣ Dx) (h2 : ∀ p ∈ ps, p.2.den ∣ Dy) : All2 (Rl (Dx : Rat) (Dy : Rat)) (ps.map (scp Dx Dy)) ps := by
  induction ps with
  | nil => exact .nil
  | cons p ps ih => exact .cons (rl_scp (h1 p (List.mem_cons_self ..)) (h2 p (List.mem_cons_self ..))) (ih (fun q hq => h1 q (List.mem_cons_of_mem _ hq)) (fun q hq => h2 q (List.mem_cons_of_mem _ hq)))
theorem cast_pos {D : Nat} (h : 0 < D) : (0 : Rat) < (D : Rat) := Rat.natCast_pos.mpr h
theorem tb_in {te ta tb : TE} {σ : L2.St} {H : Hp} {Q : VK} (h : te σ H fun x H1 => ∃ c, x = .bl c ∧ if c = true then ta σ H1 Q else tb σ H1 Q) : tIf (tB te) ta tb σ H Q := h
theorem ok_border_of (T : Txt K mg) : FnOk P w K mg base CX0 9 (fA mg "border_of") (fDat K (fA mg "border_of")) ["value"] spBorder := by
  have Gis_place := ok_is_place (P := P) (w := w) (base := base) T
  have Gplace_of := ok_place_of (P := P) (w := w) (base := base) T
  have Ggrid_of := ok_grid_of (P := P) (w := w) (base := base) T
  have G_goes_once := ok_goes_once (P := P) (w := w) (base := base) T
  refine T.border_of.F.ok scborder_of (fun vs H Q E h => ?_) (fun cdv A outer s H vs Q E hr h => ?_)
  · obtain ⟨v, rfl, _⟩ := h
    rfl
  obtain ⟨v, rfl, h⟩ := h
  refine ⟨_, (pss_cons (ps_if (PW.pt (pw_or (pt_not (pt_val (pe_callB call_isiT (by rfl) T.isinstance (by decide +kernel) (pa_cons (pv 0) (pa_cons (pe_tup (pa_cons (pe_bltn (v := .ty "tuple") (by rfl) T.tuple (by decide +kernel) rfl) (pa_cons (pe_bltn (v := .ty "list") (by rfl) T.list (by decide +kernel) rfl) pa_nil))) pa_nil))))) (pw_or (pt_cmpR op_lt (pe_callB call_len_seq (by rfl) T.len PySem.boot_len (pa_cons (pv 0) pa_nil)) pe_int (nomark _)) (pw_or1 (pt_not (pt_val (pe_callB (cr_all rfl) (by rfl) T.all (by decide +kernel) (pa_cons (pe_lc (own := [("place", 1)]) (g := gName 1) (tt := tYes) (by rfl) scborder_of.nd (pi_or (pi_list (pv 0)) (pi_tup (pv 0))) (blkOk_by (own := [("place", 1)]) (N := ["value", "place", "places"]) (sc := defScope sborder_of) (by decide +kernel)) (fun _ _ _ _ _ => pg_name (i := 1) scborder_of.nd rfl (Or.inl rfl)) (fun _ _ _ _ _ => pts_nil) (fun _ _ _ _ _ => (pe_c T.is_place Gis_place (hr.mono (by decide)) (pa_cons (pv 1) pa_nil)))) pa_nil)))))))) (pss_one (ps_ret pe_non)) pss_nil)
  (pss_cons (ps_set (i := 2) scborder_of.nd rfl (Or.inl rfl) (pe_callTy call_tuple_of (by rfl) T.tuple (by decide +kernel) (pa_cons (pe_lc (own := [("place", 1)]) (g := gName 1) (tt := tYes) (by rfl) scborder_of.nd (pi_or (pi_list (pv 0)) (pi_tup (pv 0))) (blkOk_by (own := [("place", 1)]) (N := ["value", "place", "places"]) (sc := defScope sborder_of) (by decide +kernel)) (fun _ _ _ _ _ => pg_name (i := 1) scborder_of.nd rfl (Or.inl rfl)) (fun _ _ _ _ _ => pts_nil) (fun _ _ _ _ _ => (pe_call Gplace_of (hr.mono (by decide)) (by rfl) T.place_of.g T.place_of.F.kp T.place_of.b .nil passL (pa_cons (pv 1) pa_nil)))) pa_nil)))
  (pss_one (ps_ret (pe_ifExp (pt_val (pe_c T._goes_once G_goes_once (hr.mono (by decide)) (pa_cons (pe_ix ix_list (pe_c T.grid_of Ggrid_of (hr.mono (by decide)) (pa_cons (pe_lst (pa_cons (pv 2) pa_nil)) pa_nil)) pe_int (fun _ _ => rfl)) pa_nil))) (pv 2) pe_non))))), ?_⟩
  have both : ∀ {n : String} {Q' : Bool → Hp → Prop}, Is H v n → (∀ H2, L2.Same H H2 → Q' (decide (n = "tuple") || decide (n = "list")) H2) →
      tB (tCB (rIsiT K) (tCons (tVar 0) (tCons (tTup (tCons (tC (.ty "tuple")) (tCons (tC (.ty "list")) tNil))) tNil))) [some v, none, none] H Q' := fun {n Q'} i q =>
    ⟨v, rfl, ⟨by show 2 ≤ sizeLine; decide, fun p hp => ⟨v, p, [.ty "tuple", .ty "list"], _, [.type "tuple", .type "list"], _, rfl, upd_same, .cons (.ty _) (.cons (.ty _) .nil), (i.same (Same.new' hp)).ty.1, kit_seq (i.ty (K := K)).2, _, rfl, q _ (Same.new' hp)⟩⟩⟩
  -- all(is_place ..)
  have test : ∀ {a : Addr} {xs : List V} {bs : List Bool} {H1 : Hp} {Q' : Bool → Hp → Prop}, v = .ref a → Sq H1 a xs → xs.length ≤ 1000 → All2 (PlQ H1) xs bs → (∀ H2, L2.Same H1 H2 → Q' (bs.all id) H2) →
      tB (tCB (rAll K) (tCons (tLc (fun σ H R => iList K (tVar 0) σ H R ∨ iTup K (tVar 0) σ H R) (gName 1) tYes (tCall spPl [] E0 (tCons (tVar 1) tNil)) [1]) tNil)) [some v, none, none] H1 Q' := fun {a xs bs H1 Q'} ev hS hl hR q => by
    subst ev
    refine cb_one (Q := fun x H2 => ∃ c, x = .bl c ∧ Q' c H2) (l_lcS (R := fun i v _ => ∃ b, bs[i]? = some b ∧ v = V.bl b) (fun _ _ _ _ _ h => h) (fun _ _ _ _ _ _ h _ => h) (val_var rfl) hS.seq (by omega) (fun i x H3 e s3 => turn_name rfl fun Q q => ?_) (fun p ys H4 s4 e4 r4 => ⟨p, bs, rfl, ?_, _, rfl, q H4 s4⟩))
    · obtain ⟨b, hb, rb⟩ := hR.get e
      exact c_call (va_cons (val_var rfl) va_nil) ⟨x, b, rfl, rb.same s3, fun H' s' => q _ H' s' ⟨b, hb, rfl⟩⟩
    · rw [← rows_map r4 hR.len.symm]
      exact SqL.of e4
  rcases h with ⟨no, k⟩ | ⟨a, xs, ps, nb, rfl, hS, hR, l2, lm, sz, k1, k2⟩
  · refine q_ifOr3 ?_
    rcases no with ⟨n, i, n1, n2⟩ | ⟨a, xs, bs, rfl, hS, hl, hR, bad⟩
    · refine both i fun H2 s2 => ?_
      rw [decide_eq_false n2, decide_eq_false n1]
      exact iteT (iteT (st_ret val_c (k H2 s2)))
    · obtain ⟨n, i, o⟩ := hS.is
      refine both i fun H2 s2 => ?_
      have e : (decide (n = "tuple") || decide (n = "list")) = true := by rcases o with rfl | rfl <;> decide
      rw [e]
      refine iteF ?_
      have S2 := hS.same s2
      by_cases h2 : xs.length < 3
      · refine (a_I (i := (xs.length : Int)) (j := 3) (v_len (K := K) (val_var rfl) S2.sq) val_c) _ ?_
        rw [decide_eq_true (by omega)]
        exact iteT (iteT (st_ret val_c (k H2 s2)))
      · refine (a_I (i := (xs.length : Int)) (j := 3) (v_len (K := K) (val_var rfl) S2.sq) val_c) _ ?_
        rw [decide_eq_false (by omega)]
        refine iteF (test rfl S2 hl (hR.imp fun _ _ q => q.same s2) fun H3 s3 => ?_)
        rw [bad.resolve_left h2]
        exact iteT (st_ret val_c (k H3 (s2.trans s3)))
  · refine q_ifOr3 ?_
    obtain ⟨n, i, o⟩ := hS.is
    refine both i fun H2 s2 => ?_
    have e : (decide (n = "tuple") || decide (n = "list")) = true := by rcases o with rfl | rfl <;> decide
    rw [e]
    refine iteF ?_
    have S2 := hS.same s2
    refine (a_I (i := (xs.length : Int)) (j := 3) (v_len (K := K) (val_var rfl) S2.sq) val_c) _ ?_
    rw [decide_eq_false (by omega)]
    have hB : All2 (PlQ H2) xs (xs.map fun _ => true) := All2.mk (by rw [List.length_map]) fun i v b hv hb => by
      obtain ⟨p, _, r⟩ := hR.get hv
      rw [List.getElem?_map, hv] at hb
      cases hb
      exact r.yes.same s2
    refine iteF (test rfl S2 (by omega) hB fun H3 s3 => ?_)
    rw [show ((xs.map fun _ => true).all id) = true by clear hB hR S2 hS; induction xs <;> simp_all]
    refine iteF ?_
    have S3 := S2.same s3
    have s23 := s2.trans s3
    refine q_asg (cb_one (l_lcS (R := fun i v H => ∃ p, ps[i]? = some p ∧ PlL H v p) (fun i v H1 H2 s ⟨p, h1, h2⟩ => ⟨p, h1, h2.same s⟩) (fun k v H D ys zs ⟨p, h1, a, x, y, h2, h3, h4, h5⟩ e => ⟨p, h1, a, x, y, h2, ?_, ?_, ?_⟩) (val_var rfl) S3.seq (by omega) (fun i x H4 e s4 => turn_name rfl fun Q q => ?_) (fun p ys H4 s4 e4 r4 => ⟨p, ys, rfl, .inl ⟨SqL.of e4, fun t ht => ?_⟩⟩)))
    · rw [upd_ne (fun z => by rw [z, e] at h3; cases h3)]; exact h3
    · show upd H D _ _ = _
      rw [upd_ne (fun z => by rw [z] at h4; unfold Lo at h4; rw [e] at h4; cases h4)]; exact h4
    · show upd H D _ _ = _
      rw [upd_ne (fun z => by rw [z] at h5; unfold Lo at h5; rw [e] at h5; cases h5)]; exact h5
    · obtain ⟨p, hp, r⟩ := hR.get e
      exact c_call (va_cons (val_var rfl) va_nil) ⟨x, p, rfl, (r.same s23).same s4, fun v' H' s' pl _ => q _ H' s' ⟨p, hp, pl⟩⟩
    · have s5 := Same.new' (o := .tup ys) ht
      have al : All2 (PlL (upd H4 t (.tup ys))) ys ps := All2.mk (by rw [r4.2, hR.len]) fun i v q hv hq => by
        obtain ⟨p, hp, pl⟩ := r4.1.get hv
        rw [Nat.zero_add] at hp
        rw [hp] at hq
        cases hq
        exact pl.same s5
      generalize hHH : upd H4 t (.tup ys) = HH at s5 al
      have et : HH t = some (.tup ys) := by rw [← hHH]; exact upd_same
      have sA : L2.Same H HH := (s23.trans s4).trans s5
      have ly : ys.length = xs.length := r4.2
      have lp : ps.length = xs.length := hR.len.symm
      refine r_ret (show tIf _ _ _ _ _ _ from ?_)
      refine tb_in (call_one (op_in (call_one (ta_lst1 ((val_var rfl) _ ⟨by show 1 ≤ sizeLine; decide, fun q hq => ?_⟩)))))
      have s6 := Same.new' (o := .lst [V.ref t]) hq
      have flat : [ps].flatten = ps := by simp
      have le := sz.1
      refine ⟨q, [.ref t], [ps], nb, rfl, upd_same, .cons ⟨t, ys, rfl, .inr (SqT.of (s6 _ _ et)), al.imp fun _ _ z => z.same s6⟩ .nil, by show 1 ≤ 100; decide, by rw [flat]; omega, by rw [flat]; omega, by rw [flat]; exact sz.2, fun Dx Dy F fs H7 dx dy lx ly vx vy s7 eF aF => ?_⟩
      rw [flat] at lx ly vx vy
      cases aF with
      | cons gr rest =>
        cases rest
        obtain ⟨f, ts, rfl, ef, ag⟩ := gr
        have ar := grid_row ag
        have bg := grid_bg sz lx ly
        refine val_c _ ⟨F, [.ref f], 0, .ref f, rfl, rfl, SqL.of eF, rfl, ⟨f, _, rfl, ⟨ts, ef, ar⟩, by rw [List.length_map]; omega, by rw [List.length_map]; omega, fun q hq => bg_of (bg q hq), fun H8 s8 => ⟨_, rfl, ?_⟩⟩⟩
        have eg : goesO (ps.map (scp Dx Dy)) = goesO ps := rl_goes (cast_pos dx) (cast_pos dy) (rl_map vx vy)
        rw [eg]
        have sB : L2.Same HH H8 := (s6.trans s7).trans s8
        refine q_cases (fun c => ?_) (fun c => ?_)
        · exact (val_var rfl) _ (k1 c t ys H8 (sA.trans sB) (sB _ _ et) (al.imp fun _ _ z => z.same sB))
        · exact val_c _ (k2 c H8 (sA.trans sB))
end
end LW

namespace LW
open PySem PySem.Spec PyProof.Rows L2 GL
section
variable {P : Program} {w : World} {K : PySem.W.Frag} {mg : Str → Option Value} {base : Heap}
theorem q_lo {H : Hp} {p : Addr} {x y : Int} (y0 : 0 < y) (z : H p = some (.tup [.int (x / gI x y), .int (y / gI x y)])) : Lo H p (Rat.divInt x y) := by
  unfold Lo
  rw [← (low_rat x y0).1, ← (low_rat x y0).2]
  exact z
def sp_minus (mg : Str → Option Value) : Sp := fun vs H Q E => ∃ (v u : V), vs = [v, u] ∧ ((∃ i j k l, Rt H v i j ∧ Rt H u k l ∧ Fit i j ∧ Fit k l ∧ ∀ (p : Addr) (H' : Hp), Same H H' → H' p = some (.tup [.int ((i * l - k * j) / gI (i * l - k * j) (j * l)), .int ((j * l) / gI (i * l - k * j) (j * l))]) → Q (.ref p) H') ∨
  (RatQ H v false ∧ Bad mg H (.str "ratio") v E) ∨ (∃ i j, Rt H v i j ∧ RatQ H u false ∧ Bad mg H (.str "ratio") u E))
theorem ok_minus (T : Txt K mg) : FnOk P w K mg base (L2.CX P w) 6 (fA mg "minus") (fDat K (fA mg "minus")) ["one", "other"] (sp_minus mg) := by
  have G_parts := ok_parts (P := P) (w := w) (base := base) T
  have G_lowest := ok_lowest (P := P) (w := w) (base := base) T
  have Gi_BadNumber := init_BadNumber (P := P) (w := w) (base := base) T
  refine T.minus.F.okX scminus (fun vs H Q E h => ?_) (fun cdv A outer s H vs Q E hr h => ?_)
  · obtain ⟨v, u, rfl, _⟩ := h
    rfl
  · obtain ⟨v, u, rfl, h⟩ := h
    refine ⟨_, (pss_cons (ps_asg (pe_call G_parts (hr.mono (by decide)) (by rfl) T._parts.g T._parts.F.kp T._parts.b .nil (passes_call (takes_of rfl rfl rfl rfl) (fun _ _ _ _ h => h)) (pa_cons (pv 0) (pa_cons pe_str pa_nil))) (pg_tup rfl (pgs_cons (pg_name (i := 2) scminus.nd rfl (Or.inl rfl)) (pgs_cons (pg_name (i := 3) scminus.nd rfl (Or.inl rfl)) pgs_nil))))
  (pss_cons (ps_asg (pe_call G_parts (hr.mono (by decide)) (by rfl) T._parts.g T._parts.F.kp T._parts.b .nil (passes_call (takes_of rfl rfl rfl rfl) (fun _ _ _ _ h => h)) (pa_cons (pv 1) (pa_cons pe_str pa_nil))) (pg_tup rfl (pgs_cons (pg_name (i := 4) scminus.nd rfl (Or.inl rfl)) (pgs_cons (pg_name (i := 5) scminus.nd rfl (Or.inl rfl)) pgs_nil))))
  (pss_one (ps_ret (pe_c T._lowest G_lowest (hr.mono (by decide)) (pa_cons (pe_op op_sub (pe_op op_mulW (pv 2) (pv 5)) (pe_op op_mulW (pv 4) (pv 3))) (pa_cons (pe_op op_mulW (pv 3) (pv 5)) pa_nil))))))), ?_⟩
    rcases h with ⟨i, j, k, l, r, t, ⟨fi, fj⟩, ⟨fk, fl⟩, q⟩ | ⟨r, b⟩ | ⟨i, j, r, t, b⟩
    · refine q_parts rfl (va_cons (val_var rfl) (va_cons val_c va_nil)) r fun H1 s1 => ?_
      refine q_parts rfl (va_cons (val_var rfl) (va_cons val_c va_nil)) (t.same s1) fun H2 s2 => ?_
      exact r_ret (te := tCall _ _ _ _) (c_call (va_cons (v_sub (v_mul (val_var rfl) (val_var rfl) (fit_mul fi fl)) (v_mul (val_var rfl) (val_var rfl) (fit_mul fk fj))) (va_cons (v_mul (val_var rfl) (val_var rfl) (fit_mul fj fl)) va_nil)) ⟨_, _, rfl, Int.mul_pos r.pos t.pos, fit_lt fj fl, fun p H' s e => q p H' ((s1.trans s2).trans s) e⟩)
    · exact q_partsX (va_cons (val_var rfl) (va_cons val_c va_nil)) r b
    · refine q_parts rfl (va_cons (val_var rfl) (va_cons val_c va_nil)) r fun H1 s1 => ?_
      exact q_partsX (va_cons (val_var rfl) (va_cons val_c va_nil)) (t.same s1) (b.from s1)
theorem divI {i j k l : Int} (hj : 0 < j) (hl : 0 < l) : Rat.divInt i j - Rat.divInt k l = Rat.divInt (i * l - k * j) (j * l) := Rat.divInt_sub_divInt i k (by omega) (by omega)
def spMinR : Sp := fun vs H Q _ => ∃ (v u : V) (p q : Rat), vs = [v, u] ∧ Rq H v p ∧ Rq H u q ∧ ∀ t H', L2.Same H H' → Lo H' t (p - q) → Q (.ref t) H'
theorem ok_minusR (T : Txt K mg) : FnOk P w K mg base (L2.CX P w) 6 (fA mg "minus") (fDat K (fA mg "minus")) ["one", "other"] spMinR := by
  refine (ok_minus (P := P) (w := w) (base := base) T).imp fun vs H Q E h => ?_
  obtain ⟨v, u, p, q, rfl, ⟨i, j, r, f, rfl⟩, ⟨k, l, t, g, rfl⟩, z⟩ := h
  refine ⟨v, u, rfl, .inl ⟨i, j, k, l, r, t, f, g, fun a H' s e => z a H' s ?_⟩⟩
  rw [divI r.pos t.pos]
  exact q_lo (Int.mul_pos r.pos t.pos) e
/-! ### the sides, turned -/
def spTurned : Sp := fun vs H Q _ => ∃ (t : Addr) (xs : List V) (ps : List RP) (n : Nat) (b : Bool), vs = [.ref t, .bl b] ∧ H t = some (.tup xs) ∧ All2 (PlL H) xs ps ∧ 3 ≤ xs.length ∧ xs.length ≤ 100 ∧ SzP n ps.length ps ∧ ∀ l zs H', L2.Same H H' → H' l = some (.lst zs) → zs.length = ps.length → Q (.ref l) H'
theorem cut_one (xs : List V) : cutV xs none (some 1) = xs.take 1 := cut_hi xs
theorem q_ifB {te ta tb : TE} {σ : L2.St} {H : Hp} {Q : VK} {b : Bool} (h : Val te σ H (.bl b)) (h1 : b = true → ta σ H Q) (h2 : b = false → tb σ H Q) : tIf (tTest te) ta tb σ H Q := h _ ⟨b, rfl, q_cases h1 h2⟩
theorem ok_turned_sides (T : Txt K mg) : FnOk P w K mg base CX0 5 (fA mg "turned_sides") (fDat K (fA mg "turned_sides")) ["places", "is_against"] spTurned := by
  have G_twice_area := ok_twice_area (P := P) (w := w) (base := base) T
  have Ggrid_of := ok_grid_of (P := P) (w := w) (base := base) T
  have Gsides_of := ok_sides_of (P := P) (w := w) (base := base) T
  refine T.turned_sides.F.ok scturned_sides (fun vs H Q E h => ?_) (fun cdv A outer s H vs Q E hr h => ?_)
  · obtain ⟨t, xs, ps, n, b, rfl, _⟩ := h
    rfl
  obtain ⟨t, xs, ps, nb, b, rfl, e, al, h2, hl, sz, k⟩ := h
  refine ⟨_, (pss_cons (ps_set (i := 2) scturned_sides.nd rfl (Or.inl rfl) (pe_cmpR op_gt (pe_c T._twice_area G_twice_area (hr.mono (by decide)) (pa_cons (pe_ix ix_list (pe_c T.grid_of Ggrid_of (hr.mono (by decide)) (pa_cons (pe_lst (pa_cons (pv 0) pa_nil)) pa_nil)) pe_int (fun _ _ => rfl)) pa_nil)) pe_int (nomark _)))
  (pss_one (ps_ret (pe_c T.sides_of Gsides_of (hr.mono (by decide)) (pa_cons (pe_ifExp (pt_cmpR op_eq (pv 2) (pv 1) (nomark _)) (pv 0) (pe_op op_catA (pe_slice (show SlR _ (rSlA K) from sl_tupA) (pv 0) po_none (po_some pe_int)) (pe_tlR (pv 0)))) pa_nil))))), ?_⟩
  have lp : ps.length = xs.length := al.len.symm
  have le := sz.1
  refine q_asg (op_in (call_one (op_in (call_one (ta_lst1 ((val_var rfl) _ ⟨by show 1 ≤ sizeLine; decide, fun q hq => ?_⟩))))))
  have s1 := Same.new' (o := .lst [V.ref t]) hq
  have flat : [ps].flatten = ps := by simp
  refine ⟨q, [.ref t], [ps], nb, rfl, upd_same, .cons ⟨t, xs, rfl, .inr (SqT.of (s1 _ _ e)), al.imp fun _ _ z => z.same s1⟩ .nil, by show 1 ≤ 100; decide, by rw [flat]; omega, by rw [flat]; omega, by rw [flat]; exact sz.2, fun Dx Dy F fs H7 dx dy lx ly vx vy s7 eF aF => ?_⟩
  rw [flat] at lx ly vx vy
  cases aF with
  | cons gr rest =>
    cases rest
    obtain ⟨f, ts, rfl, ef, ag⟩ := gr
    have ar := grid_row ag
    have bg := grid_bg sz lx ly
    refine val_c _ ⟨F, [.ref f], 0, .ref f, rfl, rfl, SqL.of eF, rfl, ⟨f, _, rfl, ⟨ts, ef, ar⟩, by rw [List.length_map]; omega, by rw [List.length_map]; omega, bg, fun H8 s8 => val_c _ ⟨_, _, rfl, rfl, ?_⟩⟩⟩
    have sB : L2.Same H H8 := (s1.trans s7).trans s8
    generalize decide ((0 : Int) < twA (ps.map (scp Dx Dy))) = g
    refine r_ret (call_one (q_ifB ((v_eqB (val_var rfl) (val_var rfl))) (fun c => (val_var rfl) _ ?_) (fun c => ?_)))
    · exact ⟨t, xs, rfl, .inr (sB _ _ e), by omega, by omega, fun l zs H' s' el sd => k l zs H' (sB.trans s') el (by rw [sd.1, lp])⟩
    · refine op_in (shi (val_var rfl) ⟨t, xs, rfl, SqT.of (sB _ _ e), fun z => ?_, fun _ p hp => ?_⟩)
      · have z2 : (HT.sIx xs.length xs.length (some ((1 : Nat) : Int))) = xs.length := z.2
        rw [HT.sIx_nat] at z2
        omega
      have s9 := Same.new' (o := .tup (cutV xs none (some 1))) hp
      refine (val_var rfl) _ ⟨t, xs, rfl, by omega, .inr ⟨SqT.of (s9 _ _ (sB _ _ e)), fun p2 hp2 => ?_⟩⟩
      have s10 := Same.new' (o := .tup xs.tail.reverse) hp2
      have l1 : (xs.take 1).length = 1 := by rw [List.length_take]; omega
      have l2 : (xs.tail.reverse).length = xs.length - 1 := by rw [List.length_reverse, List.length_tail]
      have hz : xs.length ≤ sizeLine := by have : (100 : Nat) ≤ sizeLine := by decide
                                           omega
      refine ⟨p, p2, _, _, rfl, rfl, SqT.of (s10 _ _ upd_same), SqT.of upd_same, by rw [cut_one, l1, l2]; omega, fun z => ?_, fun z => ?_, fun _ _ p3 hp3 => ?_⟩
      · exfalso
        have z2 : (cutV xs none (some 1)).length = 0 := by rw [z]; rfl
        rw [cut_one, l1] at z2
        omega
      · intro z2
        exfalso
        have z3 : (xs.tail.reverse).length = 0 := by rw [z2]; rfl
        omega
      · have s11 := Same.new' (o := .tup (cutV xs none (some 1) ++ xs.tail.reverse)) hp3
        have l3 : (cutV xs none (some 1) ++ xs.tail.reverse).length = xs.length := by rw [List.length_append, cut_one, l1, l2]; omega
        exact ⟨p3, _, rfl, .inr upd_same, by omega, by omega, fun l zs H' s' el sd => k l zs H' (sB.trans (s9.trans (s10.trans (s11.trans s')))) el (by rw [sd.1, l3, lp])⟩
end
end LW

namespace LW
open PySem PySem.Spec PyProof.Rows L2 GL
section
variable {P : Program} {w : World} {K : PySem.W.Frag} {mg : Str → Option Value} {base : Heap}
/-! ### areas -/
def twR (ps : List RP) : Rat := ((sidesR ps).map fun e => e.1.1 * e.2.2 - e.1.2 * e.2.1).sum
def arR (ps : List RP) : Rat := (if twR ps < 0 then -twR ps else twR ps) / 2
theorem rl_sum {Dx Dy : Rat} {es : List (P2 × P2)} {ds : List (RP × RP)} (h : All2 (RlE Dx Dy) es ds) : (((es.map fun e => e.1.1 * e.2.2 - e.1.2 * e.2.1).sum : Int) : Rat) = (ds.map fun e => e.1.1 * e.2.2 - e.1.2 * e.2.1).sum * (Dx * Dy) := by
  induction h with
  | nil =>
    show (((0 : Int)) : Rat) = 0 * (Dx * Dy)
    rw [Rat.zero_mul]
    rfl
  | cons h _ ih =>
    obtain ⟨⟨a1, a2⟩, b1, b2⟩ := h
    rw [List.map_cons, List.map_cons, List.sum_cons, List.sum_cons, Rat.intCast_add, ih, Rat.intCast_sub, Rat.intCast_mul, Rat.intCast_mul, a1, a2, b1, b2]
    grind
theorem rl_twA {Dx Dy : Nat} {ps : List RP} (h1 : ∀ p ∈ ps, p.1.den ∣ Dx) (h2 : ∀ p ∈ ps, p.2.den ∣ Dy) : ((twA (ps.map (scp Dx Dy)) : Int) : Rat) = twR ps * ((Dx : Rat) * (Dy : Rat)) := rl_sum (rl_sides (rl_map h1 h2))
theorem sum_abs {B : Nat} : ∀ {xs : List Int}, (∀ x ∈ xs, x.natAbs ≤ B) → xs.sum.natAbs ≤ xs.length * B
  | [], _ => by simp
  | x :: xs, h => by
    have h1 := h x (List.mem_cons_self ..)
    have h2 := sum_abs (fun y hy => h y (List.mem_cons_of_mem _ hy))
    rw [List.sum_cons, List.length_cons, Nat.add_mul, Nat.one_mul]
    exact Nat.le_trans (Int.natAbs_add_le _ _) (by omega)
theorem twA_abs {ps : List P2} {b : Nat} (h : ∀ q ∈ ps, q.1.natAbs ≤ 2 ^ b ∧ q.2.natAbs ≤ 2 ^ b) : (twA ps).natAbs ≤ ps.length * (2 ^ (b + b) + 2 ^ (b + b)) := by
  unfold twA
  have l : ((sidesR ps).map fun e => e.1.1 * e.2.2 - e.1.2 * e.2.1).length = ps.length := by
    unfold sidesR
    rw [List.length_map, List.length_zip, rot_len, Nat.min_self]
  rw [← l]
  refine sum_abs fun x hx => ?_
  obtain ⟨e, he, rfl⟩ := List.mem_map.mp hx
  obtain ⟨⟨a1, a2⟩, b1, b2⟩ := sides_mem (Pr := fun q => q.1.natAbs ≤ 2 ^ b ∧ q.2.natAbs ≤ 2 ^ b) h he
  have m1 : (e.1.1 * e.2.2).natAbs ≤ 2 ^ (b + b) := by rw [Int.natAbs_mul, Nat.pow_add]; exact Nat.mul_le_mul a1 b2
  have m2 : (e.1.2 * e.2.1).natAbs ≤ 2 ^ (b + b) := by rw [Int.natAbs_mul, Nat.pow_add]; exact Nat.mul_le_mul a2 b1
  exact Nat.le_trans (by omega) (Nat.add_le_add m1 m2)
theorem ar_eq {Dx Dy : Nat} {ps : List RP} (dx : 0 < Dx) (dy : 0 < Dy) (h1 : ∀ p ∈ ps, p.1.den ∣ Dx) (h2 : ∀ p ∈ ps, p.2.den ∣ Dy) {z : Int} (hz : z = twA (ps.map (scp Dx Dy))) :
    arR ps = Rat.divInt (if z < 0 then -z else z) (2 * (Dx : Int) * (Dy : Int)) := by
  have e := rl_twA h1 h2
  rw [← hz] at e
  have p := Rat.mul_pos (cast_pos dx) (cast_pos dy)
  have z0 : (((0 : Int) : Int) : Rat) = (0 : Rat) * ((Dx : Rat) * (Dy : Rat)) := by rw [Rat.zero_mul]; rfl
  have sg : z < 0 ↔ twR ps < 0 := lt_sc p e z0
  have e2 : (((if z < 0 then -z else z) : Int) : Rat) = (if twR ps < 0 then -twR ps else twR ps) * ((Dx : Rat) * (Dy : Rat)) := by
    by_cases q : z < 0
    · rw [if_pos q, if_pos (sg.mp q), Rat.intCast_neg, e, Rat.neg_mul]
    · rw [if_neg q, if_neg (fun y => q (sg.mpr y)), e]
  unfold arR
  rw [Rat.divInt_eq_div, e2, Rat.intCast_mul, Rat.intCast_mul]
  generalize (if twR ps < 0 then -twR ps else twR ps) = t
  have hx := cast_pos dx
  have hy := cast_pos dy
  have nx : (Dx : Rat) ≠ 0 := fun q => by rw [q] at hx; exact Rat.lt_irrefl hx
  have ny : (Dy : Rat) ≠ 0 := fun q => by rw [q] at hy; exact Rat.lt_irrefl hy
  show t / 2 = t * ((Dx : Rat) * (Dy : Rat)) / (((2 : Int) : Rat) * (((Dx : Nat) : Int) : Rat) * (((Dy : Nat) : Int) : Rat))
  have c1 : (((Dx : Nat) : Int) : Rat) = (Dx : Rat) := rfl
  have c2 : (((Dy : Nat) : Int) : Rat) = (Dy : Rat) := rfl
  have c3 : (((2 : Int)) : Rat) = 2 := rfl
  rw [c1, c2, c3]
  grind
def spArea : Sp := fun vs H Q _ => ∃ (t : Addr) (xs : List V) (ps : List RP) (n : Nat), vs = [.ref t] ∧ H t = some (.tup xs) ∧ All2 (PlL H) xs ps ∧ 2 ≤ xs.length ∧ xs.length ≤ 100 ∧ SzP n ps.length ps ∧ ∀ p H', L2.Same H H' → Lo H' p (arR ps) → Q (.ref p) H'
theorem tup2 {σ : L2.St} {H : Hp} {t1 t2 : TE} {Q : VK} (h : t1 σ H fun v H1 => t2 σ H1 fun w H2 => 2 ≤ sizeLine ∧ ∀ q, H2 q = none → Q (.ref q) (upd H2 q (.tup [v, w]))) : tTup (tCons t1 (tCons t2 tNil)) σ H Q := h
theorem lo_off {H : Hp} {p D : Addr} {q : Rat} {ys zs : List V} (h : Lo H p q) (e : H D = some (.lst ys)) : Lo (upd H D (.lst zs)) p q := by
  show upd H D _ _ = _
  rw [upd_ne (fun z => by rw [z] at h; unfold Lo at h; rw [e] at h; cases h)]
  exact h
theorem ok_area_of (T : Txt K mg) : FnOk P w K mg base (L2.CX P w) 8 (fA mg "area_of") (fDat K (fA mg "area_of")) ["places"] spArea := by
  have G_twice_area := ok_twice_area (P := P) (w := w) (base := base) T
  have Gwhole_row := ok_whole_row (P := P) (w := w) (base := base) T
  have Gpair_of := ok_pair_of (P := P) (w := w) (base := base) T
  refine T.area_of.F.okX scarea_of (fun vs H Q E h => ?_) (fun cdv A outer s H vs Q E hr h => ?_)
  · obtain ⟨t, xs, ps, n, rfl, _⟩ := h
    rfl
  obtain ⟨t, xs, ps, nb, rfl, e, al, h2, hl, sz, k⟩ := h
  refine ⟨_, (pss_cons (ps_asg (pe_c T.whole_row Gwhole_row (hr.mono (by decide)) (pa_cons (pe_lc (own := [("x", 3), ("_", 4)]) (g := gTup K 2 (gCons (gName 3) (gCons (gName 4) gNil))) (tt := tYes) (by rfl) scarea_of.nd (pi_tup (pv 0)) (blkOk_by (own := [("x", 3), ("_", 4)]) (N := ["places", "wide", "below", "x", "_", "high", "further_below", "y"]) (sc := defScope sarea_of) (by decide +kernel)) (fun _ _ _ _ _ => pg_tup rfl (pgs_cons (pg_name (i := 3) scarea_of.nd rfl (Or.inl rfl)) (pgs_cons (pg_name (i := 4) scarea_of.nd rfl (Or.inl rfl)) pgs_nil))) (fun _ _ _ _ _ => pts_nil) (fun _ _ _ _ _ => (pv 3))) pa_nil)) (pg_tup rfl (pgs_cons (pg_name (i := 1) scarea_of.nd rfl (Or.inl rfl)) (pgs_cons (pg_name (i := 2) scarea_of.nd rfl (Or.inl rfl)) pgs_nil))))
  (pss_cons (ps_asg (pe_c T.whole_row Gwhole_row (hr.mono (by decide)) (pa_cons (pe_lc (own := [("_", 4), ("y", 7)]) (g := gTup K 2 (gCons (gName 4) (gCons (gName 7) gNil))) (tt := tYes) (by rfl) scarea_of.nd (pi_tup (pv 0)) (blkOk_by (own := [("_", 4), ("y", 7)]) (N := ["places", "wide", "below", "x", "_", "high", "further_below", "y"]) (sc := defScope sarea_of) (by decide +kernel)) (fun _ _ _ _ _ => pg_tup rfl (pgs_cons (pg_name (i := 4) scarea_of.nd rfl (Or.inl rfl)) (pgs_cons (pg_name (i := 7) scarea_of.nd rfl (Or.inl rfl)) pgs_nil))) (fun _ _ _ _ _ => pts_nil) (fun _ _ _ _ _ => (pv 7))) pa_nil)) (pg_tup rfl (pgs_cons (pg_name (i := 5) scarea_of.nd rfl (Or.inl rfl)) (pgs_cons (pg_name (i := 6) scarea_of.nd rfl (Or.inl rfl)) pgs_nil))))
  (pss_one (ps_ret (pe_call Gpair_of (hr.mono (by decide)) (by rfl) T.pair_of.g T.pair_of.F.kp T.pair_of.b .nil (passes_call (takes_of rfl rfl rfl rfl) (fun _ _ _ _ h => h)) (pa_cons (pe_tup (pa_cons (pe_callB call_abs (by rfl) T.abs (by decide +kernel) (pa_cons (pe_c T._twice_area G_twice_area (hr.mono (by decide)) (pa_cons (ZL.pe_listZip (by rfl) (by rfl) T.zip (by rfl) T.list (pa_cons (pv 1) (pa_cons (pv 5) pa_nil))) pa_nil)) pa_nil)) (pa_cons (pe_op op_mulW (pe_op op_mulW pe_int (pv 2)) (pv 6)) pa_nil))) pa_nil)))))), ?_⟩
  have lp : ps.length = xs.length := al.len.symm
  have le := sz.1
  have los : ∀ {ys : List V} {f : RP → Rat} {H1 : Hp} {p : Addr}, H1 p = some (.lst ys) → Rows (fun i v H => ∃ q, (ps.map f)[i]? = some q ∧ ∃ p, v = .ref p ∧ Lo H p q) 0 xs.length ys H1 → Los H1 p (ps.map f) := fun {ys f H1 p} e1 r1 => ⟨ys, e1, All2.mk (by rw [r1.2, List.length_map, lp]) fun i v q hv hq => by
    obtain ⟨q2, h2, z⟩ := r1.1.get hv
    rw [Nat.zero_add, hq] at h2
    cases h2
    exact z⟩
  have sms : ∀ {f : RP → Rat}, (∀ p ∈ ps, Sm nb (f p)) → Sms nb (ps.map f) := fun {f} h q hq => by
    obtain ⟨p, hp, rfl⟩ := List.mem_map.mp hq
    exact h p hp
  have ln : ∀ {f : RP → Rat}, nb * (ps.map f).length + nb ≤ 900 := fun {f} => by rw [List.length_map]; omega
  refine q_gen (call_one (l_lcT (R := fun i v H => ∃ q, (ps.map (·.1))[i]? = some q ∧ ∃ p, v = .ref p ∧ Lo H p q) (fun i v H1 H2 s ⟨q, h1, p, h2, h3⟩ => ⟨q, h1, p, h2, h3.same s⟩) (fun i v H D ys zs ⟨q, h1, p, h2, h3⟩ hD => ⟨q, h1, p, h2, lo_off h3 hD⟩) (val_var rfl) (SqT.of e) (by omega) (fun i x H1 hx s1 => ?_) (fun p1 ys H1 s1 e1 r1 => ?_)))
  · obtain ⟨p, hp, a, x1, y1, rfl, ea, l1, l2⟩ := al.get hx
    refine turn_two (SqT.of (s1 _ _ ea)) rfl (em_val (val_var rfl) ⟨p.1, ?_, _, rfl, l1.same s1⟩)
    rw [List.getElem?_map, hp]
    rfl
  refine ⟨p1, ps.map (·.1), nb, rfl, los e1 r1, sms (fun p hp => (sz.2 p hp).1), ln, by rw [List.length_map]; omega, fun T1 lX Dx H2 s2 dx lx vx eT1 eX => g_two (SqT.of eT1) ?_⟩
  have sA := s1.trans s2
  refine q_gen (call_one (l_lcT (R := fun i v H => ∃ q, (ps.map (·.2))[i]? = some q ∧ ∃ p, v = .ref p ∧ Lo H p q) (fun i v H1 H2 s ⟨q, h1, p, h2, h3⟩ => ⟨q, h1, p, h2, h3.same s⟩) (fun i v H D ys zs ⟨q, h1, p, h2, h3⟩ hD => ⟨q, h1, p, h2, lo_off h3 hD⟩) (val_var rfl) (SqT.of (sA _ _ e)) (by omega) (fun i x H3 hx s3 => ?_) (fun p2 ys H3 s3 e3 r3 => ?_)))
  · obtain ⟨p, hp, a, x1, y1, rfl, ea, l1, l2⟩ := al.get hx
    refine turn_two (SqT.of (s3 _ _ (sA _ _ ea))) rfl (em_val (val_var rfl) ⟨p.2, ?_, _, rfl, (l2.same sA).same s3⟩)
    rw [List.getElem?_map, hp]
    rfl
  refine ⟨p2, ps.map (·.2), nb, rfl, los e3 r3, sms (fun p hp => (sz.2 p hp).2), ln, by rw [List.length_map]; omega, fun T2 lY Dy H4 s4 dy ly vy eT2 eY => g_two (SqT.of eT2) ?_⟩
  rw [List.length_map] at lx ly
  have vx' : ∀ p ∈ ps, p.1.den ∣ Dx := fun p hp => vx _ (List.mem_map.mpr ⟨p, hp, rfl⟩)
  have vy' : ∀ p ∈ ps, p.2.den ∣ Dy := fun p hp => vy _ (List.mem_map.mpr ⟨p, hp, rfl⟩)
  have bg := grid_bg sz lx ly
  have sB := sA.trans (s3.trans s4)
  have eX4 := (s3.trans s4) _ _ eX
  have lX1 : ((tops Dx (ps.map (·.1))).map V.int).length = ps.length := by unfold tops; simp
  have lY1 : ((tops Dy (ps.map (·.2))).map V.int).length = ps.length := by unfold tops; simp
  refine r_ret (call_one (tup2 (cb_in (call_one (lz_in ((val_var rfl) _ ((val_var rfl) _ ⟨lX, lY, _, _, rfl, .inl ⟨SqL.of eX4, SqL.of eY⟩, by rw [lX1, lY1], by rw [lX1]; omega, fun d zs H5 s5 nd ed hz => ?_⟩)))))))
  have ar : RowAt H5 d (ps.map (scp Dx Dy)) := ⟨zs, ed, All2.mk (by rw [hz.1, lX1, List.length_map]) fun i v q hv hq => by
    rw [List.getElem?_map] at hq
    cases hp : ps[i]? with
    | none => rw [hp] at hq; cases hq
    | some p =>
      rw [hp] at hq
      cases hq
      have hx : ((tops Dx (ps.map (·.1))).map V.int)[i]? = some (V.int (sc Dx p.1)) := by
        unfold tops
        rw [List.getElem?_map, List.getElem?_map, List.getElem?_map, hp]
        rfl
      have hy : ((tops Dy (ps.map (·.2))).map V.int)[i]? = some (V.int (sc Dy p.2)) := by
        unfold tops
        rw [List.getElem?_map, List.getElem?_map, List.getElem?_map, hp]
        rfl
      obtain ⟨T, hT, _, eT⟩ := hz.2 i _ _ hx hy
      rw [hT] at hv
      cases hv
      exact ⟨T, rfl, eT⟩⟩
  have lm : (ps.map (scp Dx Dy)).length = ps.length := List.length_map ..
  refine ⟨d, _, rfl, ar, by omega, by omega, bg, fun H6 s6 => ⟨_, rfl, ?_⟩⟩
  have ab := twA_abs (ps := ps.map (scp Dx Dy)) (b := 440) (fun q hq => by
    obtain ⟨p, hp, rfl⟩ := List.mem_map.mp hq
    obtain ⟨z1, z2⟩ := sz.2 p hp
    have le2 : (2 : Nat) ^ (nb + nb * ps.length) ≤ 2 ^ 440 := Nat.pow_le_pow_right (by decide) (by omega)
    exact ⟨Nat.le_trans (sc_abs z1 lx) le2, Nat.le_trans (sc_abs z2 ly) le2⟩)
  have are := ar_eq dx dy vx' vy' rfl
  generalize twA (ps.map (scp Dx Dy)) = z at ab are
  rw [lm] at ab
  have zb : z.natAbs < 2 ^ 1000 := by
    refine Nat.lt_of_le_of_lt ab (Nat.lt_of_le_of_lt (Nat.mul_le_mul_right _ (show ps.length ≤ 100 by omega)) ?_)
    decide +kernel
  have dD : Dx * Dy ≤ 2 ^ 880 := by
    have h1 : Dx ≤ 2 ^ 440 := Nat.le_trans lx (Nat.pow_le_pow_right (by decide) (by omega))
    have h2 : Dy ≤ 2 ^ 440 := Nat.le_trans ly (Nat.pow_le_pow_right (by decide) (by omega))
    have h3 := Nat.mul_le_mul h1 h2
    rw [← Nat.pow_add] at h3
    exact h3
  have f1 : (2 : Int).natAbs < 2 ^ 1000 := by decide +kernel
  have f2 : ((Dx : Nat) : Int).natAbs < 2 ^ 1000 := by
    rw [Int.natAbs_natCast]
    refine Nat.lt_of_le_of_lt (Nat.le_trans lx (Nat.pow_le_pow_right (by decide) (show nb * ps.length ≤ 440 by omega))) ?_
    decide +kernel
  have f4 : ((Dy : Nat) : Int).natAbs < 2 ^ 1000 := by
    rw [Int.natAbs_natCast]
    refine Nat.lt_of_le_of_lt (Nat.le_trans ly (Nat.pow_le_pow_right (by decide) (show nb * ps.length ≤ 440 by omega))) ?_
    decide +kernel
  have f3 : (2 * ((Dx : Nat) : Int)).natAbs < 2 ^ 1000 := by
    rw [Int.natAbs_mul, Int.natAbs_natCast]
    refine Nat.lt_of_le_of_lt (Nat.mul_le_mul_left 2 (Nat.le_trans lx (Nat.pow_le_pow_right (by decide) (show nb * ps.length ≤ 440 by omega)))) ?_
    decide +kernel
  have f5 : (2 * ((Dx : Nat) : Int) * ((Dy : Nat) : Int)).natAbs < 2 ^ 1000 := by
    rw [Int.natAbs_mul, Int.natAbs_mul, Int.natAbs_natCast, Int.natAbs_natCast, Nat.mul_assoc]
    refine Nat.lt_of_le_of_lt (Nat.mul_le_mul_left 2 dD) ?_
    decide +kernel
  have pos : 0 < 2 * ((Dx : Nat) : Int) * ((Dy : Nat) : Int) := Int.mul_pos (Int.mul_pos (by decide) (by omega)) (by omega)
  refine (v_mul (v_mul val_c (val_var rfl) (fit_mul f1 f2)) (val_var rfl) (fit_mul f3 f4)) _ ⟨by decide, fun tt ht => ?_⟩
  refine ⟨.ref tt, _, rfl, ⟨_, _, .pair (.inr upd_same) pos, ⟨?_, f5⟩, rfl⟩, fun p H7 s7 l7 => k p H7 ((sB.trans (s5.trans s6)).trans ((Same.new' ht).trans s7)) (by rw [are]; exact l7)⟩
  by_cases q : z < 0
  · rw [if_pos q, Int.natAbs_neg]
    exact zb
  · rw [if_neg q]
    exact zb
end
end LW

namespace LW
open PySem PySem.Spec PyProof.Rows L2 GL
section
variable {P : Program} {w : World} {K : PySem.W.Frag} {mg : Str → Option Value} {base : Heap}
/-! ### holes, told -/
def stepM (c : List RP) (f : List (List RP)) : Option (List RP) → Option (List (List RP))
  | some ps => if (goesO ps && hasAp c f ps) = true then some (f ++ [ps]) else none
  | none => none
def failAt (c : List RP) : List (List RP) → List (Option (List RP)) → Option Nat
  | _, [] => none
  | f, d :: r => match stepM c f d with
    | some f2 => (failAt c f2 r).map (· + 1)
    | none => some 0
def HoleD (H : Hp) (v : V) : Option (List RP) → Prop
  | none => NoBd H v
  | some ps => ∃ (a : Addr) (xs : List V), v = .ref a ∧ Sq H a xs ∧ All2 (PlR H) xs ps ∧ 3 ≤ xs.length ∧ xs.length ≤ 100
def TupP (H : Hp) (v : V) (ps : List RP) : Prop := ∃ t xs, v = .ref t ∧ H t = some (.tup xs) ∧ All2 (PlL H) xs ps
theorem TupP.same {H H' : Hp} {v : V} {ps : List RP} (h : TupP H v ps) (s : L2.Same H H') : TupP H' v ps := by
  obtain ⟨t, xs, e, h1, h2⟩ := h
  exact ⟨t, xs, e, s _ _ h1, h2.imp fun _ _ z => z.same s⟩
theorem NoBd.same {H H' : Hp} {v : V} (h : NoBd H v) (s : L2.Same H H') : NoBd H' v := by
  rcases h with ⟨n, i, h⟩ | ⟨a, xs, bs, e, h1, h2, h3, h4⟩
  · exact .inl ⟨n, i.same s, h⟩
  · exact .inr ⟨a, xs, bs, e, h1.same s, h2, h3.imp fun _ _ z => z.same s, h4⟩
theorem HoleD.same {H H' : Hp} {v : V} {d : Option (List RP)} (h : HoleD H v d) (s : L2.Same H H') : HoleD H' v d := by
  cases d with
  | none => exact NoBd.same h s
  | some ps =>
    obtain ⟨a, xs, e, h1, h2, h3⟩ := h
    exact ⟨a, xs, e, h1.same s, h2.imp fun _ _ z => z.same s, h3⟩
/-- all the places there are -/
def allP (c : List RP) (ds : List (Option (List RP))) : List RP := c ++ (ds.filterMap id).flatten
/-- a list, a tuple, or a tuple of the text -/
def SqK (K : PySem.W.Frag) (H : Hp) (a : Addr) (xs : List V) : Prop := Sq H a xs ∨ ∀ H', SqT K H' a xs ∧ TyX K H' (.ref a) (.type "tuple")
theorem SqK.same {H H' : Hp} {a : Addr} {xs : List V} (h : SqK K H a xs) (s : L2.Same H H') : SqK K H' a xs := h.imp (fun z => z.same s) id
def spTold (K : PySem.W.Frag) (mg : Str → Option Value) : Sp := fun vs H Q E => ∃ (hs ct : Addr) (xs cs : List V) (ds : List (Option (List RP))) (c : List RP) (n : Nat), vs = [.ref hs, .ref ct] ∧ SqK K H hs xs ∧ All2 (HoleD H) xs ds ∧ H ct = some (.tup cs) ∧ All2 (PlL H) cs c ∧ 3 ≤ c.length ∧
  xs.length ≤ 20 ∧ (allP c ds).length ≤ 100 ∧ SzP n (allP c ds).length (allP c ds) ∧
  (∀ i v, xs[i]? = some v → failAt c [] ds = some i → BadRw mg H v E) ∧
  (failAt c [] ds = none → ∀ t ts H', L2.Same H H' → H' t = some (.tup ts) → All2 (TupP H') ts (ds.filterMap id) → Q (.ref t) H')
theorem q_forS {g : TG} {te : TE} {tb tz : TS} {D : Ends} {σ : L2.St} {H H0 : Hp} {a : Addr} {xs : List V} (h : Val te σ H (.ref a)) (hx : SqK K H0 a xs) (s0 : L2.Same H0 H) (Pv : Nat → L2.St → Hp → Prop) (h0 : Pv 0 σ H) (hk : ∀ i σ H', Pv i σ H' → L2.Same H0 H')
    (hs : ∀ i x σ H, xs[i]? = some x → Pv i σ H → g x σ H fun σ2 H2 => tb { D with nx := Pv (i + 1), ct := Pv (i + 1), bk := tz D } σ2 H2) (hd : ∀ σ H, Pv xs.length σ H → tz D σ H) : tSeq (tFor (fun σ H R => iList K te σ H R ∨ iTup K te σ H R) g tb) tz D σ H :=
  hx.elim (fun hx => hx.elim (fun z => Or.inl (q_forL h (SqL.of (s0 _ _ z)) Pv h0 (fun i σ H' _ p => SqL.of (hk i σ H' p _ _ z)) hs hd)) (fun z => Or.inr (q_forT h (SqT.of (s0 _ _ z)) Pv h0 (fun i σ H' p => SqT.of (hk i σ H' p _ _ z)) hs hd))) fun z => Or.inr (q_forT h (z _).1 Pv h0 (fun i σ H' p => (z _).1) hs hd)
theorem failAt_step {c : List RP} {f f2 : List (List RP)} {d : Option (List RP)} {ds : List (Option (List RP))} {i : Nat} (hd : ds[i]? = some d) (h : failAt c [] ds = (failAt c f (ds.drop i)).map (· + i)) :
    (stepM c f d = none → failAt c [] ds = some i) ∧ (stepM c f d = some f2 → failAt c [] ds = (failAt c f2 (ds.drop (i + 1))).map (· + (i + 1))) := by
  rw [drop_at hd] at h
  constructor
  · intro q
    have h1 : failAt c f (d :: ds.drop (i + 1)) = some 0 := by
      show (match stepM c f d with
        | some f2 => (failAt c f2 (ds.drop (i + 1))).map (· + 1)
        | none => some 0) = _
      rw [q]
    rw [h, h1]
    simp
  · intro q
    have h2 : failAt c f (d :: ds.drop (i + 1)) = (failAt c f2 (ds.drop (i + 1))).map (· + 1) := by
      show (match stepM c f d with
        | some f2 => (failAt c f2 (ds.drop (i + 1))).map (· + 1)
        | none => some 0) = _
      rw [q]
    rw [h2, Option.map_map] at h
    rw [h]
    congr 1
    funext k
    show k + 1 + i = k + (i + 1)
    omega
theorem all2_snoc {α β : Type} {R : α → β → Prop} {as : List α} {bs : List β} {b : β} (h : All2 R as (bs ++ [b])) : ∃ as1 a, as = as1 ++ [a] ∧ All2 R as1 bs ∧ R a b := by
  induction bs generalizing as with
  | nil =>
    cases h with
    | cons h t =>
      cases t
      exact ⟨[], _, rfl, .nil, h⟩
  | cons x bs ih =>
    cases h with
    | cons h t =>
      obtain ⟨as1, a, rfl, h1, h2⟩ := ih t
      exact ⟨_ :: as1, a, rfl, .cons h h1, h2⟩
theorem All2.snoc {α β : Type} {R : α → β → Prop} {as : List α} {bs : List β} {a : α} {b : β} (h : All2 R as bs) (k : R a b) : All2 R (as ++ [a]) (bs ++ [b]) := by
  induction h with
  | nil => exact .cons k .nil
  | cons h _ ih => exact .cons h ih
theorem star_in {te : TE} {t : TA} {σ : L2.St} {H : Hp} {Q : List V → Hp → Prop} (h : te σ H fun x H1 => ∃ p xs, x = V.ref p ∧ (SqT K H1 p xs ∨ SqL K H1 p xs) ∧ t σ H1 fun ys H2 => Q (xs ++ ys) H2) : StX.tStar K te t σ H Q := h
theorem fm_pre {α : Type} {ds : List (Option α)} {g : List α} {k : Nat} (h : ds.take k = g.map some) : ∃ r, ds.filterMap id = g ++ r := by
  refine ⟨(ds.drop k).filterMap id, ?_⟩
  have e : ds = g.map some ++ ds.drop k := by rw [← h, List.take_append_drop]
  have e2 : (g.map some).filterMap id = g := by
    rw [List.filterMap_map]
    simp
  conv => lhs; rw [e]
  rw [List.filterMap_append, e2]
theorem tbc_in {te : TE} {σ : L2.St} {H : Hp} {Q : Bool → Hp → Prop} (h : te σ H fun x H1 => ∃ c, x = .bl c ∧ Q c H1) : tB te σ H Q := h
theorem l_s {ta : TA} {σ : L2.St} {H : Hp} {Q : VK} (h : ta σ H fun vs H1 => vs.length ≤ sizeLine ∧ ∀ q, H1 q = none → Q (.ref q) (upd H1 q (.lst vs))) : tLst ta σ H Q := h
theorem all2_map {α β γ : Type} {R : α → γ → Prop} {S : α → β → Prop} {f : β → γ} {as : List α} {bs : List β} (h : All2 S as bs) (k : ∀ a b, S a b → R a (f b)) : All2 R as (bs.map f) := by
  induction h with
  | nil => exact .nil
  | cons h _ ih => exact .cons (k _ _ h) ih
theorem all2_self {α β : Type} {R : α → β → Prop} {f : β → α} {bs : List β} (k : ∀ b ∈ bs, R (f b) b) : All2 R (bs.map f) bs := by
  induction bs with
  | nil => exact .nil
  | cons b bs ih => exact .cons (k b (List.mem_cons_self ..)) (ih fun x hx => k x (List.mem_cons_of_mem _ hx))
theorem stepM_some {c : List RP} {f : List (List RP)} {ps : List RP} {b : Bool} (h : (goesO ps && hasAp c f ps) = b) : stepM c f (some ps) = if b = true then some (f ++ [ps]) else none := by
  subst h
  rfl
theorem at_ne {H : Hp} {F a : Addr} {xs ys : List V} {o : HO} (e : H F = some (.lst xs)) (h : H a = some (.tup ys)) : upd H F o a = some (.tup ys) := by
  rw [upd_ne (fun z => by rw [z, e] at h; cases h)]
  exact h
theorem PlL.upd {H : Hp} {v : V} {p : RP} {F : Addr} {xs : List V} {o : HO} (h : PlL H v p) (e : H F = some (.lst xs)) : PlL (upd H F o) v p := by
  obtain ⟨a, x, y, e1, q, r1, r2⟩ := h
  exact ⟨a, x, y, e1, at_ne e q, at_ne e r1, at_ne e r2⟩
theorem TupP.upd {H : Hp} {v : V} {ps : List RP} {F : Addr} {xs : List V} {o : HO} (h : TupP H v ps) (e : H F = some (.lst xs)) : TupP (upd H F o) v ps := by
  obtain ⟨t, ys, e1, h1, h2⟩ := h
  exact ⟨t, ys, e1, at_ne e h1, h2.imp fun _ _ z => z.upd e⟩
theorem ok_told_holes (T : Txt K mg) : FnOk P w K mg base (L2.CX P w) 10 (fA mg "_told_holes") (fDat K (fA mg "_told_holes")) ["holes", "corners"] (spTold K mg) := by
  have Gborder_of := ok_border_of (P := P) (w := w) (base := base) T
  have Ggrid_of := ok_grid_of (P := P) (w := w) (base := base) T
  have Ghas_apart := ok_has_apart (P := P) (w := w) (base := base) T
  have Gi_BadRow := init_BadRow (P := P) (w := w) (base := base) T
  refine T._told_holes.F.okX sc_told_holes (fun vs H Q E h => ?_) (fun cdv A outer s H vs Q E hr h => ?_)
  · obtain ⟨hs, ct, xs, cs, ds, c, n, rfl, _⟩ := h
    rfl
  obtain ⟨hs, ct, xs, cs, ds, c, nb, rfl, hS, ad, ec, ac, c3, lx, la, sz, bad, good⟩ := h
  refine ⟨_, (pss_cons (ps_set (i := 2) sc_told_holes.nd rfl (Or.inl rfl) (pe_lst pa_nil))
  (pss_cons (ps_for (passes_of rfl) rfl (pi_or (pi_list (pv 0)) (pi_tup (pv 0))) (pg_name (i := 3) sc_told_holes.nd rfl (Or.inl rfl))
  (pss_cons (ps_set (i := 4) sc_told_holes.nd rfl (Or.inl rfl) (pe_c T.border_of Gborder_of (hr.mono (by decide)) (pa_cons (pv 3) pa_nil)))
  (pss_cons (ps_if (PW.pt (pw_or (pt_cmpR op_isN (pv 4) pe_non (nomark _)) (pw_or1 (pt_not (pt_val (pe_c T.has_apart Ghas_apart (hr.mono (by decide)) (pa_cons (pe_c T.grid_of Ggrid_of (hr.mono (by decide)) (pa_cons (pe_lst (pa_cons (pv 1) (StX.pa_star (pv 2) (pa_cons (pv 4) pa_nil)))) pa_nil)) pa_nil))))))) (pss_one (ps_raise rfl (takes_of rfl rfl rfl rfl) (pmk_oex T.BadRow.o T.BadRow.i T.BadRow.t Gi_BadRow (hr.mono (by decide)) T.BadRow.b .nil pass0 (by rfl) T.BadRow.g (pa_cons (pv 3) pa_nil)))) pss_nil)
  (pss_one (ps_expr (pe_bm PySem.F.plainAttrs_list PySem.F.slot_list_append PySem.F.type_list_append mt_append (pv 2) (pa_cons (pv 4) pa_nil)))))))
  (pss_one (ps_ret (pe_callTy call_tuple_of (by rfl) T.tuple (by decide +kernel) (pa_cons (pv 2) pa_nil)))))), ?_⟩
  have hxd := ad.len
  refine q_lst0 va_nil (by show 0 ≤ 100000; decide) fun F hF => ?_
  have uF : ∀ {H' : Hp}, L2.Same H H' → ∀ o, L2.Same H (upd H' F o) := fun {H'} s o => fun b u e => by
    rw [upd_ne (fun z => by rw [z, hF] at e; cases e)]
    exact s _ _ e
  have memA : ∀ {i : Nat} {ps : List RP}, ds[i]? = some (some ps) → ps ∈ ds.filterMap id := fun {i ps} h => List.mem_filterMap.mpr ⟨some ps, List.mem_of_getElem? h, rfl⟩
  have subA : ∀ {i : Nat} {ps : List RP}, ds[i]? = some (some ps) → ps.length ≤ (allP c ds).length ∧ ∀ p ∈ ps, p ∈ allP c ds := fun {i ps} h => by
    have m := memA h
    refine ⟨?_, fun p hp => List.mem_append_right _ (List.mem_flatten.mpr ⟨ps, m, hp⟩)⟩
    unfold allP
    rw [List.length_append]
    have := (List.sublist_flatten_of_mem m).length_le
    omega
  refine q_forS (val_var rfl) hS (uF (Same.refl H) _) (fun i σ H' => L2.Same H H' ∧ ∃ z3 z4 fs f, σ = [some (.ref hs), some (.ref ct), some (.ref F), z3, z4] ∧ H' F = some (.lst fs) ∧ All2 (TupP H') fs f ∧ ds.take i = f.map some ∧ failAt c [] ds = (failAt c f (ds.drop i)).map (· + i))
    ⟨uF (Same.refl H) _, _, _, [], [], rfl, upd_same, .nil, rfl, by simp⟩ (fun i σ H' z => z.1) (fun i v σ H' hv z => g_name ?_) (fun σ H' z => ?_)
  · obtain ⟨s1, z3, z4, fs, f, rfl, eF, af, tk, fe⟩ := z
    obtain ⟨d, hd, hole⟩ := ad.get hv
    have fst := fun {f2} => failAt_step (f := f) (f2 := f2) hd fe
    have bad' := fun h => bad i v hv h
    cases d with
    | none =>
      have bw := bad' (fst (f2 := []) |>.1 rfl)
      refine q_asg (c_call (va_cons (val_var rfl) va_nil) ⟨v, rfl, .inl ⟨NoBd.same hole s1, fun H2 s2 => ?_⟩⟩)
      refine q_un (l_or (t_op ((val_var rfl) _ (val_c _ ⟨rfl, _, rfl, q_cases (fun _ => ?_) (fun z => ?_)⟩))))
      · rw [if_pos rfl]
        exact x_made1 (va_cons (val_var rfl) va_nil) fun d H3 s3 n e => bw d H3 ((s1.trans s2).trans s3) ((s1.trans s2).free n) e
      · exact absurd z (by decide)
    | some ps =>
      obtain ⟨a, ys, rfl, hq, hR, l3, lm⟩ := hole
      obtain ⟨lsub, msub⟩ := subA hd
      have lps : ps.length = ys.length := hR.len.symm
      refine q_asg (c_call (va_cons (val_var rfl) va_nil) ⟨.ref a, rfl, .inr ⟨a, ys, ps, nb, rfl, hq.same s1, hR.imp fun _ _ z => z.same s1, l3, lm, sz.sub lsub msub, fun go t ts H2 s2 et at_ => ?_, fun go H2 s2 => ?_⟩⟩)
      · have sA := s1.trans s2
        have eF2 := s2 _ _ eF
        have af2 := af.imp fun _ _ z => TupP.same z s2
        have lf := af.len
        have tk2 : ds.take (i + 1) = (f ++ [ps]).map some := by
          rw [List.take_add_one, tk, hd, List.map_append]
          rfl
        obtain ⟨rest, erest⟩ := fm_pre tk2
        have eall : allP c ds = c ++ ((f ++ [ps]).flatten ++ rest.flatten) := by
          unfold allP
          rw [erest, List.flatten_append]
        have eflat : (c :: (f ++ [ps])).flatten = c ++ (f ++ [ps]).flatten := List.flatten_cons ..
        have lflat : (c :: (f ++ [ps])).flatten.length ≤ (allP c ds).length := by
          rw [eflat, eall, List.length_append, List.length_append, List.length_append]
          omega
        have szF : SzP nb (c :: (f ++ [ps])).flatten.length (c :: (f ++ [ps])).flatten := sz.sub lflat fun p hp => by
          rw [eflat] at hp
          rw [eall]
          rcases List.mem_append.mp hp with h | h
          · exact List.mem_append_left _ h
          · exact List.mem_append_right _ (List.mem_append_left _ h)
        have li : f.length = i := by
          have h1 := congrArg List.length tk
          rw [List.length_take, List.length_map] at h1
          have h2 := (List.getElem?_eq_some_iff.mp hd).1
          omega
        have hi : i < xs.length := (List.getElem?_eq_some_iff.mp hv).1
        have inF : ∀ r ∈ f, 3 ≤ r.length ∧ r.length ≤ 100 := fun r hr => by
          have m : some r ∈ ds.take i := by rw [tk]; exact List.mem_map.mpr ⟨r, hr, rfl⟩
          obtain ⟨k, hk⟩ := List.mem_iff_getElem?.mp (List.mem_of_mem_take m)
          have hkx : k < xs.length := by rw [hxd]; exact (List.getElem?_eq_some_iff.mp hk).1
          obtain ⟨d2, hd2, h2⟩ := ad.get (List.getElem?_eq_getElem hkx)
          rw [hk] at hd2
          cases hd2
          obtain ⟨_, _, _, _, hr2, l1, l2⟩ := h2
          rw [← hr2.len]
          exact ⟨l1, l2⟩
        refine q_un (l_or (t_op ((val_var rfl) _ (val_c _ ⟨rfl, _, rfl, q_cases (fun z => absurd z (by simp)) (fun _ => ?_)⟩))))
        refine not_in (tbc_in (call_one (call_one (l_s ((val_var rfl) _ (star_in ((val_var rfl) _ ⟨F, fs, rfl, .inr (SqL.of eF2), (val_var rfl) _ ⟨?_, fun R hRn => ?_⟩⟩)))))))
        · show (V.ref ct :: (fs ++ [V.ref t])).length ≤ sizeLine
          have : (100 : Nat) ≤ sizeLine := by decide
          simp
          omega
        have s5 := Same.new' (o := .lst (V.ref ct :: (fs ++ [V.ref t]))) hRn
        have pls : ∀ {v : V} {ps : List RP}, TupP H2 v ps → ∃ r ls, v = .ref r ∧ Seq K (upd H2 R (.lst (V.ref ct :: (fs ++ [V.ref t])))) r ls ∧ All2 (PlL (upd H2 R (.lst (V.ref ct :: (fs ++ [V.ref t]))))) ls ps := fun {v ps} ⟨r, ls, h1, h2, h3⟩ => ⟨r, ls, h1, .inr (SqT.of (s5 _ _ h2)), h3.imp fun _ _ z => z.same s5⟩
        refine ⟨R, _, c :: (f ++ [ps]), nb, rfl, upd_same, .cons (pls ⟨ct, cs, rfl, sA _ _ ec, ac.imp fun _ _ z => z.same sA⟩) ((af2.imp fun _ _ z => pls z).snoc (pls ⟨t, ts, rfl, et, at_⟩)), by simp; omega, by omega, by have := szF.1; omega, szF.2, fun Dx Dy G gs H3 dx dy lx' ly' vx vy s3 eG aG => ?_⟩
        have vx0 : ∀ r ∈ (c :: (f ++ [ps])), ∀ p ∈ r, p.1.den ∣ Dx := fun r hr p hp => vx p (List.mem_flatten.mpr ⟨r, hr, hp⟩)
        have vy0 : ∀ r ∈ (c :: (f ++ [ps])), ∀ p ∈ r, p.2.den ∣ Dy := fun r hr p hp => vy p (List.mem_flatten.mpr ⟨r, hr, hp⟩)
        have bg := grid_bg szF lx' ly'
        have okr : ∀ r ∈ (c :: (f ++ [ps])), 3 ≤ r.length → r.length ≤ 100 → OkRow (r.map (scp Dx Dy)) := fun r hr h3 h4 => ⟨by rw [List.length_map]; omega, by rw [List.length_map]; omega, fun q hq => by
          obtain ⟨p, hp, rfl⟩ := List.mem_map.mp hq
          exact bg_of (bg _ (List.mem_map.mpr ⟨p, List.mem_flatten.mpr ⟨r, hr, hp⟩, rfl⟩))⟩
        have rv : ∀ {v : V} {r : List RP}, GridRow H3 Dx Dy v r → RowV H3 v (r.map (scp Dx Dy)) := fun {v r} ⟨g, ts, h1, h2, h3⟩ => ⟨g, h1, ts, h2, grid_row h3⟩
        cases aG with
        | cons g0 grest =>
          obtain ⟨ms, gl, rfl, gm, g1⟩ := all2_snoc grest
          have c100 : c.length ≤ 100 := by
            have := lflat
            rw [eflat, List.length_append] at this
            omega
          refine ⟨G, _, gl, ms, c.map (scp Dx Dy), ps.map (scp Dx Dy), f.map (fun r => r.map (scp Dx Dy)), rfl, eG, rv g0, all2_map gm fun _ _ z => rv z, rv g1, by rw [List.length_map]; omega, okr c (List.mem_cons_self ..) c3 c100, fun r hr => by
            obtain ⟨r0, h0, rfl⟩ := List.mem_map.mp hr
            exact okr r0 (List.mem_cons_of_mem _ (List.mem_append_left _ h0)) (inF r0 h0).1 (inF r0 h0).2, okr ps (List.mem_cons_of_mem _ (List.mem_append_right _ (List.mem_cons_self ..))) (by omega) (by omega), fun H4 s4 => ⟨_, rfl, ?_⟩⟩
          have eh : hasAp (c.map (scp Dx Dy)) (f.map (fun r => r.map (scp Dx Dy))) (ps.map (scp Dx Dy)) = hasAp c f ps :=
            rl_ap (cast_pos dx) (cast_pos dy) (rl_map (vx0 c (List.mem_cons_self ..)) (vy0 c (List.mem_cons_self ..)))
              (all2_self fun r hr => rl_map (vx0 r (List.mem_cons_of_mem _ (List.mem_append_left _ hr))) (vy0 r (List.mem_cons_of_mem _ (List.mem_append_left _ hr))))
              (rl_map (vx0 ps (List.mem_cons_of_mem _ (List.mem_append_right _ (List.mem_cons_self ..)))) (vy0 ps (List.mem_cons_of_mem _ (List.mem_append_right _ (List.mem_cons_self ..)))))
          rw [eh]
          have sB := sA.trans (s5.trans (s3.trans s4))
          have sC := s5.trans (s3.trans s4)
          refine q_cases (fun m => ?_) (fun m => ?_)
          · have m2 := (Bool.not_eq_true' _).mp m
            have bw := bad' ((fst (f2 := [])).1 ((stepM_some (b := false) (by rw [go, m2]; rfl)).trans (if_neg (by decide))))
            exact x_made1 (va_cons (val_var rfl) va_nil) fun d H3 s3 n e => bw d H3 (sB.trans s3) (sB.free n) e
          · have m2 := (Bool.not_eq_false' _).mp m
            have fe2 := (fst (f2 := f ++ [ps])).2 ((stepM_some (b := true) (by rw [go, m2]; rfl)).trans (if_pos rfl))
            have eF4 := sC _ _ eF2
            have s100 : (100 : Nat) ≤ sizeLine := by decide
            refine s_appC (val_var rfl) eF4 ((val_var rfl) _ ⟨F, fs, _, rfl, rfl, eF4, by omega, ?_⟩)
            exact ⟨uF sB _, _, _, fs ++ [.ref t], f ++ [ps], rfl, upd_same, (af2.imp fun _ _ z => (TupP.same z sC).upd eF4).snoc (TupP.upd (TupP.same ⟨t, ts, rfl, et, at_⟩ sC) eF4), tk2, fe2⟩
      · have bw := bad' ((fst (f2 := [])).1 ((stepM_some (b := false) (by rw [go]; rfl)).trans (if_neg (by decide))))
        refine q_un (l_or (t_op ((val_var rfl) _ (val_c _ ⟨rfl, _, rfl, q_cases (fun _ => ?_) (fun z => ?_)⟩))))
        · rw [if_pos rfl]
          exact x_made1 (va_cons (val_var rfl) va_nil) fun d H3 s3 n e => bw d H3 ((s1.trans s2).trans s3) ((s1.trans s2).free n) e
        · exact absurd z (by decide)
  · obtain ⟨s1, z3, z4, fs, f, rfl, eF, af, tk, fe⟩ := z
    have e0 : ds.drop xs.length = [] := List.drop_eq_nil_of_le (by rw [hxd]; exact Nat.le_refl _)
    rw [e0] at fe
    have fe0 : failAt c [] ds = none := fe
    have ef : ds.filterMap id = f := by
      have h1 : ds = f.map some := by rw [← tk, hxd, List.take_length]
      rw [h1, List.filterMap_map]
      simp
    have lf := af.len
    refine r_ret (cb_in ((val_var rfl) _ ⟨F, fs, rfl, .inl ⟨SqL.of eF, fun t ht => ?_⟩⟩))
    have s2 := Same.new' (o := .tup fs) ht
    exact good fe0 t fs _ (s1.trans s2) upd_same (by rw [ef]; exact af.imp fun _ _ z => TupP.same z s2)
end
end LW

namespace LW
open PySem PySem.Spec PyProof.Rows L2 GL
section
variable {P : Program} {w : World} {K : PySem.W.Frag} {mg : Str → Option Value} {base : Heap}
/-! ### the class Room -/
abbrev sRoom_init : Stmt := (inClass (top 36) 0)
theorem scRoom_init : FnScope ["self", "corners", "holes", "border", "sides", "hole"] ["self", "corners", "holes"] (defScope sRoom_init) := ⟨rfl, rfl, rfl, by decide +kernel, rfl, by decide +kernel, by decide +kernel⟩
abbrev sRoom_has : Stmt := (inClass (top 36) 1)
theorem scRoom_has : FnScope ["self", "place", "rows", "point", "row"] ["self", "place"] (defScope sRoom_has) := ⟨rfl, rfl, rfl, by decide +kernel, rfl, by decide +kernel, by decide +kernel⟩
abbrev sRoom_area : Stmt := (inClass (top 36) 2)
theorem scRoom_area : FnScope ["self", "found", "hole"] ["self"] (defScope sRoom_area) := ⟨rfl, rfl, rfl, by decide +kernel, rfl, by decide +kernel, by decide +kernel⟩
abbrev rmA (mg : Str → Option Value) : Addr := fA mg "Room"
/-- the first default of the def at f -/
def dfl0 (K : PySem.W.Frag) (f : Addr) : Addr := match K.lookup f with
  | some ⟨_, _, .func fd, _⟩ => (match fd.defaults with
    | .ref T => (match K.lookup T with
      | some ⟨_, _, .seq its _, _⟩ => (match its.toList.head? with
        | some (.ref a) => a
        | _ => 0)
      | _ => 0)
    | _ => 0)
  | _ => 0
@[irreducible] def mA (K : PySem.W.Frag) (C : Addr) (m : Str) : Addr := match PySem.W.findIn K (.ref C) m with
  | some (some (.ref f)) => f
  | _ => 0
theorem mA_of {K : PySem.W.Frag} {C f : Addr} {m : Str} (h : PySem.W.findIn K (.ref C) m = some (some (.ref f))) : mA K C m = f := by
  unfold mA
  rw [h]
/-- a def of the class -/
structure Me (K : PySem.W.Frag) (C : Addr) (m qual : Str) (st : Stmt) (ps : List Str) : Prop where
  at_ : PySem.W.findIn K (.ref C) m = some (some (.ref (mA K C m)))
  fn : PySem.W.isFn K (.ref (mA K C m)) = true
  F : Fun K m qual st (mA K C m) (fDat K (mA K C m))
  b : L2.Binds K (fDat K (mA K C m)) ps []
theorem Me.meth {K : PySem.W.Frag} {C : Addr} {m q : Str} {st : Stmt} {ps : List Str} (h : Me K C m q st ps) : Meth K C m (mA K C m) := ⟨h.at_, h.fn, h.F.kp⟩
structure RoomT (K : PySem.W.Frag) (mg : Str → Option Value) : Prop where
  g : mg "Room" = some (.ref (rmA mg))
  cls : Cls K (rmA mg)
  mkc : Mk K (rmA mg) (mA K (rmA mg) "__init__")
  nc : NoAttr K (rmA mg) "corners"
  nh : NoAttr K (rmA mg) "holes"
  ns : NoAttr K (rmA mg) "sides"
  F : FunD K "__init__" "Room.__init__" (defArgs sRoom_init) (defBody sRoom_init) (defScope sRoom_init) [.ref (dfl0 K (mA K (rmA mg) "__init__"))] [] (mA K (rmA mg) "__init__") (fDat K (mA K (rmA mg) "__init__"))
  e0 : ∀ H : Hp, SqT K H (dfl0 K (mA K (rmA mg) "__init__")) []
theorem at_neI {H : Hp} {F a C dx : Addr} {fs : List (Str × V)} {ys : List V} {o : HO} (e : H F = some (.ins C dx fs)) (h : H a = some (.tup ys)) : upd H F o a = some (.tup ys) := by
  rw [upd_ne (fun z => by rw [z, e] at h; cases h)]
  exact h
theorem PlL.updI {H : Hp} {v : V} {p : RP} {F C dx : Addr} {fs : List (Str × V)} {o : HO} (h : PlL H v p) (e : H F = some (.ins C dx fs)) : PlL (L2.upd H F o) v p := by
  obtain ⟨a, x, y, e1, q, r1, r2⟩ := h
  exact ⟨a, x, y, e1, at_neI e q, at_neI e r1, at_neI e r2⟩
theorem TupP.updI {H : Hp} {v : V} {ps : List RP} {F C dx : Addr} {fs : List (Str × V)} {o : HO} (h : TupP H v ps) (e : H F = some (.ins C dx fs)) : TupP (L2.upd H F o) v ps := by
  obtain ⟨t, ys, e1, h1, h2⟩ := h
  exact ⟨t, ys, e1, at_neI e h1, h2.imp fun _ _ z => z.updI e⟩
/-- a room of these corners, these holes -/
def RoomAt (mg : Str → Option Value) (H : Hp) (a : Addr) (ps : List RP) (hs : List (List RP)) : Prop := ∃ (dx c h s : Addr) (ts zs : List V), H a = some (.ins (rmA mg) dx (putF "sides" (.ref s) (putF "holes" (.ref h) (putF "corners" (.ref c) [])))) ∧ TupP H (.ref c) ps ∧ H h = some (.tup ts) ∧ All2 (TupP H) ts hs ∧ H s = some (.tup zs) ∧ zs.length = (ps :: hs).flatten.length
def spRInit (K : PySem.W.Frag) (mg : Str → Option Value) : Sp := fun vs H Q E => ∃ (a dx : Addr) (v u : V) (H0 : Hp), vs = [.ref a, v, u] ∧ H a = some (.ins (rmA mg) dx []) ∧ H0 a = none ∧ L2.Same H0 H ∧
  ((NoBd H0 v ∧ BadRw mg H0 v E) ∨ ∃ (va : Addr) (xs : List V) (ps : List RP) (n : Nat), v = .ref va ∧ Sq H0 va xs ∧ All2 (PlR H0) xs ps ∧ 3 ≤ xs.length ∧ xs.length ≤ 100 ∧ SzP n ps.length ps ∧
    ((goesO ps = false ∧ BadRw mg H0 v E) ∨ (goesO ps = true ∧ ((∃ nm, Is H0 u nm ∧ nm ≠ "list" ∧ nm ≠ "tuple" ∧ BadRw mg H0 u E) ∨
      ∃ (ua : Addr) (us : List V) (ds : List (Option (List RP))) (m : Nat), u = .ref ua ∧ SqK K H0 ua us ∧ All2 (HoleD H0) us ds ∧ us.length ≤ 20 ∧ (allP ps ds).length ≤ 100 ∧ SzP m (allP ps ds).length (allP ps ds) ∧
        (∀ i w, us[i]? = some w → failAt ps [] ds = some i → BadRw mg H0 w E) ∧ (failAt ps [] ds = none → ∀ H', L2.Same H0 H' → RoomAt mg H' a ps (ds.filterMap id) → Q .non H')))))
theorem q_fld {K : PySem.W.Frag} {tv ta : TE} {f : Str} {tz : TS} {D : Ends} {σ : L2.St} {H : Hp} (h : tv σ H fun y H1 => ta σ H1 fun x H2 => ∃ a C dx fs, x = .ref a ∧ H2 a = some (.ins C dx fs) ∧ Cls K C ∧ NoAttr K C f ∧ fs.length < 1000 ∧ tz D σ (L2.upd H2 a (.ins C dx (putF f y fs)))) : tSeq (sFld K ta tv f) tz D σ H := h
theorem st_fld {K : PySem.W.Frag} {tv ta : TE} {f : Str} {D : Ends} {σ : L2.St} {H : Hp} (h : tv σ H fun y H1 => ta σ H1 fun x H2 => ∃ a C dx fs, x = .ref a ∧ H2 a = some (.ins C dx fs) ∧ Cls K C ∧ NoAttr K C f ∧ fs.length < 1000 ∧ D.nx σ (L2.upd H2 a (.ins C dx (putF f y fs)))) : sFld K ta tv f D σ H := h
theorem st_asgN {te : TE} {i : Nat} {D : Ends} {σ : L2.St} {H : Hp} (h : te σ H fun v H' => D.nx (σ.set i (some v)) H') : tAsg te (gName i) D σ H := h
theorem lk_h {h c : Addr} : (putF "holes" (V.ref h) (putF "corners" (V.ref c) [])).lookup ("holes" : Str) = some (.ref h) := by
  rw [lookup_putF, if_pos rfl]
theorem v_rfld {K : PySem.W.Frag} {te : TE} {σ : L2.St} {H : Hp} {a C dx : Addr} {fs : List (Str × V)} {f : Str} {v : V} (h : Val te σ H (.ref a)) (e : H a = some (.ins C dx fs)) (c : Cls K C) (n : NoAttr K C f) (l : fs.lookup f = some v) : Val (tFld K te f) σ H v := fun Q q => h _ ⟨a, C, dx, _, _, rfl, e, c, n, l, q⟩
theorem fm_mem {H : Hp} {us : List V} {ds : List (Option (List RP))} (h : All2 (HoleD H) us ds) {r : List RP} (hr : r ∈ ds.filterMap id) : 3 ≤ r.length ∧ r.length ≤ 100 := by
  obtain ⟨d, hd, e⟩ := List.mem_filterMap.mp hr
  have e2 : d = some r := e
  subst e2
  obtain ⟨k, hk⟩ := List.mem_iff_getElem?.mp hd
  have hkx : k < us.length := by rw [h.len]; exact (List.getElem?_eq_some_iff.mp hk).1
  obtain ⟨d2, hd2, h2⟩ := h.get (List.getElem?_eq_getElem hkx)
  rw [hk] at hd2
  cases hd2
  obtain ⟨_, _, _, _, hr2, l1, l2⟩ := h2
  rw [← hr2.len]
  exact ⟨l1, l2⟩
theorem ok_Room_init (T : Txt K mg) (TR : RoomT K mg) : FnOk P w K mg base (L2.CX P w) 11 (mA K (rmA mg) "__init__") (fDat K (mA K (rmA mg) "__init__")) ["self", "corners", "holes"] (spRInit K mg) := by
  have Gborder_of := ok_border_of (P := P) (w := w) (base := base) T
  have Gturned_sides := ok_turned_sides (P := P) (w := w) (base := base) T
  have G_told_holes := ok_told_holes (P := P) (w := w) (base := base) T
  have Gi_BadRow := init_BadRow (P := P) (w := w) (base := base) T
  refine TR.F.ok scRoom_init (fun vs H Q E h => ?_) (fun cdv A outer s H vs Q E hr h => ?_)
  · obtain ⟨a, dx, v, u, H0, rfl, _⟩ := h
    rfl
  obtain ⟨a, dx, v, u, H0, rfl, hA, hA0, s0, h⟩ := h
  refine ⟨_, (pss_cons (ps_set (i := 3) scRoom_init.nd rfl (Or.inl rfl) (pe_c T.border_of Gborder_of (hr.mono (by decide)) (pa_cons (pv 1) pa_nil)))
  (pss_cons (ps_if (pt_cmpR op_isN (pv 3) pe_non (nomark _)) (pss_one (ps_raise rfl (takes_of rfl rfl rfl rfl) (pmk_oex T.BadRow.o T.BadRow.i T.BadRow.t Gi_BadRow (hr.mono (by decide)) T.BadRow.b .nil pass0 (by rfl) T.BadRow.g (pa_cons (pv 1) pa_nil)))) pss_nil)
  (pss_cons (ps_if (pt_not (pt_val (pe_callB call_isiT (by rfl) T.isinstance (by decide +kernel) (pa_cons (pv 2) (pa_cons (pe_tup (pa_cons (pe_bltn (v := .ty "tuple") (by rfl) T.tuple (by decide +kernel) rfl) (pa_cons (pe_bltn (v := .ty "list") (by rfl) T.list (by decide +kernel) rfl) pa_nil))) pa_nil))))) (pss_one (ps_raise rfl (takes_of rfl rfl rfl rfl) (pmk_oex T.BadRow.o T.BadRow.i T.BadRow.t Gi_BadRow (hr.mono (by decide)) T.BadRow.b .nil pass0 (by rfl) T.BadRow.g (pa_cons (pv 2) pa_nil)))) pss_nil)
  (pss_cons (ps_fld (pv 0) (pv 3) (by rfl))
  (pss_cons (ps_fld (pv 0) (pe_call G_told_holes (hr.mono (by decide)) (by rfl) T._told_holes.g T._told_holes.F.kp T._told_holes.b .nil (passes_call (takes_of rfl rfl rfl rfl) (fun _ _ _ _ h => h)) (pa_cons (pv 2) (pa_cons (pv 3) pa_nil))) (by rfl))
  (pss_cons (ps_set (i := 4) scRoom_init.nd rfl (Or.inl rfl) (pe_c T.turned_sides Gturned_sides (hr.mono (by decide)) (pa_cons (pv 3) (pa_cons pe_bl pa_nil))))
  (pss_cons (ps_for (passes_of rfl) rfl (pi_tup (pe_fld (pv 0) (by rfl))) (pg_name (i := 5) scRoom_init.nd rfl (Or.inl rfl))
  (pss_one (ps_set (i := 4) scRoom_init.nd rfl (Or.inl rfl) (pe_op op_cat (pv 4) (pe_c T.turned_sides Gturned_sides (hr.mono (by decide)) (pa_cons (pv 5) (pa_cons pe_bl pa_nil)))))))
  (pss_one (ps_fld (pv 0) (pe_callTy call_tuple_of (by rfl) T.tuple (by decide +kernel) (pa_cons (pv 4) pa_nil)) (by rfl)))))))))), ?_⟩
  have uA : ∀ {H' : Hp}, L2.Same H0 H' → ∀ o, L2.Same H0 (upd H' a o) := fun {H'} s o => fun b u e => by
    rw [upd_ne (fun z => by rw [z, hA0] at e; cases e)]
    exact s _ _ e
  rcases h with ⟨no, bw⟩ | ⟨va, xs, ps, nb, rfl, hS, hR, l3, lm, sz, h⟩
  · refine q_asg (c_call (va_cons (val_var rfl) va_nil) ⟨v, rfl, .inl ⟨NoBd.same no s0, fun H2 s2 => ?_⟩⟩)
    refine q_un (t_op ((val_var rfl) _ (val_c _ ⟨rfl, _, rfl, q_cases (fun _ => ?_) (fun z => absurd z (by decide))⟩)))
    exact x_made1 (va_cons (val_var rfl) va_nil) fun d H3 s3 n e => bw d H3 ((s0.trans s2).trans s3) ((s0.trans s2).free n) e
  refine q_asg (c_call (va_cons (val_var rfl) va_nil) ⟨.ref va, rfl, .inr ⟨va, xs, ps, nb, rfl, hS.same s0, hR.imp fun _ _ z => z.same s0, l3, lm, sz, fun go t ts H2 s2 et at_ => ?_, fun go H2 s2 => ?_⟩⟩)
  case refine_2 =>
    rcases h with ⟨_, bw⟩ | ⟨g2, _⟩
    · refine q_un (t_op ((val_var rfl) _ (val_c _ ⟨rfl, _, rfl, q_cases (fun _ => ?_) (fun z => absurd z (by decide))⟩)))
      exact x_made1 (va_cons (val_var rfl) va_nil) fun d H3 s3 n e => bw d H3 ((s0.trans s2).trans s3) ((s0.trans s2).free n) e
    · rw [go] at g2
      cases g2
  refine q_un (t_op ((val_var rfl) _ (val_c _ ⟨rfl, _, rfl, q_cases (fun z => absurd z (by simp)) (fun _ => ?_)⟩)))
  rcases h with ⟨g2, _⟩ | ⟨_, h⟩
  · rw [go] at g2
    cases g2
  have s2' := s0.trans s2
  have both : ∀ {n : String} {Q' : Bool → Hp → Prop} {σ : L2.St}, σ[2]? = some (some u) → (∀ H', L2.Same H2 H' → TyX K H' u (.type n)) → n ∈ kinds → (∀ H3, L2.Same H2 H3 → Q' (decide (n = "tuple") || decide (n = "list")) H3) →
      tB (tCB (rIsiT K) (tCons (tVar 2) (tCons (tTup (tCons (tC (.ty "tuple")) (tCons (tC (.ty "list")) tNil))) tNil))) σ H2 Q' := fun {n Q' σ} hu i hn q =>
    (val_var hu) _ ⟨by show 2 ≤ sizeLine; decide, fun p hp => ⟨u, p, [.ty "tuple", .ty "list"], _, [.type "tuple", .type "list"], _, rfl, upd_same, .cons (.ty _) (.cons (.ty _) .nil), i _ (Same.new' hp), kit_seq hn, _, rfl, q _ (Same.new' hp)⟩⟩
  rcases h with ⟨nm, iu, n1, n2, bw⟩ | ⟨ua, us, ds, m, rfl, hU, aU, lU, la, szA, bad, good⟩
  · refine q_un (not_in (both rfl (fun H' s => ((iu.same s2').same s).ty.1) (iu.ty (K := K)).2 fun H3 s3 => ?_))
    rw [decide_eq_false n2, decide_eq_false n1]
    refine q_cases (fun _ => ?_) (fun z => absurd z (by decide))
    exact x_made1 (va_cons (val_var rfl) va_nil) fun d H4 s4 n e => bw d H4 ((s2'.trans s3).trans s4) ((s2'.trans s3).free n) e
  have hty : ∃ n : String, (n = "list" ∨ n = "tuple") ∧ ∀ H', L2.Same H2 H' → TyX K H' (.ref ua) (.type n) := by
    rcases hU.same s2' with h | h
    · obtain ⟨n, i, o⟩ := h.is
      exact ⟨n, o, fun H' s => (i.same s).ty.1⟩
    · exact ⟨"tuple", .inr rfl, fun H' _ => (h H').2⟩
  obtain ⟨nm, o, hty⟩ := hty
  refine q_un (not_in (both rfl hty (by rcases o with rfl | rfl <;> decide) fun H3 s3 => ?_))
  have eo : (decide (nm = "tuple") || decide (nm = "list")) = true := by rcases o with rfl | rfl <;> decide
  rw [eo]
  refine q_cases (fun z => absurd z (by decide)) (fun _ => ?_)
  have s3' := s2'.trans s3
  have eA3 : H3 a = some (.ins (rmA mg) dx []) := (s2.trans s3) _ _ hA
  have lts := at_.len
  refine q_fld ((val_var rfl) _ ((val_var rfl) _ ⟨a, rmA mg, dx, [], rfl, eA3, TR.cls, TR.nc, by show 0 < 1000; decide, ?_⟩))
  have cT3 : TupP H3 (.ref t) ps := ⟨t, ts, rfl, s3 _ _ et, at_.imp fun _ _ z => z.same s3⟩
  have eT4 := at_neI (o := .ins (rmA mg) dx (putF "corners" (.ref t) [])) eA3 (s3 _ _ et)
  have al4 := (at_.imp fun _ _ z => z.same s3).imp fun _ _ (z : PlL H3 _ _) => z.updI (o := .ins (rmA mg) dx (putF "corners" (.ref t) [])) eA3
  have s4' := uA s3' (.ins (rmA mg) dx (putF "corners" (.ref t) []))
  have eA4 : L2.upd H3 a (.ins (rmA mg) dx (putF "corners" (.ref t) [])) a = some (.ins (rmA mg) dx (putF "corners" (.ref t) [])) := upd_same
  generalize L2.upd H3 a (.ins (rmA mg) dx (putF "corners" (.ref t) [])) = H4 at eT4 al4 s4' eA4
  have lp3 : 3 ≤ ps.length := by rw [← hR.len]; exact l3
  refine q_fld (c_call (va_cons (val_var rfl) (va_cons (val_var rfl) va_nil)) ⟨ua, t, us, ts, ds, ps, m, rfl, hU.same s4', aU.imp fun _ _ z => HoleD.same z s4', eT4, al4, lp3, lU, la, szA, fun i w hw hf => (bad i w hw hf).from s4', fun okF th tsh H5 s5 eth ath => ?_⟩)
  have eA5 := s5 _ _ eA4
  refine (val_var rfl) _ ⟨a, rmA mg, dx, _, rfl, eA5, TR.cls, TR.nh, by show 1 < 1000; decide, ?_⟩
  have s5' := s4'.trans s5
  have eT6 := at_neI (o := .ins (rmA mg) dx (putF "holes" (.ref th) (putF "corners" (.ref t) []))) eA5 (s5 _ _ eT4)
  have al6 := (al4.imp fun _ _ z => z.same s5).imp fun _ _ (z : PlL H5 _ _) => z.updI (o := .ins (rmA mg) dx (putF "holes" (.ref th) (putF "corners" (.ref t) []))) eA5
  have eth6 := at_neI (o := .ins (rmA mg) dx (putF "holes" (.ref th) (putF "corners" (.ref t) []))) eA5 eth
  have ath6 := ath.imp fun _ _ (z : TupP H5 _ _) => z.updI (o := .ins (rmA mg) dx (putF "holes" (.ref th) (putF "corners" (.ref t) []))) eA5
  have s6' := uA s5' (.ins (rmA mg) dx (putF "holes" (.ref th) (putF "corners" (.ref t) [])))
  have eA6 : L2.upd H5 a (.ins (rmA mg) dx (putF "holes" (.ref th) (putF "corners" (.ref t) []))) a = some (.ins (rmA mg) dx (putF "holes" (.ref th) (putF "corners" (.ref t) []))) := upd_same
  generalize L2.upd H5 a (.ins (rmA mg) dx (putF "holes" (.ref th) (putF "corners" (.ref t) []))) = H6 at eT6 al6 eth6 ath6 s6' eA6
  have lfl : (ps :: ds.filterMap id).flatten.length = (allP ps ds).length := by
    rw [List.flatten_cons]
    rfl
  have s100 : (100 : Nat) ≤ sizeLine := by decide
  refine q_asg (c_call (va_cons (val_var rfl) (va_cons val_c va_nil)) ⟨t, ts, ps, nb, true, rfl, eT6, al6, by omega, by have := hR.len; omega, sz, fun l0 zs0 H7 s7 el0 lz0 => ?_⟩)
  have lthd := ath6.len
  refine q_forT (v_rfld (val_var rfl) (s7 _ _ eA6) TR.cls TR.nh lk_h) (SqT.of (s7 _ _ eth6)) (fun i σ H' => L2.Same H7 H' ∧ ∃ z5 l zs, σ = [some (.ref a), some (.ref va), some (.ref ua), some (.ref t), some (.ref l), z5] ∧ H' l = some (.lst zs) ∧ zs.length = (ps :: (ds.filterMap id).take i).flatten.length)
    ⟨Same.refl _, _, l0, zs0, rfl, el0, by rw [lz0]; simp⟩ (fun i σ H' z => SqT.of (z.1 _ _ (s7 _ _ eth6))) (fun i x σ H' hx z => g_name ?_) (fun σ H' z => ?_)
  · obtain ⟨s8, z5, l, zs, rfl, el, lz⟩ := z
    obtain ⟨r, hr, ti, tsi, rfl, eti, ati⟩ := ath6.get hx
    have hm := get_mem hr
    obtain ⟨r3, r100⟩ := fm_mem aU hm
    have sub : SzP m r.length r := szA.sub (by
      rw [← lfl, List.flatten_cons, List.length_append]
      have := (List.sublist_flatten_of_mem hm).length_le
      omega) fun p hp => List.mem_append_right _ (List.mem_flatten.mpr ⟨r, hm, hp⟩)
    have li := ati.len
    have sX := s7.trans s8
    have lz2 : (ps :: (ds.filterMap id).take (i + 1)).flatten.length = zs.length + r.length := by
      rw [lz, List.take_add_one, hr]
      simp
      omega
    have lle : (ps :: (ds.filterMap id).take (i + 1)).flatten.length ≤ 100 := by
      refine Nat.le_trans ?_ (Nat.le_trans (Nat.le_of_eq lfl) la)
      rw [List.flatten_cons, List.flatten_cons, List.length_append, List.length_append]
      have : ((ds.filterMap id).take (i + 1)).flatten.length ≤ (ds.filterMap id).flatten.length := by
        have e := congrArg (fun z : List (List RP) => z.flatten.length) (List.take_append_drop (i + 1) (ds.filterMap id))
        simp only [List.flatten_append, List.length_append] at e
        omega
      omega
    refine st_asgN (op_in ((val_var rfl) _ (c_call (va_cons (val_var rfl) (va_cons val_c va_nil)) ⟨ti, tsi, r, m, false, rfl, sX _ _ eti, ati.imp fun _ _ z => z.same sX, by omega, by omega, sub, fun l2 zs2 H9 s9 el2 lz3 => ⟨l, l2, zs, zs2, rfl, rfl, s9 _ _ el, el2, by omega, fun p hp => ?_⟩⟩)))
    exact ⟨s8.trans (s9.trans (Same.new' hp)), _, p, _, rfl, upd_same, by rw [List.length_append, lz2, lz3]⟩
  · obtain ⟨s8, z5, l, zs, rfl, el, lz⟩ := z
    refine st_fld (cb_in ((val_var rfl) _ ⟨l, zs, rfl, .inl ⟨SqL.of el, fun s hs => ?_⟩⟩))
    have s9 := Same.new' (o := .tup zs) hs
    have sX := s7.trans (s8.trans s9)
    have eA9 := sX _ _ eA6
    refine (val_var rfl) _ ⟨a, rmA mg, dx, _, rfl, eA9, TR.cls, TR.ns, by show 2 < 1000; decide, good okF _ (uA (s6'.trans sX) _) ⟨dx, t, th, s, tsh, zs, upd_same, ?_, at_neI eA9 (sX _ _ eth6), ath6.imp fun _ _ z => (TupP.same z sX).updI eA9, at_neI eA9 upd_same, ?_⟩⟩
    · exact ⟨t, ts, rfl, at_neI eA9 (sX _ _ eT6), al6.imp fun _ _ z => (z.same sX).updI eA9⟩
    · rw [lz, lthd, List.take_length]
end
end LW

namespace LW
open PySem PySem.Spec PyProof.Rows L2 GL
section
variable {P : Program} {w : World} {K : PySem.W.Frag} {mg : Str → Option Value} {base : Heap}
/-! ### a room asked -/
def areaM (ps : List RP) (hs : List (List RP)) : Rat := hs.foldl (fun x r => x - arR r) (arR ps)
def spRArea (mg : Str → Option Value) : Sp := fun vs H Q _ => ∃ (a : Addr) (ps : List RP) (hs : List (List RP)) (n : Nat), vs = [.ref a] ∧ RoomAt mg H a ps hs ∧ (∀ r ∈ ps :: hs, 2 ≤ r.length ∧ r.length ≤ 100 ∧ SzP n r.length r) ∧ (∀ k, Sm 1000 (areaM ps (hs.take k))) ∧ (∀ r ∈ hs, Sm 1000 (arR r)) ∧
  ∀ p H', L2.Same H H' → Lo H' p (areaM ps hs) → Q (.ref p) H'
def hasM (p : RP) (ps : List RP) (hs : List (List RP)) : Bool := decide (0 ≤ whG p (-1) (sidesR ps)) && !(hs.any fun r => decide (whG p (-1) (sidesR r) = 1))
def spRHas (mg : Str → Option Value) : Sp := fun vs H Q _ => ∃ (a : Addr) (v : V) (p : RP) (ps : List RP) (hs : List (List RP)) (n : Nat), vs = [.ref a, v] ∧ RoomAt mg H a ps hs ∧ PlR H v p ∧ (∀ r ∈ ps :: hs, 2 ≤ r.length) ∧ ([p] :: ps :: hs).flatten.length ≤ 100 ∧ hs.length ≤ 50 ∧ SzP n ([p] :: ps :: hs).flatten.length ([p] :: ps :: hs).flatten ∧
  ∀ H', L2.Same H H' → Q (.bl (hasM p ps hs)) H'
structure RoomM (K : PySem.W.Frag) (mg : Str → Option Value) : Prop where
  m_has : Me K (rmA mg) "has" "Room.has" sRoom_has ["self", "place"]
  m_area : Me K (rmA mg) "area" "Room.area" sRoom_area ["self"]
theorem lk_c {s h c : Addr} : (putF "sides" (V.ref s) (putF "holes" (.ref h) (putF "corners" (V.ref c) []))).lookup ("corners" : Str) = some (.ref c) := by
  rw [lookup_putF, if_neg (by decide +kernel), lookup_putF, if_neg (by decide +kernel), lookup_putF, if_pos rfl]
theorem lk_hs {s h c : Addr} : (putF "sides" (V.ref s) (putF "holes" (.ref h) (putF "corners" (V.ref c) []))).lookup ("holes" : Str) = some (.ref h) := by
  rw [lookup_putF, if_neg (by decide +kernel), lookup_putF, if_pos rfl]
theorem lk_s {s h c : Addr} : (putF "sides" (V.ref s) (putF "holes" (.ref h) (putF "corners" (V.ref c) []))).lookup ("sides" : Str) = some (.ref s) := by
  rw [lookup_putF, if_pos rfl]
theorem notv_in {te : TE} {σ : L2.St} {H : Hp} {Q : VK} (h : te σ H fun x H1 => ∃ c, x = .bl c ∧ Q (.bl (!c)) H1) : tNotV te σ H Q := h
theorem l_lcSl0 {te t1 : TE} {g : TG} {tu : TE} {vs : List Nat} {σ : L2.St} {H : Hp} {Q : VK} {a : Addr} {xs : List V} {lo : Int} (h : Val te σ H (.ref a)) (h1 : Val t1 σ H (.int lo)) (hx : SqL K H a xs)
    (q : ∀ p, H p = none → tLc (iList K (tC (.ref p))) g tYes tu vs σ (L2.upd H p (.lst (cutV xs (some lo) none))) Q) : tLc (iList K (tSl (rSlL K) te (tPart t1) tNoPart)) g tYes tu vs σ H Q := h _ (h1 _ ⟨lo, rfl, a, xs, rfl, hx, fun p hp => q p hp⟩)
theorem cut_two (x y : V) (ms : List V) : cutV (x :: y :: ms) (some 2) none = ms := by
  unfold cutV
  show ((x :: y :: ms).drop (HT.sIx (x :: y :: ms).length 0 (some ((2 : Nat) : Int)))).take ((x :: y :: ms).length - HT.sIx (x :: y :: ms).length 0 (some ((2 : Nat) : Int))) = ms
  rw [HT.sIx_nat, show min 2 (x :: y :: ms).length = 2 by simp]
  show ms.take _ = ms
  exact List.take_of_length_le (by simp)
theorem ok_Room_area (T : Txt K mg) (TR : RoomT K mg) (TM : RoomM K mg) : FnOk P w K mg base (L2.CX P w) 9 (mA K (rmA mg) "area") (fDat K (mA K (rmA mg) "area")) ["self"] (spRArea mg) := by
  have Garea_of := ok_area_of (P := P) (w := w) (base := base) T
  have Gminus := ok_minusR (P := P) (w := w) (base := base) T
  refine TM.m_area.F.okX scRoom_area (fun vs H Q E h => ?_) (fun cdv A outer s H vs Q E hr h => ?_)
  · obtain ⟨a, ps, hs, n, rfl, _⟩ := h
    rfl
  obtain ⟨a, ps, hs, n, rfl, ⟨dx, c, h, s', ts, zs, eA, ⟨_, cs, ec0, ec, hc2⟩, eh, ah, es, lz⟩, ok, sm, sh, k⟩ := h
  cases ec0
  refine ⟨_, (pss_cons (ps_set (i := 1) scRoom_area.nd rfl (Or.inl rfl) (pe_call Garea_of (hr.mono (by decide)) (by rfl) T.area_of.g T.area_of.F.kp T.area_of.b .nil passL (pa_cons (pe_fld (pv 0) (by rfl)) pa_nil)))
  (pss_cons (ps_for (passes_of rfl) rfl (pi_tup (pe_fld (pv 0) (by rfl))) (pg_name (i := 2) scRoom_area.nd rfl (Or.inl rfl))
  (pss_one (ps_set (i := 1) scRoom_area.nd rfl (Or.inl rfl) (pe_call Gminus (hr.mono (by decide)) (by rfl) T.minus.g T.minus.F.kp T.minus.b .nil passL (pa_cons (pv 1) (pa_cons (pe_call Garea_of (hr.mono (by decide)) (by rfl) T.area_of.g T.area_of.F.kp T.area_of.b .nil passL (pa_cons (pv 2) pa_nil)) pa_nil))))))
  (pss_one (ps_ret (pv 1))))), ?_⟩
  have hok := ok ps (List.mem_cons_self ..)
  have lc := hc2.len
  refine q_asg (c_call (va_cons (v_rfld (val_var rfl) eA TR.cls TR.nc lk_c) va_nil) ⟨c, cs, ps, n, rfl, ec, hc2, by omega, by omega, hok.2.2, fun p0 H1 s1 l1 => ?_⟩)
  have lth := ah.len
  refine q_forT (v_rfld (val_var rfl) (s1 _ _ eA) TR.cls TR.nh lk_hs) (SqT.of (s1 _ _ eh)) (fun i σ H' => L2.Same H1 H' ∧ ∃ z2 p, σ = [some (.ref a), some (.ref p), z2] ∧ Lo H' p (areaM ps (hs.take i)))
    ⟨Same.refl _, _, p0, rfl, l1⟩ (fun i σ H' z => SqT.of (z.1 _ _ (s1 _ _ eh))) (fun i x σ H' hx z => g_name ?_) (fun σ H' z => ?_)
  · obtain ⟨s2, z2, p, rfl, lo⟩ := z
    obtain ⟨r, hr, ti, tsi, rfl, eti, ati⟩ := ah.get hx
    obtain ⟨r2, r100, rz⟩ := ok r (List.mem_cons_of_mem _ (get_mem hr))
    have li := ati.len
    have sX := s1.trans s2
    have step : areaM ps (hs.take (i + 1)) = areaM ps (hs.take i) - arR r := by
      unfold areaM
      rw [List.take_add_one, hr, List.foldl_append]
      rfl
    refine st_asgN (call_two ((val_var rfl) _ (c_call (va_cons (val_var rfl) va_nil) ⟨ti, tsi, r, n, rfl, sX _ _ eti, ati.imp fun _ _ z => z.same sX, by omega, by omega, rz, fun p2 H3 s3 l3 => ⟨.ref p, .ref p2, areaM ps (hs.take i), arR r, rfl, (lo.same s3).rq (sm i) (by decide), l3.rq (sh r (get_mem hr)) (by decide), fun t H4 s4 l4 => ?_⟩⟩)))
    exact ⟨s2.trans (s3.trans s4), _, t, rfl, by rw [step]; exact l4⟩
  · obtain ⟨s2, z2, p, rfl, lo⟩ := z
    rw [lth, List.take_length] at lo
    exact r_ret ((val_var rfl) _ (k p _ (s1.trans s2) lo))
theorem ok_Room_has (T : Txt K mg) (TR : RoomT K mg) (TM : RoomM K mg) : FnOk P w K mg base (L2.CX P w) 9 (mA K (rmA mg) "has") (fDat K (mA K (rmA mg) "has")) ["self", "place"] (spRHas mg) := by
  have Gis_place := ok_is_place (P := P) (w := w) (base := base) T
  have Gplace_of := ok_place_of (P := P) (w := w) (base := base) T
  have Ggrid_of := ok_grid_of (P := P) (w := w) (base := base) T
  have Gwhere := ok_where (P := P) (w := w) (base := base) T
  have Gi_BadRow := init_BadRow (P := P) (w := w) (base := base) T
  refine TM.m_has.F.okX scRoom_has (fun vs H Q E h => ?_) (fun cdv A outer s H vs Q E hr h => ?_)
  · obtain ⟨a, v, p, ps, hs, n, rfl, _⟩ := h
    rfl
  obtain ⟨a, v, p, ps, hs, n, rfl, ⟨dx, c, h, s', ts, zs, eA, ⟨_, cs, ec0, ec, hc2⟩, eh, ah, es, lz⟩, pr, ok, l100, l50, sz, k⟩ := h
  cases ec0
  refine ⟨_, (pss_cons (ps_if (pt_not (pt_val (pe_c T.is_place Gis_place (hr.mono (by decide)) (pa_cons (pv 1) pa_nil)))) (pss_one (ps_raise rfl (takes_of rfl rfl rfl rfl) (pmk_oex T.BadRow.o T.BadRow.i T.BadRow.t Gi_BadRow (hr.mono (by decide)) T.BadRow.b .nil pass0 (by rfl) T.BadRow.g (pa_cons (pv 1) pa_nil)))) pss_nil)
  (pss_cons (ps_set (i := 2) scRoom_has.nd rfl (Or.inl rfl) (pe_c T.grid_of Ggrid_of (hr.mono (by decide)) (pa_cons (pe_lst (pa_cons (pe_lst (pa_cons (pe_call Gplace_of (hr.mono (by decide)) (by rfl) T.place_of.g T.place_of.F.kp T.place_of.b .nil passL (pa_cons (pv 1) pa_nil)) pa_nil)) (pa_cons (pe_fld (pv 0) (by rfl)) (StX.pa_star (pe_fld (pv 0) (by rfl)) pa_nil)))) pa_nil)))
  (pss_cons (ps_set (i := 3) scRoom_has.nd rfl (Or.inr rfl) (pe_ix ix_list (pe_ix ix_list (pv 2) pe_int (fun _ _ => rfl)) pe_int (fun _ _ => rfl)))
  (pss_one (ps_ret (pe_and (pe_cmpR op_ge (pe_c T.«where» Gwhere (hr.mono (by decide)) (pa_cons (pv 3) (pa_cons (pe_ix ix_list (pv 2) pe_int (fun _ _ => rfl)) pa_nil))) pe_int (nomark _)) (pe_one (pe_not (pe_callB (cr_any rfl) (by rfl) T.any (by decide +kernel) (pa_cons (pe_lc (own := [("row", 4)]) (g := gName 4) (tt := tYes) (by rfl) scRoom_has.nd (pi_list (pe_slice (show SlR _ (rSlL K) from sl_list) (pv 2) (po_some pe_int) po_none)) (blkOk_by (own := [("row", 4)]) (N := ["self", "place", "rows", "point", "row"]) (sc := defScope sRoom_has) (by decide +kernel)) (fun _ _ _ _ _ => pg_name (i := 4) scRoom_has.nd rfl (Or.inl rfl)) (fun _ _ _ _ _ => pts_nil) (fun _ _ _ _ _ => (pe_cmpR op_eq (pe_c T.«where» Gwhere (hr.mono (by decide)) (pa_cons (pv 3) (pa_cons (pv 4) pa_nil))) pe_int (nomark _)))) pa_nil)))))))))), ?_⟩
  refine q_ifNot (c_call (va_cons (val_var rfl) va_nil) ⟨v, true, rfl, pr.yes, fun H2 s2 => ⟨_, rfl, iteF ?_⟩⟩)
  have lth := ah.len
  have lcs := hc2.len
  have s50 : (100 : Nat) ≤ sizeLine := by decide
  refine q_asg (call_one (l_s (ta_lst1 (c_call (va_cons (val_var rfl) va_nil) ⟨v, p, rfl, pr.same s2, fun v' H3 s3 pl _ => ⟨by show 1 ≤ sizeLine; decide, fun f hf => ?_⟩⟩))))
  have s4 := Same.new' (o := .lst [v']) hf
  have sA := s2.trans (s3.trans s4)
  refine (v_rfld (val_var rfl) (sA _ _ eA) TR.cls TR.nc lk_c) _ (star_in ((v_rfld (val_var rfl) (sA _ _ eA) TR.cls TR.nh lk_hs) _ ⟨h, ts, rfl, .inl (SqT.of (sA _ _ eh)), ?_⟩))
  show (V.ref f :: V.ref c :: (ts ++ [])).length ≤ sizeLine ∧ _
  rw [List.append_nil]
  refine ⟨by simp; omega, fun R hRn => ?_⟩
  have s5 := Same.new' (o := .lst (V.ref f :: V.ref c :: ts)) hRn
  have sB := sA.trans s5
  refine ⟨R, _, [p] :: ps :: hs, n, rfl, upd_same, .cons ⟨f, [v'], rfl, .inl (SqL.of (s5 _ _ upd_same)), .cons (pl.same (s4.trans s5)) .nil⟩ (.cons ⟨c, cs, rfl, .inr (SqT.of (sB _ _ ec)), hc2.imp fun _ _ z => z.same sB⟩ (ah.imp fun _ _ ⟨t, xs, e1, e2, e3⟩ => ⟨t, xs, e1, .inr (SqT.of (sB _ _ e2)), e3.imp fun _ _ z => z.same sB⟩)), by simp; omega, l100, by have := sz.1; omega, sz.2, fun Dx Dy G gs H6 dx' dy' lx ly vx vy s6 eG aG => ?_⟩
  have bg := grid_bg sz lx ly
  have sub : ∀ r ∈ ([p] :: ps :: hs), ∀ q ∈ r, q ∈ ([p] :: ps :: hs).flatten := fun r hr q hq => List.mem_flatten.mpr ⟨r, hr, hq⟩
  have rl := fun r hr => rl_map (Dx := Dx) (Dy := Dy) (ps := r) (fun q hq => vx q (sub r hr q hq)) (fun q hq => vy q (sub r hr q hq))
  have bgr : ∀ r ∈ ([p] :: ps :: hs), ∀ q ∈ r.map (scp Dx Dy), Bg q := fun r hr q hq => by
    obtain ⟨q0, h0, rfl⟩ := List.mem_map.mp hq
    exact bg_of (bg _ (List.mem_map.mpr ⟨q0, sub r hr q0 h0, rfl⟩))
  have l100' : ∀ r ∈ ([p] :: ps :: hs), r.length ≤ 100 := fun r hr => Nat.le_trans (List.sublist_flatten_of_mem hr).length_le l100
  cases aG with
  | cons g0 a1 =>
    cases a1 with
    | cons g1 am =>
      obtain ⟨f0, t0, rfl, ef0, a0⟩ := g0
      obtain ⟨f1, t1, rfl, ef1, ag1⟩ := g1
      cases a0 with
      | cons gp nl =>
        cases nl
        have m0 : [p] ∈ ([p] :: ps :: hs) := List.mem_cons_self ..
        have m1 : ps ∈ ([p] :: ps :: hs) := List.mem_cons_of_mem _ (List.mem_cons_self ..)
        have bp : Bg (scp Dx Dy p) := bgr [p] m0 _ (List.mem_map.mpr ⟨p, List.mem_cons_self .., rfl⟩)
        have rp : Rl (Dx : Rat) (Dy : Rat) (scp Dx Dy p) p := by
          have z := rl [p] m0
          cases z with
          | cons z _ => exact z
        have ew : ∀ r ∈ ([p] :: ps :: hs), whG (scp Dx Dy p) (-1) (sidesR (r.map (scp Dx Dy))) = whG p (-1) (sidesR r) := fun r hr => rl_wh (cast_pos dx') (cast_pos dy') rp (rl_sides (rl r hr)) (-1)
        refine q_set (v_ixL (n := 0) (v_ixL (n := 0) (val_var rfl) val_c (SqL.of eG) rfl) val_c (SqL.of ef0) rfl) ?_
        refine r_ret (andv_in (op_in (c_call (va_cons (val_var rfl) (va_cons (v_ixL (n := 1) (val_var rfl) val_c (SqL.of eG) rfl) va_nil)) ⟨_, f1, scp Dx Dy p, ps.map (scp Dx Dy), rfl, gp, ⟨t1, ef1, grid_row ag1⟩, by rw [List.length_map]; exact ok ps (List.mem_cons_self ..), by rw [List.length_map]; have := l100' ps m1; omega, bp, bgr ps m1, fun H7 s7 => val_c _ ⟨_, _, rfl, rfl, _, rfl, ?_⟩⟩)))
        rw [ew ps m1]
        have sC := sB.trans (s6.trans s7)
        refine q_cases (fun c1 => ?_) (fun c1 => ?_)
        · refine notv_in (cb_in (l_lcSl0 (val_var rfl) val_c (SqL.of (s7 _ _ eG)) fun p2 hp2 => ?_))
          rw [cut_two]
          have u2 := fun ms => Same.new' (o := .lst ms) hp2
          refine l_lcL (R := fun i v _ => ∃ b, (hs.map fun r => decide (whG p (-1) (sidesR r) = 1))[i]? = some b ∧ v = V.bl b) (fun i v H1 H2 s h => h) (fun i v H D ys zs h hD => h) val_c (SqL.of upd_same) (by rw [am.len]; omega) (fun i x H8 hx s8 => ?_) (fun q ys H8 s8 e8 r8 => ?_)
          · obtain ⟨r, hr, fr, tr, rfl, efr, agr⟩ := am.get hx
            have mr : r ∈ ([p] :: ps :: hs) := List.mem_cons_of_mem _ (List.mem_cons_of_mem _ (get_mem hr))
            have sD := s7.trans ((u2 _).trans s8)
            refine turn_name rfl (fun Q2 q2 => op_in (c_call (va_cons (val_var rfl) (va_cons (val_var rfl) va_nil)) ⟨_, fr, scp Dx Dy p, r.map (scp Dx Dy), rfl, PtAt.same gp sD, RowAt.same ⟨tr, efr, grid_row agr⟩ sD, by rw [List.length_map]; exact ok r (List.mem_cons_of_mem _ (get_mem hr)), by rw [List.length_map]; have := l100' r mr; omega, bp, bgr r mr, fun H9 s9 => val_c _ ⟨rfl, q2 _ _ s9 ⟨_, ?_, rfl⟩⟩⟩))
            rw [ew r mr, List.getElem?_map, hr, dI]
            rfl
          · have ey := rows_map (f := V.bl) r8 (by rw [List.length_map, am.len])
            refine ⟨q, _, rfl, by rw [← ey]; exact SqL.of e8, _, rfl, ?_⟩
            have k2 := k H8 (sC.trans ((u2 _).trans s8))
            unfold hasM at k2
            rw [c1, Bool.true_and] at k2
            have ez : (hs.map fun r => decide (whG p (-1) (sidesR r) = 1)).any id = hs.any fun r => decide (whG p (-1) (sidesR r) = 1) := by rw [List.any_map]; rfl
            rw [ez]
            exact k2
        · have k2 := k H7 sC
          unfold hasM at k2
          rw [c1, Bool.false_and] at k2
          exact k2
end
end LW

namespace LW
open PySem PySem.Spec PyProof.Rows L2 GL
section
variable {P : Program} {w : World} {K : PySem.W.Frag} {mg : Str → Option Value} {base : Heap}
/-! ### data on the heap -/
mutual
/-- the data of a value, its lists, tuples, dicts on the heap -/
inductive Dh (H : Hp) : V → PyData → Prop
  | non : Dh H .non .none
  | bl (b : Bool) : Dh H (.bl b) (.bool b)
  | int (i : Int) : Dh H (.int i) (.int i)
  | str (x : Str) : Dh H (.str x) (.str x)
  | lst {a : Addr} {xs : List V} {ds : List PyData} : H a = some (.lst xs) → DhAll H xs ds → Dh H (.ref a) (.list ds)
  | tup {a : Addr} {xs : List V} {ds : List PyData} : H a = some (.tup xs) → DhAll H xs ds → Dh H (.ref a) (.tuple ds)
  | dic {a : Addr} {kvs : List (Key × V)} {ps : List (PyData × PyData)} : H a = some (.dK kvs) → DhKv H kvs ps → Dh H (.ref a) (.dict ps)
inductive DhAll (H : Hp) : List V → List PyData → Prop
  | nil : DhAll H [] []
  | cons {v : V} {vs : List V} {d : PyData} {ds : List PyData} : Dh H v d → DhAll H vs ds → DhAll H (v :: vs) (d :: ds)
inductive DhKv (H : Hp) : List (Key × V) → List (PyData × PyData) → Prop
  | nil : DhKv H [] []
  | cons {k : Key} {v : V} {r : List (Key × V)} {d : PyData} {ps : List (PyData × PyData)} : Dh H v d → DhKv H r ps → DhKv H ((k, v) :: r) ((keyD k, d) :: ps)
end
mutual
theorem Dh.same {H H' : Hp} (s : L2.Same H H') : ∀ (d : PyData) (v : V), Dh H v d → Dh H' v d
  | .none, _, h => by cases h; exact .non
  | .bool _, _, h => by cases h; exact .bl _
  | .int _, _, h => by cases h; exact .int _
  | .str _, _, h => by cases h; exact .str _
  | .list ds, _, h => by
    cases h with
    | lst a b => exact .lst (s _ _ a) (Dh.sameAll s ds _ b)
  | .tuple ds, _, h => by
    cases h with
    | tup a b => exact .tup (s _ _ a) (Dh.sameAll s ds _ b)
  | .dict ps, _, h => by
    cases h with
    | dic a b => exact .dic (s _ _ a) (Dh.sameKv s ps _ b)
theorem Dh.sameAll {H H' : Hp} (s : L2.Same H H') : ∀ (ds : List PyData) (vs : List V), DhAll H vs ds → DhAll H' vs ds
  | [], _, h => by cases h; exact .nil
  | d :: ds, _, h => by
    cases h with
    | cons h t => exact .cons (Dh.same s d _ h) (Dh.sameAll s ds _ t)
theorem Dh.sameKv {H H' : Hp} (s : L2.Same H H') : ∀ (ps : List (PyData × PyData)) (kvs : List (Key × V)), DhKv H kvs ps → DhKv H' kvs ps
  | [], _, h => by cases h; exact .nil
  | (_, d) :: ps, _, h => by
    cases h with
    | cons h t => exact .cons (Dh.same s d _ h) (Dh.sameKv s ps _ t)
end
mutual
theorem Dh.dd {H : Hp} : ∀ (d : PyData) (v : V), Dh H v d → Dd K H v d
  | .none, _, h => by cases h; exact .non
  | .bool _, _, h => by cases h; exact .bl _
  | .int _, _, h => by cases h; exact .int _
  | .str _, _, h => by cases h; exact .str _
  | .list ds, _, h => by
    cases h with
    | lst a b => exact .lst (SqL.of a) (Dh.ddAll ds _ b)
  | .tuple ds, _, h => by
    cases h with
    | tup a b => exact .tup (SqT.of a) (Dh.ddAll ds _ b)
  | .dict ps, _, h => by
    cases h with
    | dic a b => exact .dic a (Dh.ddKv ps _ b)
theorem Dh.ddAll {H : Hp} : ∀ (ds : List PyData) (vs : List V), DhAll H vs ds → DdAll K H vs ds
  | [], _, h => by cases h; exact .nil
  | d :: ds, _, h => by
    cases h with
    | cons h t => exact .cons (Dh.dd d _ h) (Dh.ddAll ds _ t)
theorem Dh.ddKv {H : Hp} : ∀ (ps : List (PyData × PyData)) (kvs : List (Key × V)), DhKv H kvs ps → DdKv K H kvs ps
  | [], _, h => by cases h; exact .nil
  | (_, d) :: ps, _, h => by
    cases h with
    | cons h t => exact .cons (Dh.dd d _ h) (Dh.ddKv ps _ t)
end
/-! ### data, made by terms -/
mutual
inductive Mkd : TE → PyData → Prop
  | non : Mkd (tC .non) .none
  | int (i : Int) : Mkd (tC (.int i)) (.int i)
  | neg (i : Int) : Mkd (tUn (rU fun i => .int (-i)) (tC (.int i))) (.int (-i))
  | str (x : Str) : Mkd (tC (.str x)) (.str x)
  | bl (b : Bool) : Mkd (tC (.bl b)) (.bool b)
  | lst {ta : TA} {ds : List PyData} : MkA ta ds → ds.length ≤ 1000 → Mkd (tLst ta) (.list ds)
  | tup {ta : TA} {ds : List PyData} : MkA ta ds → ds.length ≤ 1000 → Mkd (tTup ta) (.tuple ds)
  | dic (key : Key) (i : Int) : Mkd (tDisp [(tC (kV key), tC (.int i))]) (.dict [(keyD key, .int i)])
  | rep3 (b : Bool) : Mkd (tOp rRep (tLst (tCons (tC (.bl b)) tNil)) (tC (.int 3))) (.list [.bool b, .bool b, .bool b])
inductive MkA : TA → List PyData → Prop
  | nil : MkA tNil []
  | cons {te : TE} {ta : TA} {d : PyData} {ds : List PyData} : Mkd te d → MkA ta ds → MkA (tCons te ta) (d :: ds)
end
theorem dd_len {H : Hp} : ∀ {vs : List V} {ds : List PyData}, DhAll H vs ds → vs.length = ds.length
  | _, [], h => by cases h; rfl
  | _, d :: ds, h => by
    cases h with
    | cons _ t => rw [List.length_cons, List.length_cons, dd_len t]
theorem tt_s {ta : TA} {σ : L2.St} {H : Hp} {Q : VK} (h : ta σ H fun vs H1 => vs.length ≤ sizeLine ∧ ∀ q, H1 q = none → Q (.ref q) (L2.upd H1 q (.tup vs))) : tTup ta σ H Q := h
mutual
theorem em_mkd {te : TE} {d : PyData} (h : Mkd te d) (σ : L2.St) (H : Hp) : EM te σ H (fun v H' => Dh H' v d) := by
  cases h with
  | non => exact em_val val_c .non
  | int i => exact em_val val_c (.int i)
  | neg i => exact em_val (v_neg val_c) (.int _)
  | str x => exact em_val val_c (.str x)
  | bl b => exact em_val val_c (.bl b)
  | lst h hl =>
    intro Q q
    have hz : (1000 : Nat) ≤ sizeLine := by decide
    refine l_s (vm_mka h σ H _ fun vs H1 s1 a1 => ⟨by rw [dd_len a1]; omega, fun l hl0 => ?_⟩)
    have s2 := Same.new' (o := .lst vs) hl0
    exact q _ _ (s1.trans s2) (.lst upd_same (Dh.sameAll s2 _ _ a1))
  | tup h hl =>
    intro Q q
    have hz : (1000 : Nat) ≤ sizeLine := by decide
    refine tt_s (vm_mka h σ H _ fun vs H1 s1 a1 => ⟨by rw [dd_len a1]; omega, fun l hl0 => ?_⟩)
    have s2 := Same.new' (o := .tup vs) hl0
    exact q _ _ (s1.trans s2) (.tup upd_same (Dh.sameAll s2 _ _ a1))
  | dic key i => exact em_dic1 (fun _ => val_c) fun a H' e => .dic e (.cons (.int i) .nil)
  | rep3 b =>
    intro Q q
    have hz : (1000 : Nat) ≤ sizeLine := by decide
    refine op_in (l_lst (va_cons val_c va_nil) (by show 1 ≤ 100000; decide) fun l hl0 => val_c _ ⟨l, 3, [.bl b], rfl, rfl, upd_same, by decide, by decide, by show 3 ≤ sizeLine; omega, fun p hp => ?_⟩)
    exact q _ _ ((Same.new' hl0).trans (Same.new' hp)) (.lst upd_same (.cons (.bl b) (.cons (.bl b) (.cons (.bl b) .nil))))
theorem vm_mka {ta : TA} {ds : List PyData} (h : MkA ta ds) (σ : L2.St) (H : Hp) : VM ta σ H (fun vs H' => DhAll H' vs ds) := by
  cases h with
  | nil => exact fun Q q => q [] H (Same.refl H) .nil
  | cons h t =>
    exact fun Q q => em_mkd h σ H _ fun v H1 s1 d1 => vm_mka t σ H1 _ fun vs H2 s2 a2 => q (v :: vs) H2 (s1.trans s2) (.cons (Dh.same s2 _ _ d1) a2)
end
/-- a list of data -/
def LsD (H : Hp) (l : Addr) (ds : List PyData) : Prop := ∃ vs, H l = some (.lst vs) ∧ DhAll H vs ds
theorem em_lsd {ta : TA} {ds : List PyData} (h : MkA ta ds) (hl : ds.length ≤ 1000) (σ : L2.St) (H : Hp) : EM (tLst ta) σ H (fun v H' => ∃ l, v = .ref l ∧ LsD H' l ds) := by
  intro Q q
  have hz : (1000 : Nat) ≤ sizeLine := by decide
  refine l_s (vm_mka h σ H _ fun vs H1 s1 a1 => ⟨by rw [dd_len a1]; omega, fun l hl0 => ?_⟩)
  have s2 := Same.new' (o := .lst vs) hl0
  exact q _ _ (s1.trans s2) ⟨l, rfl, vs, upd_same, Dh.sameAll s2 _ _ a1⟩
theorem dd_app {H : Hp} : ∀ {vs us : List V} {ds es : List PyData}, DhAll H vs ds → DhAll H us es → DhAll H (vs ++ us) (ds ++ es)
  | _, _, [], _, h, k => by cases h; exact k
  | _, _, d :: ds, _, h, k => by
    cases h with
    | cons h t => exact .cons h (dd_app t k)
/-- xs + [..] -/
theorem em_catD {te : TE} {ta : TA} {σ : L2.St} {H : Hp} {l : Addr} {ds es : List PyData} (h : Val te σ H (.ref l)) (ld : LsD H l ds) (hd : ds.length ≤ 1000) (k : MkA ta es) (he : es.length ≤ 1000) : EM (tOp rCat te (tLst ta)) σ H (fun v H' => ∃ l, v = .ref l ∧ LsD H' l (ds ++ es)) := by
  intro Q q
  obtain ⟨vs, e, a⟩ := ld
  have hz : (2000 : Nat) ≤ sizeLine := by decide
  refine op_in (h _ (em_lsd k he σ H _ fun v H1 s1 ⟨l2, ev, us, e2, a2⟩ => ?_))
  subst ev
  refine ⟨l, l2, vs, us, rfl, rfl, s1 _ _ e, e2, by rw [dd_len a, dd_len a2]; omega, fun p hp => ?_⟩
  have s2 := Same.new' (o := .lst (vs ++ us)) hp
  exact q _ _ (s1.trans s2) ⟨p, rfl, _, upd_same, dd_app (Dh.sameAll (s1.trans s2) _ _ a) (Dh.sameAll s2 _ _ a2)⟩
def spData (ds : List PyData) : Sp := fun vs H Q _ => vs = [] ∧ ∀ l H', L2.Same H H' → LsD H' l ds → Q (.ref l) H'
def hoD0 : List PyData := [
  .list [.tuple [.int 3, .int 3], .tuple [.int 5, .int 3], .tuple [.int 7, .int 5]],
  .list [.tuple [.int 3, .int 3], .tuple [.int 5, .int 3], .tuple [.int 6, .int 5]],
  .list [.tuple [.int 8, .int 8], .tuple [.int 9, .int 8], .tuple [.int 8, .int 9]]]
def hoD1 : List PyData := [
  .list [.tuple [.int (-1), .int (-1)], .tuple [.int 9, .int (-1)], .tuple [.int 9, .int 9], .tuple [.int (-1), .int 9]],
  .list [.tuple [.int 0, .int 0], .tuple [.int 6, .int 0], .tuple [.int 6, .int 6], .tuple [.int 0, .int 6]]]
def hoD2 : List PyData := [
  .list [.tuple [.tuple [.int 5, .int 4], .tuple [.int 5, .int 4]], .tuple [.tuple [.int 7, .int 4], .tuple [.int 5, .int 4]], .tuple [.tuple [.int 5, .int 4], .tuple [.int 7, .int 4]]],
  .list [.tuple [.int 2, .int 2], .tuple [.int 3, .int 2], .tuple [.int 3, .int 3]]]
def hoD3 : List PyData := [
  .list [.tuple [.tuple [.int 1, .int 2], .tuple [.int 1, .int 2]], .tuple [.int 5, .tuple [.int 1, .int 2]], .tuple [.int 5, .int 5], .tuple [.tuple [.int 1, .int 2], .int 5]],
  .list [.tuple [.int 1, .int 1], .tuple [.int 2, .int 1], .tuple [.int 2, .int 2], .tuple [.int 1, .int 2]]]
def hoD4 : List PyData := [
  .list [.tuple [.tuple [.int 3, .int 2], .tuple [.int 3, .int 2]], .tuple [.int 5, .int 1], .tuple [.int 5, .int 5]],
  .list [.tuple [.int 3, .int 3], .tuple [.int 4, .int 4], .tuple [.int 5, .int 5]],
  .none,
  .tuple [.int 3, .int 4, .int 5],
  .list [.tuple [.int 3, .int 3], .tuple [.int 4, .int 3]]]
def hoD5 : List PyData := [
  .list [.tuple [.int 0, .int 3], .tuple [.int 3, .int 3], .tuple [.int 3, .int 4]],
  .list [.tuple [.int 6, .int 3], .tuple [.int 5, .int 3], .tuple [.int 5, .int 4]],
  .str "abc"]
def hoD : List PyData := (((((hoD0 ++ hoD1) ++ hoD2) ++ hoD3) ++ hoD4) ++ hoD5)
theorem ok_law_bad_holes (T : Txt K mg) : FnOk P w K mg base CX0 1 (fA mg "_law_bad_holes") (fDat K (fA mg "_law_bad_holes")) [] (spData hoD) := by
  refine T._law_bad_holes.F.ok sc_law_bad_holes (fun vs H Q E h => ?_) (fun cdv A outer s H vs Q E hr h => ?_)
  · obtain ⟨rfl, _⟩ := h
    rfl
  obtain ⟨rfl, k⟩ := h
  refine ⟨_, (pss_cons (ps_set (i := 0) sc_law_bad_holes.nd rfl (Or.inl rfl) (pe_lst (pa_cons (pe_lst (pa_cons (pe_tup (pa_cons pe_int (pa_cons pe_int pa_nil))) (pa_cons (pe_tup (pa_cons pe_int (pa_cons pe_int pa_nil))) (pa_cons (pe_tup (pa_cons pe_int (pa_cons pe_int pa_nil))) pa_nil)))) (pa_cons (pe_lst (pa_cons (pe_tup (pa_cons pe_int (pa_cons pe_int pa_nil))) (pa_cons (pe_tup (pa_cons pe_int (pa_cons pe_int pa_nil))) (pa_cons (pe_tup (pa_cons pe_int (pa_cons pe_int pa_nil))) pa_nil)))) (pa_cons (pe_lst (pa_cons (pe_tup (pa_cons pe_int (pa_cons pe_int pa_nil))) (pa_cons (pe_tup (pa_cons pe_int (pa_cons pe_int pa_nil))) (pa_cons (pe_tup (pa_cons pe_int (pa_cons pe_int pa_nil))) pa_nil)))) pa_nil)))))
  (pss_cons (ps_set (i := 0) sc_law_bad_holes.nd rfl (Or.inl rfl) (pe_op op_cat (pv 0) (pe_lst (pa_cons (pe_lst (pa_cons (pe_tup (pa_cons (pe_un un_neg pe_int) (pa_cons (pe_un un_neg pe_int) pa_nil))) (pa_cons (pe_tup (pa_cons pe_int (pa_cons (pe_un un_neg pe_int) pa_nil))) (pa_cons (pe_tup (pa_cons pe_int (pa_cons pe_int pa_nil))) (pa_cons (pe_tup (pa_cons (pe_un un_neg pe_int) (pa_cons pe_int pa_nil))) pa_nil))))) (pa_cons (pe_lst (pa_cons (pe_tup (pa_cons pe_int (pa_cons pe_int pa_nil))) (pa_cons (pe_tup (pa_cons pe_int (pa_cons pe_int pa_nil))) (pa_cons (pe_tup (pa_cons pe_int (pa_cons pe_int pa_nil))) (pa_cons (pe_tup (pa_cons pe_int (pa_cons pe_int pa_nil))) pa_nil))))) pa_nil)))))
  (pss_cons (ps_set (i := 0) sc_law_bad_holes.nd rfl (Or.inl rfl) (pe_op op_cat (pv 0) (pe_lst (pa_cons (pe_lst (pa_cons (pe_tup (pa_cons (pe_tup (pa_cons pe_int (pa_cons pe_int pa_nil))) (pa_cons (pe_tup (pa_cons pe_int (pa_cons pe_int pa_nil))) pa_nil))) (pa_cons (pe_tup (pa_cons (pe_tup (pa_cons pe_int (pa_cons pe_int pa_nil))) (pa_cons (pe_tup (pa_cons pe_int (pa_cons pe_int pa_nil))) pa_nil))) (pa_cons (pe_tup (pa_cons (pe_tup (pa_cons pe_int (pa_cons pe_int pa_nil))) (pa_cons (pe_tup (pa_cons pe_int (pa_cons pe_int pa_nil))) pa_nil))) pa_nil)))) (pa_cons (pe_lst (pa_cons (pe_tup (pa_cons pe_int (pa_cons pe_int pa_nil))) (pa_cons (pe_tup (pa_cons pe_int (pa_cons pe_int pa_nil))) (pa_cons (pe_tup (pa_cons pe_int (pa_cons pe_int pa_nil))) pa_nil)))) pa_nil)))))
  (pss_cons (ps_set (i := 0) sc_law_bad_holes.nd rfl (Or.inl rfl) (pe_op op_cat (pv 0) (pe_lst (pa_cons (pe_lst (pa_cons (pe_tup (pa_cons (pe_tup (pa_cons pe_int (pa_cons pe_int pa_nil))) (pa_cons (pe_tup (pa_cons pe_int (pa_cons pe_int pa_nil))) pa_nil))) (pa_cons (pe_tup (pa_cons pe_int (pa_cons (pe_tup (pa_cons pe_int (pa_cons pe_int pa_nil))) pa_nil))) (pa_cons (pe_tup (pa_cons pe_int (pa_cons pe_int pa_nil))) (pa_cons (pe_tup (pa_cons (pe_tup (pa_cons pe_int (pa_cons pe_int pa_nil))) (pa_cons pe_int pa_nil))) pa_nil))))) (pa_cons (pe_lst (pa_cons (pe_tup (pa_cons pe_int (pa_cons pe_int pa_nil))) (pa_cons (pe_tup (pa_cons pe_int (pa_cons pe_int pa_nil))) (pa_cons (pe_tup (pa_cons pe_int (pa_cons pe_int pa_nil))) (pa_cons (pe_tup (pa_cons pe_int (pa_cons pe_int pa_nil))) pa_nil))))) pa_nil)))))
  (pss_cons (ps_set (i := 0) sc_law_bad_holes.nd rfl (Or.inl rfl) (pe_op op_cat (pv 0) (pe_lst (pa_cons (pe_lst (pa_cons (pe_tup (pa_cons (pe_tup (pa_cons pe_int (pa_cons pe_int pa_nil))) (pa_cons (pe_tup (pa_cons pe_int (pa_cons pe_int pa_nil))) pa_nil))) (pa_cons (pe_tup (pa_cons pe_int (pa_cons pe_int pa_nil))) (pa_cons (pe_tup (pa_cons pe_int (pa_cons pe_int pa_nil))) pa_nil)))) (pa_cons (pe_lst (pa_cons (pe_tup (pa_cons pe_int (pa_cons pe_int pa_nil))) (pa_cons (pe_tup (pa_cons pe_int (pa_cons pe_int pa_nil))) (pa_cons (pe_tup (pa_cons pe_int (pa_cons pe_int pa_nil))) pa_nil)))) (pa_cons pe_non (pa_cons (pe_tup (pa_cons pe_int (pa_cons pe_int (pa_cons pe_int pa_nil)))) (pa_cons (pe_lst (pa_cons (pe_tup (pa_cons pe_int (pa_cons pe_int pa_nil))) (pa_cons (pe_tup (pa_cons pe_int (pa_cons pe_int pa_nil))) pa_nil))) pa_nil))))))))
  (pss_one (ps_ret (pe_op op_cat (pv 0) (pe_lst (pa_cons (pe_lst (pa_cons (pe_tup (pa_cons pe_int (pa_cons pe_int pa_nil))) (pa_cons (pe_tup (pa_cons pe_int (pa_cons pe_int pa_nil))) (pa_cons (pe_tup (pa_cons pe_int (pa_cons pe_int pa_nil))) pa_nil)))) (pa_cons (pe_lst (pa_cons (pe_tup (pa_cons pe_int (pa_cons pe_int pa_nil))) (pa_cons (pe_tup (pa_cons pe_int (pa_cons pe_int pa_nil))) (pa_cons (pe_tup (pa_cons pe_int (pa_cons pe_int pa_nil))) pa_nil)))) (pa_cons pe_str pa_nil)))))))))))), ?_⟩
  refine q_asg (em_lsd (ds := hoD0) (by repeat (first | exact MkA.nil | refine MkA.cons ?_ ?_ | exact Mkd.non | exact Mkd.int _ | exact Mkd.neg _ | exact Mkd.str _ | exact Mkd.bl _ | exact Mkd.dic (.inl _) _ | exact Mkd.rep3 _ | refine Mkd.lst ?_ (by decide) | refine Mkd.tup ?_ (by decide))) (by decide) _ H _ fun v0 H0 s0 ⟨l0, e0, d0⟩ => ?_)
  subst e0
  refine q_asg (em_catD (ds := hoD0) (es := hoD1) (val_var rfl) d0 (by decide) (by repeat (first | exact MkA.nil | refine MkA.cons ?_ ?_ | exact Mkd.non | exact Mkd.int _ | exact Mkd.neg _ | exact Mkd.str _ | exact Mkd.bl _ | exact Mkd.dic (.inl _) _ | exact Mkd.rep3 _ | refine Mkd.lst ?_ (by decide) | refine Mkd.tup ?_ (by decide))) (by decide) _ fun v1 H1 s1 ⟨l1, e1, d1⟩ => ?_)
  subst e1
  refine q_asg (em_catD (ds := (hoD0 ++ hoD1)) (es := hoD2) (val_var rfl) d1 (by decide) (by repeat (first | exact MkA.nil | refine MkA.cons ?_ ?_ | exact Mkd.non | exact Mkd.int _ | exact Mkd.neg _ | exact Mkd.str _ | exact Mkd.bl _ | exact Mkd.dic (.inl _) _ | exact Mkd.rep3 _ | refine Mkd.lst ?_ (by decide) | refine Mkd.tup ?_ (by decide))) (by decide) _ fun v2 H2 s2 ⟨l2, e2, d2⟩ => ?_)
  subst e2
  refine q_asg (em_catD (ds := ((hoD0 ++ hoD1) ++ hoD2)) (es := hoD3) (val_var rfl) d2 (by decide) (by repeat (first | exact MkA.nil | refine MkA.cons ?_ ?_ | exact Mkd.non | exact Mkd.int _ | exact Mkd.neg _ | exact Mkd.str _ | exact Mkd.bl _ | exact Mkd.dic (.inl _) _ | exact Mkd.rep3 _ | refine Mkd.lst ?_ (by decide) | refine Mkd.tup ?_ (by decide))) (by decide) _ fun v3 H3 s3 ⟨l3, e3, d3⟩ => ?_)
  subst e3
  refine q_asg (em_catD (ds := (((hoD0 ++ hoD1) ++ hoD2) ++ hoD3)) (es := hoD4) (val_var rfl) d3 (by decide) (by repeat (first | exact MkA.nil | refine MkA.cons ?_ ?_ | exact Mkd.non | exact Mkd.int _ | exact Mkd.neg _ | exact Mkd.str _ | exact Mkd.bl _ | exact Mkd.dic (.inl _) _ | exact Mkd.rep3 _ | refine Mkd.lst ?_ (by decide) | refine Mkd.tup ?_ (by decide))) (by decide) _ fun v4 H4 s4 ⟨l4, e4, d4⟩ => ?_)
  subst e4
  refine r_ret (em_catD (ds := ((((hoD0 ++ hoD1) ++ hoD2) ++ hoD3) ++ hoD4)) (es := hoD5) (val_var rfl) d4 (by decide) (by repeat (first | exact MkA.nil | refine MkA.cons ?_ ?_ | exact Mkd.non | exact Mkd.int _ | exact Mkd.neg _ | exact Mkd.str _ | exact Mkd.bl _ | exact Mkd.dic (.inl _) _ | exact Mkd.rep3 _ | refine Mkd.lst ?_ (by decide) | refine Mkd.tup ?_ (by decide))) (by decide) _ fun v H' s ⟨l, e, d⟩ => ?_)
  subst e
  exact k l H' (((((s0.trans s1).trans s2).trans s3).trans s4).trans s) d
def roD0 : List PyData := [
  .list [.tuple [.int 0, .int 0], .tuple [.int 1, .int 0], .tuple [.int 2, .int 0], .tuple [.int 0, .int 1]],
  .list [.tuple [.int 1, .int 0], .tuple [.int 2, .int 0], .tuple [.int 0, .int 1], .tuple [.int 0, .int 0]],
  .list [.tuple [.int 0, .int 0], .tuple [.int 0, .int 0], .tuple [.int 1, .int 0], .tuple [.int 0, .int 1]]]
def roD1 : List PyData := [
  .list [.tuple [.int 0, .int 0], .tuple [.int 2, .int 2], .tuple [.int 2, .int 0], .tuple [.int 0, .int 2]],
  .list [.tuple [.int 0, .int 0], .tuple [.int 4, .int 0], .tuple [.int 4, .int 4], .tuple [.int 2, .int 0], .tuple [.int 0, .int 4]],
  .list [.tuple [.int 0, .int 0], .tuple [.int 1, .int 1]]]
def roD2 : List PyData := [
  .list [.tuple [.int 0, .int 0], .tuple [.int 3, .int 0], .tuple [.int 3, .int 3], .tuple [.int 1, .int 0], .tuple [.int 0, .int 3]],
  .list [.tuple [.int 0, .int 0], .tuple [.int 2, .int 0], .tuple [.int 0, .int 0], .tuple [.int 0, .int 2]],
  .tuple [],
  .none,
  .int 7,
  .str "abc"]
def roD3 : List PyData := [
  .list [.tuple [.int 0, .int 0], .tuple [.int 1, .int 0], .none],
  .list [.tuple [.int 0, .int 0], .tuple [.int 1, .int 0], .tuple [.int 0, .str "1"]],
  .list [.tuple [.int 0, .int 0], .tuple [.int 1, .int 0], .tuple [.int 0, .int 1, .int 2]],
  .list [.tuple [.int 0, .int 0], .tuple [.int 1, .int 0]]]
def roD4 : List PyData := [
  .list [.tuple [.int 0, .int 0], .tuple [.int 4, .int 0], .tuple [.int 4, .int 4], .tuple [.int 0, .int 4], .tuple [.int 2, .int 2], .tuple [.int 0, .int 0]],
  .list [.tuple [.int 0, .int 0], .tuple [.int 2, .int 1], .tuple [.int 1, .tuple [.int 1, .int 2]], .tuple [.int 0, .int 3]]]
def roD5 : List PyData := [
  .list [.tuple [.int 0, .int 0], .tuple [.int 4, .int 0], .tuple [.int 2, .int 2], .tuple [.int 4, .int 4], .tuple [.int 0, .int 4], .tuple [.int 2, .int 2]],
  .list [.tuple [.int 0, .int 0], .tuple [.int 1, .int 0], .tuple [.int 0, .tuple [.int 1, .int 0]]],
  .dict [(.int 0, .int 1)],
  .list [.bool true, .bool true, .bool true]]
def roD : List PyData := (((((roD0 ++ roD1) ++ roD2) ++ roD3) ++ roD4) ++ roD5)
theorem ok_law_bad_rows (T : Txt K mg) : FnOk P w K mg base CX0 1 (fA mg "_law_bad_rows") (fDat K (fA mg "_law_bad_rows")) [] (spData roD) := by
  refine T._law_bad_rows.F.ok sc_law_bad_rows (fun vs H Q E h => ?_) (fun cdv A outer s H vs Q E hr h => ?_)
  · obtain ⟨rfl, _⟩ := h
    rfl
  obtain ⟨rfl, k⟩ := h
  refine ⟨_, (pss_cons (ps_set (i := 0) sc_law_bad_rows.nd rfl (Or.inl rfl) (pe_lst (pa_cons (pe_lst (pa_cons (pe_tup (pa_cons pe_int (pa_cons pe_int pa_nil))) (pa_cons (pe_tup (pa_cons pe_int (pa_cons pe_int pa_nil))) (pa_cons (pe_tup (pa_cons pe_int (pa_cons pe_int pa_nil))) (pa_cons (pe_tup (pa_cons pe_int (pa_cons pe_int pa_nil))) pa_nil))))) (pa_cons (pe_lst (pa_cons (pe_tup (pa_cons pe_int (pa_cons pe_int pa_nil))) (pa_cons (pe_tup (pa_cons pe_int (pa_cons pe_int pa_nil))) (pa_cons (pe_tup (pa_cons pe_int (pa_cons pe_int pa_nil))) (pa_cons (pe_tup (pa_cons pe_int (pa_cons pe_int pa_nil))) pa_nil))))) (pa_cons (pe_lst (pa_cons (pe_tup (pa_cons pe_int (pa_cons pe_int pa_nil))) (pa_cons (pe_tup (pa_cons pe_int (pa_cons pe_int pa_nil))) (pa_cons (pe_tup (pa_cons pe_int (pa_cons pe_int pa_nil))) (pa_cons (pe_tup (pa_cons pe_int (pa_cons pe_int pa_nil))) pa_nil))))) pa_nil)))))
  (pss_cons (ps_set (i := 0) sc_law_bad_rows.nd rfl (Or.inl rfl) (pe_op op_cat (pv 0) (pe_lst (pa_cons (pe_lst (pa_cons (pe_tup (pa_cons pe_int (pa_cons pe_int pa_nil))) (pa_cons (pe_tup (pa_cons pe_int (pa_cons pe_int pa_nil))) (pa_cons (pe_tup (pa_cons pe_int (pa_cons pe_int pa_nil))) (pa_cons (pe_tup (pa_cons pe_int (pa_cons pe_int pa_nil))) pa_nil))))) (pa_cons (pe_lst (pa_cons (pe_tup (pa_cons pe_int (pa_cons pe_int pa_nil))) (pa_cons (pe_tup (pa_cons pe_int (pa_cons pe_int pa_nil))) (pa_cons (pe_tup (pa_cons pe_int (pa_cons pe_int pa_nil))) (pa_cons (pe_tup (pa_cons pe_int (pa_cons pe_int pa_nil))) (pa_cons (pe_tup (pa_cons pe_int (pa_cons pe_int pa_nil))) pa_nil)))))) (pa_cons (pe_lst (pa_cons (pe_tup (pa_cons pe_int (pa_cons pe_int pa_nil))) (pa_cons (pe_tup (pa_cons pe_int (pa_cons pe_int pa_nil))) pa_nil))) pa_nil))))))
  (pss_cons (ps_set (i := 0) sc_law_bad_rows.nd rfl (Or.inl rfl) (pe_op op_cat (pv 0) (pe_lst (pa_cons (pe_lst (pa_cons (pe_tup (pa_cons pe_int (pa_cons pe_int pa_nil))) (pa_cons (pe_tup (pa_cons pe_int (pa_cons pe_int pa_nil))) (pa_cons (pe_tup (pa_cons pe_int (pa_cons pe_int pa_nil))) (pa_cons (pe_tup (pa_cons pe_int (pa_cons pe_int pa_nil))) (pa_cons (pe_tup (pa_cons pe_int (pa_cons pe_int pa_nil))) pa_nil)))))) (pa_cons (pe_lst (pa_cons (pe_tup (pa_cons pe_int (pa_cons pe_int pa_nil))) (pa_cons (pe_tup (pa_cons pe_int (pa_cons pe_int pa_nil))) (pa_cons (pe_tup (pa_cons pe_int (pa_cons pe_int pa_nil))) (pa_cons (pe_tup (pa_cons pe_int (pa_cons pe_int pa_nil))) pa_nil))))) (pa_cons (pe_tup pa_nil) (pa_cons pe_non (pa_cons pe_int (pa_cons pe_str pa_nil)))))))))
  (pss_cons (ps_set (i := 0) sc_law_bad_rows.nd rfl (Or.inl rfl) (pe_op op_cat (pv 0) (pe_lst (pa_cons (pe_lst (pa_cons (pe_tup (pa_cons pe_int (pa_cons pe_int pa_nil))) (pa_cons (pe_tup (pa_cons pe_int (pa_cons pe_int pa_nil))) (pa_cons pe_non pa_nil)))) (pa_cons (pe_lst (pa_cons (pe_tup (pa_cons pe_int (pa_cons pe_int pa_nil))) (pa_cons (pe_tup (pa_cons pe_int (pa_cons pe_int pa_nil))) (pa_cons (pe_tup (pa_cons pe_int (pa_cons pe_str pa_nil))) pa_nil)))) (pa_cons (pe_lst (pa_cons (pe_tup (pa_cons pe_int (pa_cons pe_int pa_nil))) (pa_cons (pe_tup (pa_cons pe_int (pa_cons pe_int pa_nil))) (pa_cons (pe_tup (pa_cons pe_int (pa_cons pe_int (pa_cons pe_int pa_nil)))) pa_nil)))) (pa_cons (pe_lst (pa_cons (pe_tup (pa_cons pe_int (pa_cons pe_int pa_nil))) (pa_cons (pe_tup (pa_cons pe_int (pa_cons pe_int pa_nil))) pa_nil))) pa_nil)))))))
  (pss_cons (ps_set (i := 0) sc_law_bad_rows.nd rfl (Or.inl rfl) (pe_op op_cat (pv 0) (pe_lst (pa_cons (pe_lst (pa_cons (pe_tup (pa_cons pe_int (pa_cons pe_int pa_nil))) (pa_cons (pe_tup (pa_cons pe_int (pa_cons pe_int pa_nil))) (pa_cons (pe_tup (pa_cons pe_int (pa_cons pe_int pa_nil))) (pa_cons (pe_tup (pa_cons pe_int (pa_cons pe_int pa_nil))) (pa_cons (pe_tup (pa_cons pe_int (pa_cons pe_int pa_nil))) (pa_cons (pe_tup (pa_cons pe_int (pa_cons pe_int pa_nil))) pa_nil))))))) (pa_cons (pe_lst (pa_cons (pe_tup (pa_cons pe_int (pa_cons pe_int pa_nil))) (pa_cons (pe_tup (pa_cons pe_int (pa_cons pe_int pa_nil))) (pa_cons (pe_tup (pa_cons pe_int (pa_cons (pe_tup (pa_cons pe_int (pa_cons pe_int pa_nil))) pa_nil))) (pa_cons (pe_tup (pa_cons pe_int (pa_cons pe_int pa_nil))) pa_nil))))) pa_nil)))))
  (pss_one (ps_ret (pe_op op_cat (pv 0) (pe_lst (pa_cons (pe_lst (pa_cons (pe_tup (pa_cons pe_int (pa_cons pe_int pa_nil))) (pa_cons (pe_tup (pa_cons pe_int (pa_cons pe_int pa_nil))) (pa_cons (pe_tup (pa_cons pe_int (pa_cons pe_int pa_nil))) (pa_cons (pe_tup (pa_cons pe_int (pa_cons pe_int pa_nil))) (pa_cons (pe_tup (pa_cons pe_int (pa_cons pe_int pa_nil))) (pa_cons (pe_tup (pa_cons pe_int (pa_cons pe_int pa_nil))) pa_nil))))))) (pa_cons (pe_lst (pa_cons (pe_tup (pa_cons pe_int (pa_cons pe_int pa_nil))) (pa_cons (pe_tup (pa_cons pe_int (pa_cons pe_int pa_nil))) (pa_cons (pe_tup (pa_cons pe_int (pa_cons (pe_tup (pa_cons pe_int (pa_cons pe_int pa_nil))) pa_nil))) pa_nil)))) (pa_cons (pe_disp (pps_cons pe_int pe_int pps_nil) (by rfl) (by rfl) (fun z => by cases z) (by decide)) (pa_cons (pe_op op_rep (pe_lst (pa_cons pe_bl pa_nil)) pe_int) pa_nil))))))))))))), ?_⟩
  refine q_asg (em_lsd (ds := roD0) (by repeat (first | exact MkA.nil | refine MkA.cons ?_ ?_ | exact Mkd.non | exact Mkd.int _ | exact Mkd.neg _ | exact Mkd.str _ | exact Mkd.bl _ | exact Mkd.dic (.inl _) _ | exact Mkd.rep3 _ | refine Mkd.lst ?_ (by decide) | refine Mkd.tup ?_ (by decide))) (by decide) _ H _ fun v0 H0 s0 ⟨l0, e0, d0⟩ => ?_)
  subst e0
  refine q_asg (em_catD (ds := roD0) (es := roD1) (val_var rfl) d0 (by decide) (by repeat (first | exact MkA.nil | refine MkA.cons ?_ ?_ | exact Mkd.non | exact Mkd.int _ | exact Mkd.neg _ | exact Mkd.str _ | exact Mkd.bl _ | exact Mkd.dic (.inl _) _ | exact Mkd.rep3 _ | refine Mkd.lst ?_ (by decide) | refine Mkd.tup ?_ (by decide))) (by decide) _ fun v1 H1 s1 ⟨l1, e1, d1⟩ => ?_)
  subst e1
  refine q_asg (em_catD (ds := (roD0 ++ roD1)) (es := roD2) (val_var rfl) d1 (by decide) (by repeat (first | exact MkA.nil | refine MkA.cons ?_ ?_ | exact Mkd.non | exact Mkd.int _ | exact Mkd.neg _ | exact Mkd.str _ | exact Mkd.bl _ | exact Mkd.dic (.inl _) _ | exact Mkd.rep3 _ | refine Mkd.lst ?_ (by decide) | refine Mkd.tup ?_ (by decide))) (by decide) _ fun v2 H2 s2 ⟨l2, e2, d2⟩ => ?_)
  subst e2
  refine q_asg (em_catD (ds := ((roD0 ++ roD1) ++ roD2)) (es := roD3) (val_var rfl) d2 (by decide) (by repeat (first | exact MkA.nil | refine MkA.cons ?_ ?_ | exact Mkd.non | exact Mkd.int _ | exact Mkd.neg _ | exact Mkd.str _ | exact Mkd.bl _ | exact Mkd.dic (.inl _) _ | exact Mkd.rep3 _ | refine Mkd.lst ?_ (by decide) | refine Mkd.tup ?_ (by decide))) (by decide) _ fun v3 H3 s3 ⟨l3, e3, d3⟩ => ?_)
  subst e3
  refine q_asg (em_catD (ds := (((roD0 ++ roD1) ++ roD2) ++ roD3)) (es := roD4) (val_var rfl) d3 (by decide) (by repeat (first | exact MkA.nil | refine MkA.cons ?_ ?_ | exact Mkd.non | exact Mkd.int _ | exact Mkd.neg _ | exact Mkd.str _ | exact Mkd.bl _ | exact Mkd.dic (.inl _) _ | exact Mkd.rep3 _ | refine Mkd.lst ?_ (by decide) | refine Mkd.tup ?_ (by decide))) (by decide) _ fun v4 H4 s4 ⟨l4, e4, d4⟩ => ?_)
  subst e4
  refine r_ret (em_catD (ds := ((((roD0 ++ roD1) ++ roD2) ++ roD3) ++ roD4)) (es := roD5) (val_var rfl) d4 (by decide) (by repeat (first | exact MkA.nil | refine MkA.cons ?_ ?_ | exact Mkd.non | exact Mkd.int _ | exact Mkd.neg _ | exact Mkd.str _ | exact Mkd.bl _ | exact Mkd.dic (.inl _) _ | exact Mkd.rep3 _ | refine Mkd.lst ?_ (by decide) | refine Mkd.tup ?_ (by decide))) (by decide) _ fun v H' s ⟨l, e, d⟩ => ?_)
  subst e
  exact k l H' (((((s0.trans s1).trans s2).trans s3).trans s4).trans s) d
end
end LW

namespace LW
open PySem PySem.Spec PyProof.Rows L2 GL
section
variable {P : Program} {w : World} {K : PySem.W.Frag} {mg : Str → Option Value} {base : Heap}
/-! ### data that is all new -/
theorem upd_comm {H : Hp} {l b : Addr} {u o : HO} (n : l ≠ b) (h : H l = none) : L2.Same (L2.upd H b o) (L2.upd (L2.upd H l u) b o) := fun c x e => by
  by_cases hb : c = b
  · subst hb
    rw [upd_same] at e ⊢
    exact e
  · rw [upd_ne hb] at e ⊢
    by_cases hl : c = l
    · subst hl
      rw [h] at e
      cases e
    · rw [upd_ne hl]
      exact e
mutual
theorem em_mkN {te : TE} {d : PyData} (h : Mkd te d) (σ : L2.St) (H : Hp) : EM te σ H (fun v H' => Dh H' v d ∧ ∀ b, H b ≠ none → ∀ o, Dh (L2.upd H' b o) v d) := by
  cases h with
  | non => exact em_val val_c ⟨.non, fun _ _ _ => .non⟩
  | int i => exact em_val val_c ⟨.int i, fun _ _ _ => .int i⟩
  | neg i => exact em_val (v_neg val_c) ⟨.int _, fun _ _ _ => .int _⟩
  | str x => exact em_val val_c ⟨.str x, fun _ _ _ => .str x⟩
  | bl b => exact em_val val_c ⟨.bl b, fun _ _ _ => .bl b⟩
  | lst h hl =>
    intro Q q
    have hz : (1000 : Nat) ≤ sizeLine := by decide
    refine l_s (vm_mkN h σ H _ fun vs H1 s1 a1 => ⟨by rw [dd_len a1.1]; omega, fun l hl0 => ?_⟩)
    have s2 := Same.new' (o := .lst vs) hl0
    refine q _ _ (s1.trans s2) ⟨.lst upd_same (Dh.sameAll s2 _ _ a1.1), fun b hb o => ?_⟩
    have n : l ≠ b := fun z => hb (by rw [← z]; exact s1.free hl0)
    exact .lst (by rw [upd_ne n]; exact upd_same) (Dh.sameAll (upd_comm n hl0) _ _ (a1.2 b hb o))
  | tup h hl =>
    intro Q q
    have hz : (1000 : Nat) ≤ sizeLine := by decide
    refine tt_s (vm_mkN h σ H _ fun vs H1 s1 a1 => ⟨by rw [dd_len a1.1]; omega, fun l hl0 => ?_⟩)
    have s2 := Same.new' (o := .tup vs) hl0
    refine q _ _ (s1.trans s2) ⟨.tup upd_same (Dh.sameAll s2 _ _ a1.1), fun b hb o => ?_⟩
    have n : l ≠ b := fun z => hb (by rw [← z]; exact s1.free hl0)
    exact .tup (by rw [upd_ne n]; exact upd_same) (Dh.sameAll (upd_comm n hl0) _ _ (a1.2 b hb o))
  | dic key i =>
    intro Q k a ha
    have e : mergeK [] [(key, V.int i)] = [(key, V.int i)] := rfl
    refine val_c _ ⟨upd_same, [(key, V.int i)], rfl, by show 1 ≤ 15; decide, ?_⟩
    rw [e, upd_upd]
    refine k _ _ (Same.new' ha) ⟨.dic upd_same (.cons (.int i) .nil), fun b hb o => ?_⟩
    have n : a ≠ b := fun z => hb (by rw [← z]; exact ha)
    exact .dic (by rw [upd_ne n]; exact upd_same) (.cons (.int i) .nil)
  | rep3 b =>
    intro Q q
    have hz : (1000 : Nat) ≤ sizeLine := by decide
    refine op_in (l_lst (va_cons val_c va_nil) (by show 1 ≤ 100000; decide) fun l hl0 => val_c _ ⟨l, 3, [.bl b], rfl, rfl, upd_same, by decide, by decide, by show 3 ≤ sizeLine; omega, fun p hp => ?_⟩)
    have s1 := Same.new' (o := .lst [.bl b]) hl0
    have a : DhAll (fun _ => none) [.bl b, .bl b, .bl b] [.bool b, .bool b, .bool b] := .cons (.bl b) (.cons (.bl b) (.cons (.bl b) .nil))
    refine q _ _ (s1.trans (Same.new' hp)) ⟨.lst upd_same (.cons (.bl b) (.cons (.bl b) (.cons (.bl b) .nil))), fun c hc o => ?_⟩
    have n : p ≠ c := fun z => hc (by rw [← z]; exact s1.free hp)
    exact .lst (by rw [upd_ne n]; exact upd_same) (.cons (.bl b) (.cons (.bl b) (.cons (.bl b) .nil)))
theorem vm_mkN {ta : TA} {ds : List PyData} (h : MkA ta ds) (σ : L2.St) (H : Hp) : VM ta σ H (fun vs H' => DhAll H' vs ds ∧ ∀ b, H b ≠ none → ∀ o, DhAll (L2.upd H' b o) vs ds) := by
  cases h with
  | nil => exact fun Q q => q [] H (Same.refl H) ⟨.nil, fun _ _ _ => .nil⟩
  | cons h t =>
    exact fun Q q => em_mkN h σ H _ fun v H1 s1 d1 => vm_mkN t σ H1 _ fun vs H2 s2 a2 => q (v :: vs) H2 (s1.trans s2) ⟨.cons (Dh.same s2 _ _ d1.1) a2.1, fun b hb o => by
      have hb1 : H1 b ≠ none := fun z => hb (s1.free z)
      refine .cons (Dh.same (fun c x e => ?_) _ _ (d1.2 b hb o)) (a2.2 b hb1 o)
      by_cases hc : c = b
      · subst hc
        rw [upd_same] at e ⊢
        exact e
      · rw [upd_ne hc] at e ⊢
        exact s2 _ _ e⟩
end
/-- xs + [..], its list not yet there -/
theorem em_catF {te : TE} {ta : TA} {σ : L2.St} {H : Hp} {l : Addr} {ds es : List PyData} (h : Val te σ H (.ref l)) (ld : LsD H l ds) (hd : ds.length ≤ 1000) (k : MkA ta es) (he : es.length ≤ 1000) : EM (tOp rCat te (tLst ta)) σ H (fun v H' => ∃ l vs Hb, v = .ref l ∧ L2.Same H Hb ∧ Hb l = none ∧ L2.Same Hb H' ∧ H' l = some (.lst vs) ∧ DhAll Hb vs (ds ++ es)) := by
  intro Q q
  obtain ⟨vs, e, a⟩ := ld
  have hz : (2000 : Nat) ≤ sizeLine := by decide
  refine op_in (h _ (em_lsd k he σ H _ fun v H1 s1 ⟨l2, ev, us, e2, a2⟩ => ?_))
  subst ev
  refine ⟨l, l2, vs, us, rfl, rfl, s1 _ _ e, e2, by rw [dd_len a, dd_len a2]; omega, fun p hp => ?_⟩
  have s2 := Same.new' (o := .lst (vs ++ us)) hp
  exact q _ _ (s1.trans s2) ⟨p, _, H1, rfl, s1, hp, s2, upd_same, dd_app (Dh.sameAll s1 _ _ a) a2⟩
theorem pe_c0 {X : Cx} {x : Str} {st : Stmt} {ps : List Str} {sp : Sp} {k : Nat} {p pos : Pos} (d : Df X.K X.mg x st ps) (G : FnOk X.prog X.w X.K X.mg X.base CX0 k (fA X.mg x) (fDat X.K (fA X.mg x)) ps sp) (hr : Room k X.A) (hg : Gl X x := by rfl) (hdb : (x == ("__debug__" : Str)) = false := by decide) : PE X (.Call (.Name x p) [] [] pos) (tCall sp [] E0 tNil) :=
  L2.pe_call0 G hr hg d.g d.F.kp d.b .nil pass0 hdb
theorem call_0 {sp : Sp} {E : XK} {σ : L2.St} {H : Hp} {Q : VK} (h : sp [] H Q E) : tCall sp [] E tNil σ H Q := h
def loA : List PyData := [.tuple [.int 0, .int 0], .tuple [.int 4, .int 0], .tuple [.int 6, .int 2], .tuple [.int 5, .int 5], .tuple [.int 2, .int 5], .tuple [.int 2, .int 3], .tuple [.int 1, .int (-1)]]
def loB : List PyData := [.tuple [.int 0, .int 0], .tuple [.int 4, .int 0], .tuple [.int 6, .int 2], .tuple [.int 6, .int 3], .tuple [.int 5, .int 5], .tuple [.int 2, .int 5], .tuple [.int 2, .int 3], .tuple [.int 1, .int (-1)]]
def loD : List PyData := [.list loA, .list loB]
theorem ok_law_long_rows (T : Txt K mg) : FnOk P w K mg base CX0 1 (fA mg "_law_long_rows") (fDat K (fA mg "_law_long_rows")) [] (spData loD) := by
  refine T._law_long_rows.F.ok sc_law_long_rows (fun vs H Q E h => ?_) (fun cdv A outer s H vs Q E hr h => ?_)
  · obtain ⟨rfl, _⟩ := h
    rfl
  obtain ⟨rfl, k⟩ := h
  refine ⟨_, (pss_cons (ps_set (i := 0) sc_law_long_rows.nd rfl (Or.inl rfl) (pe_lst (pa_cons (pe_tup (pa_cons pe_int (pa_cons pe_int pa_nil))) (pa_cons (pe_tup (pa_cons pe_int (pa_cons pe_int pa_nil))) (pa_cons (pe_tup (pa_cons pe_int (pa_cons pe_int pa_nil))) (pa_cons (pe_tup (pa_cons pe_int (pa_cons pe_int pa_nil))) (pa_cons (pe_tup (pa_cons pe_int (pa_cons pe_int pa_nil))) (pa_cons (pe_tup (pa_cons pe_int (pa_cons pe_int pa_nil))) (pa_cons (pe_tup (pa_cons pe_int (pa_cons (pe_un un_neg pe_int) pa_nil))) pa_nil)))))))))
  (pss_one (ps_ret (pe_lst (pa_cons (pv 0) (pa_cons (pe_lst (pa_cons (pe_tup (pa_cons pe_int (pa_cons pe_int pa_nil))) (pa_cons (pe_tup (pa_cons pe_int (pa_cons pe_int pa_nil))) (pa_cons (pe_tup (pa_cons pe_int (pa_cons pe_int pa_nil))) (pa_cons (pe_tup (pa_cons pe_int (pa_cons pe_int pa_nil))) (pa_cons (pe_tup (pa_cons pe_int (pa_cons pe_int pa_nil))) (pa_cons (pe_tup (pa_cons pe_int (pa_cons pe_int pa_nil))) (pa_cons (pe_tup (pa_cons pe_int (pa_cons pe_int pa_nil))) (pa_cons (pe_tup (pa_cons pe_int (pa_cons (pe_un un_neg pe_int) pa_nil))) pa_nil))))))))) pa_nil)))))), ?_⟩
  refine q_asg (em_mkd (d := .list loA) (Mkd.lst (by repeat (first | exact MkA.nil | refine MkA.cons ?_ ?_ | exact Mkd.non | exact Mkd.int _ | exact Mkd.neg _ | exact Mkd.str _ | exact Mkd.bl _ | exact Mkd.dic (.inl _) _ | exact Mkd.rep3 _ | refine Mkd.lst ?_ (by decide) | refine Mkd.tup ?_ (by decide))) (by decide)) _ H _ fun v0 H0 s0 d0 => ?_)
  refine r_ret (l_s ((val_var rfl) _ (em_mkd (d := .list loB) (Mkd.lst (by repeat (first | exact MkA.nil | refine MkA.cons ?_ ?_ | exact Mkd.non | exact Mkd.int _ | exact Mkd.neg _ | exact Mkd.str _ | exact Mkd.bl _ | exact Mkd.dic (.inl _) _ | exact Mkd.rep3 _ | refine Mkd.lst ?_ (by decide) | refine Mkd.tup ?_ (by decide))) (by decide)) _ H0 _ fun v1 H1 s1 d1 => ⟨by show 2 ≤ sizeLine; decide, fun q hq => ?_⟩)))
  have s2 := Same.new' (o := .lst [v0, v1]) hq
  exact k q _ (s0.trans (s1.trans s2)) ⟨_, upd_same, .cons (Dh.same (s1.trans s2) _ _ d0) (.cons (Dh.same s2 _ _ d1) .nil)⟩
def cr0 : List PyData := [.list [.tuple [.int 0, .int 0], .tuple [.int 2, .int 2], .tuple [.int 2, .int 0], .tuple [.int 0, .int 2]], .list [.tuple [.int 0, .int 0], .tuple [.int 4, .int 0], .tuple [.int 4, .int 4], .tuple [.int 2, .int 0], .tuple [.int 0, .int 4]]]
def cr1 : List PyData := [.list [.tuple [.int 0, .int 0], .tuple [.int 3, .int 0], .tuple [.int 3, .int 3], .tuple [.int 1, .int 0], .tuple [.int 0, .int 3]], .list [.tuple [.int 0, .int 0], .tuple [.int 4, .int 0], .tuple [.int 2, .int 2], .tuple [.int 4, .int 4], .tuple [.int 0, .int 4], .tuple [.int 2, .int 2]]]
def crA : List PyData := [.tuple [.int 0, .int 0], .tuple [.int 5, .int 0], .tuple [.int 1, .int 2], .tuple [.int 1, .int (-1)], .tuple [.int 5, .int 3], .tuple [.int 0, .int 3]]
def cr3 : List PyData := [.list [.tuple [.int 0, .int 0], .tuple [.int 4, .int 0], .tuple [.int 4, .int 4], .tuple [.int 1, .int 1], .tuple [.int 0, .int 3], .tuple [.int 2, .int (-1)]]]
def crD : List PyData := (((cr0 ++ cr1) ++ [.list crA]) ++ cr3) ++ loD
theorem ok_law_crossed_rows (T : Txt K mg) : FnOk P w K mg base CX0 2 (fA mg "_law_crossed_rows") (fDat K (fA mg "_law_crossed_rows")) [] (spData crD) := by
  have G_law_long_rows := ok_law_long_rows (P := P) (w := w) (base := base) T
  refine T._law_crossed_rows.F.ok sc_law_crossed_rows (fun vs H Q E h => ?_) (fun cdv A outer s H vs Q E hr h => ?_)
  · obtain ⟨rfl, _⟩ := h
    rfl
  obtain ⟨rfl, k⟩ := h
  refine ⟨_, (pss_cons (ps_set (i := 0) sc_law_crossed_rows.nd rfl (Or.inl rfl) (pe_lst (pa_cons (pe_lst (pa_cons (pe_tup (pa_cons pe_int (pa_cons pe_int pa_nil))) (pa_cons (pe_tup (pa_cons pe_int (pa_cons pe_int pa_nil))) (pa_cons (pe_tup (pa_cons pe_int (pa_cons pe_int pa_nil))) (pa_cons (pe_tup (pa_cons pe_int (pa_cons pe_int pa_nil))) pa_nil))))) (pa_cons (pe_lst (pa_cons (pe_tup (pa_cons pe_int (pa_cons pe_int pa_nil))) (pa_cons (pe_tup (pa_cons pe_int (pa_cons pe_int pa_nil))) (pa_cons (pe_tup (pa_cons pe_int (pa_cons pe_int pa_nil))) (pa_cons (pe_tup (pa_cons pe_int (pa_cons pe_int pa_nil))) (pa_cons (pe_tup (pa_cons pe_int (pa_cons pe_int pa_nil))) pa_nil)))))) pa_nil))))
  (pss_cons (ps_set (i := 0) sc_law_crossed_rows.nd rfl (Or.inl rfl) (pe_op op_cat (pv 0) (pe_lst (pa_cons (pe_lst (pa_cons (pe_tup (pa_cons pe_int (pa_cons pe_int pa_nil))) (pa_cons (pe_tup (pa_cons pe_int (pa_cons pe_int pa_nil))) (pa_cons (pe_tup (pa_cons pe_int (pa_cons pe_int pa_nil))) (pa_cons (pe_tup (pa_cons pe_int (pa_cons pe_int pa_nil))) (pa_cons (pe_tup (pa_cons pe_int (pa_cons pe_int pa_nil))) pa_nil)))))) (pa_cons (pe_lst (pa_cons (pe_tup (pa_cons pe_int (pa_cons pe_int pa_nil))) (pa_cons (pe_tup (pa_cons pe_int (pa_cons pe_int pa_nil))) (pa_cons (pe_tup (pa_cons pe_int (pa_cons pe_int pa_nil))) (pa_cons (pe_tup (pa_cons pe_int (pa_cons pe_int pa_nil))) (pa_cons (pe_tup (pa_cons pe_int (pa_cons pe_int pa_nil))) (pa_cons (pe_tup (pa_cons pe_int (pa_cons pe_int pa_nil))) pa_nil))))))) pa_nil)))))
  (pss_cons (ps_expr (pe_bm PySem.F.plainAttrs_list PySem.F.slot_list_append PySem.F.type_list_append mt_append (pv 0) (pa_cons (pe_lst (pa_cons (pe_tup (pa_cons pe_int (pa_cons pe_int pa_nil))) (pa_cons (pe_tup (pa_cons pe_int (pa_cons pe_int pa_nil))) (pa_cons (pe_tup (pa_cons pe_int (pa_cons pe_int pa_nil))) (pa_cons (pe_tup (pa_cons pe_int (pa_cons (pe_un un_neg pe_int) pa_nil))) (pa_cons (pe_tup (pa_cons pe_int (pa_cons pe_int pa_nil))) (pa_cons (pe_tup (pa_cons pe_int (pa_cons pe_int pa_nil))) pa_nil))))))) pa_nil)))
  (pss_one (ps_ret (pe_op op_cat (pe_op op_cat (pv 0) (pe_lst (pa_cons (pe_lst (pa_cons (pe_tup (pa_cons pe_int (pa_cons pe_int pa_nil))) (pa_cons (pe_tup (pa_cons pe_int (pa_cons pe_int pa_nil))) (pa_cons (pe_tup (pa_cons pe_int (pa_cons pe_int pa_nil))) (pa_cons (pe_tup (pa_cons pe_int (pa_cons pe_int pa_nil))) (pa_cons (pe_tup (pa_cons pe_int (pa_cons pe_int pa_nil))) (pa_cons (pe_tup (pa_cons pe_int (pa_cons (pe_un un_neg pe_int) pa_nil))) pa_nil))))))) pa_nil))) (pe_c0 T._law_long_rows G_law_long_rows (hr.mono (by decide))))))))), ?_⟩
  refine q_asg (em_lsd (ds := cr0) (by repeat (first | exact MkA.nil | refine MkA.cons ?_ ?_ | exact Mkd.non | exact Mkd.int _ | exact Mkd.neg _ | exact Mkd.str _ | exact Mkd.bl _ | exact Mkd.dic (.inl _) _ | exact Mkd.rep3 _ | refine Mkd.lst ?_ (by decide) | refine Mkd.tup ?_ (by decide))) (by decide) _ H _ fun v0 H0 s0 ⟨l0, e0, d0⟩ => ?_)
  subst e0
  refine q_asg (em_catF (ds := cr0) (es := cr1) (val_var rfl) d0 (by decide) (by repeat (first | exact MkA.nil | refine MkA.cons ?_ ?_ | exact Mkd.non | exact Mkd.int _ | exact Mkd.neg _ | exact Mkd.str _ | exact Mkd.bl _ | exact Mkd.dic (.inl _) _ | exact Mkd.rep3 _ | refine Mkd.lst ?_ (by decide) | refine Mkd.tup ?_ (by decide))) (by decide) _ fun v1 H1 s1 ⟨l1, vs, Hb, e1, sb, nb, sb2, el, a1⟩ => ?_)
  subst e1
  have hz : (1000 : Nat) ≤ sizeLine := by decide
  have lv := dd_len a1
  refine q_app0 (val_var rfl) el (em_mkN (d := .list crA) (Mkd.lst (by repeat (first | exact MkA.nil | refine MkA.cons ?_ ?_ | exact Mkd.non | exact Mkd.int _ | exact Mkd.neg _ | exact Mkd.str _ | exact Mkd.bl _ | exact Mkd.dic (.inl _) _ | exact Mkd.rep3 _ | refine Mkd.lst ?_ (by decide) | refine Mkd.tup ?_ (by decide))) (by decide)) _ H1 _ fun v2 H2 s2 d2 => ⟨l1, vs, v2, rfl, rfl, s2 _ _ el, ?_, ?_⟩)
  · have : (cr0 ++ cr1).length ≤ 900 := by decide
    omega
  have new := d2.2 l1 (by rw [el]; simp) (.lst (vs ++ [v2]))
  have sb3 : L2.Same Hb (L2.upd H2 l1 (.lst (vs ++ [v2]))) := fun c x e => by
    rw [upd_ne (fun z => by rw [z, nb] at e; cases e)]
    exact s2 _ _ (sb2 _ _ e)
  have sH : L2.Same H (L2.upd H2 l1 (.lst (vs ++ [v2]))) := (s0.trans sb).trans sb3
  have ld : LsD (L2.upd H2 l1 (.lst (vs ++ [v2]))) l1 ((cr0 ++ cr1) ++ [.list crA]) := ⟨_, upd_same, dd_app (Dh.sameAll sb3 _ _ a1) (.cons new .nil)⟩
  refine r_ret (op_in (em_catD (ds := (cr0 ++ cr1) ++ [.list crA]) (es := cr3) (val_var rfl) ld (by decide) (by repeat (first | exact MkA.nil | refine MkA.cons ?_ ?_ | exact Mkd.non | exact Mkd.int _ | exact Mkd.neg _ | exact Mkd.str _ | exact Mkd.bl _ | exact Mkd.dic (.inl _) _ | exact Mkd.rep3 _ | refine Mkd.lst ?_ (by decide) | refine Mkd.tup ?_ (by decide))) (by decide) _ fun v3 H3 s3 ⟨l3, e3, vs3, el3, a3⟩ => ?_))
  subst e3
  refine call_0 ⟨rfl, fun l4 H4 s4 ⟨vs4, el4, a4⟩ => ⟨l3, l4, vs3, vs4, rfl, rfl, s4 _ _ el3, el4, ?_, fun p hp => ?_⟩⟩
  · have h1 := dd_len a3
    have h2 := dd_len a4
    have h3 : ((cr0 ++ cr1) ++ [PyData.list crA] ++ cr3).length ≤ 400 := by decide
    have h4 : loD.length ≤ 400 := by decide
    omega
  have s5 := Same.new' (o := .lst (vs3 ++ vs4)) hp
  exact k p _ (sH.trans (s3.trans (s4.trans s5))) ⟨_, upd_same, dd_app (Dh.sameAll (s4.trans s5) _ _ a3) (Dh.sameAll s5 _ _ a4)⟩
end
end LW

namespace LW
open PySem PySem.Spec PyProof.Rows L2 GL
section
variable {P : Program} {w : World} {K : PySem.W.Frag} {mg : Str → Option Value} {base : Heap}
/-! ### data beside the pen -/
mutual
def smD : PyData → Bool
  | .list ds => smDA ds
  | .tuple ds => smDA ds
  | .dict ps => decide (ps.length < 5) && smDK ps
  | _ => true
def smDA : List PyData → Bool
  | [] => true
  | d :: ds => smD d && smDA ds
def smDK : List (PyData × PyData) → Bool
  | [] => true
  | (_, d) :: ps => smD d && smDK ps
end
theorem kv_len {H : Hp} : ∀ {kvs : List (Key × V)} {ps : List (PyData × PyData)}, DhKv H kvs ps → kvs.length = ps.length
  | _, [], h => by cases h; rfl
  | _, p :: ps, h => by
    cases h with
    | cons _ t => rw [List.length_cons, List.length_cons, kv_len t]
theorem But.sqt {H H' : Hp} {p q : Addr} {kvs : List (Key × V)} {xs : List V} (b : But p H H') (hp : H p = some (.dK kvs)) (h : SqT K H q xs) : SqT K H' q xs := by
  rcases h with (h | ⟨o, h⟩) | h
  · exact .inl (.inl (b _ _ h (ne_of h hp (by intro z; cases z))))
  · exact .inl (.inr ⟨o, b _ _ h (ne_of h hp (by intro z; cases z))⟩)
  · exact .inr h
theorem pen5 (c : Addr) (a d n f : Int) : (penK c a d n f).length = 5 := rfl
mutual
theorem Dh.but {H H' : Hp} {p c : Addr} {a d n f : Int} (hp : H p = some (.dK (penK c a d n f))) (b : But p H H') : ∀ (d : PyData) (v : V), smD d = true → Dh H v d → Dh H' v d
  | .none, _, _, h => by cases h; exact .non
  | .bool _, _, _, h => by cases h; exact .bl _
  | .int _, _, _, h => by cases h; exact .int _
  | .str _, _, _, h => by cases h; exact .str _
  | .list ds, _, s, h => by
    cases h with
    | lst q t => exact .lst (b _ _ q (ne_of q hp (by intro z; cases z))) (Dh.butA hp b ds _ s t)
  | .tuple ds, _, s, h => by
    cases h with
    | tup q t => exact .tup (b _ _ q (ne_of q hp (by intro z; cases z))) (Dh.butA hp b ds _ s t)
  | .dict ps, _, s, h => by
    cases h with
    | dic q t =>
      obtain ⟨s1, s2⟩ := Bool.and_eq_true_iff.mp s
      refine .dic (b _ _ q fun z => ?_) (Dh.butK hp b ps _ s2 t)
      rw [z, hp] at q
      have e : penK c a d n f = _ := HO.dK.inj (Option.some.inj q)
      have l := kv_len t
      rw [← e, pen5] at l
      have := of_decide_eq_true s1
      omega
theorem Dh.butA {H H' : Hp} {p c : Addr} {a d n f : Int} (hp : H p = some (.dK (penK c a d n f))) (b : But p H H') : ∀ (ds : List PyData) (vs : List V), smDA ds = true → DhAll H vs ds → DhAll H' vs ds
  | [], _, _, h => by cases h; exact .nil
  | d :: ds, _, s, h => by
    cases h with
    | cons h t =>
      obtain ⟨s1, s2⟩ := Bool.and_eq_true_iff.mp s
      exact .cons (Dh.but hp b d _ s1 h) (Dh.butA hp b ds _ s2 t)
theorem Dh.butK {H H' : Hp} {p c : Addr} {a d n f : Int} (hp : H p = some (.dK (penK c a d n f))) (b : But p H H') : ∀ (ps : List (PyData × PyData)) (kvs : List (Key × V)), smDK ps = true → DhKv H kvs ps → DhKv H' kvs ps
  | [], _, _, h => by cases h; exact .nil
  | (_, d) :: ps, _, s, h => by
    obtain ⟨s1, s2⟩ := Bool.and_eq_true_iff.mp s
    cases h with
    | cons h t => exact .cons (Dh.but hp b d _ s1 h) (Dh.butK hp b ps _ s2 t)
end
theorem LsD.but {H H' : Hp} {p c l : Addr} {m : Nat} {ds : List PyData} (h : LsD H l ds) (s : smDA ds = true) (P : PenAt H p c m) (b : But p H H') : LsD H' l ds := by
  obtain ⟨a, d, n, f, ns, hp, _⟩ := P
  obtain ⟨vs, e, al⟩ := h
  exact ⟨vs, b _ _ e (ne_of e hp (by intro z; cases z)), Dh.butA hp b ds vs s al⟩
/-! ### a row, turned -/
def turnM {α : Type} (xs : List α) (k : Nat) (b : Bool) : List α := if b = true then xs.drop k ++ xs.take k else (xs.drop k ++ xs.take k).take 1 ++ (xs.drop k ++ xs.take k).tail.reverse
def spTurnR : Sp := fun vs H Q _ => ∃ (p c l : Addr) (m : Nat) (ds : List PyData), vs = [.ref p, .ref l] ∧ PenAt H p c m ∧ m + 2 < most ∧ LsD H l ds ∧ smDA ds = true ∧ 1 ≤ ds.length ∧ ds.length ≤ 100 ∧
  ∀ (l' : Addr) (H' : Hp) (k : Nat) (b : Bool), k < ds.length → But p H H' → PenAt H' p c (m + 2) → LsD H' l' (turnM ds k b) → Q (.ref l') H'
theorem dd_drop {H : Hp} : ∀ {vs : List V} {ds : List PyData} (k : Nat), DhAll H vs ds → DhAll H (vs.drop k) (ds.drop k)
  | _, _, 0, h => h
  | _, [], k + 1, h => by cases h; exact .nil
  | _, d :: ds, k + 1, h => by
    cases h with
    | cons _ t => exact dd_drop k t
theorem dd_take {H : Hp} : ∀ {vs : List V} {ds : List PyData} (k : Nat), DhAll H vs ds → DhAll H (vs.take k) (ds.take k)
  | _, _, 0, h => by rw [List.take_zero, List.take_zero]; exact .nil
  | _, [], k + 1, h => by cases h; exact .nil
  | _, d :: ds, k + 1, h => by
    cases h with
    | cons h t => exact .cons h (dd_take k t)
theorem dd_rev {H : Hp} : ∀ {vs : List V} {ds : List PyData}, DhAll H vs ds → DhAll H vs.reverse ds.reverse
  | _, [], h => by cases h; exact .nil
  | _, d :: ds, h => by
    cases h with
    | cons h t =>
      rw [List.reverse_cons, List.reverse_cons]
      exact dd_app (dd_rev t) (.cons h .nil)
theorem sl_lo {te t1 : TE} {σ : L2.St} {H : Hp} {Q : VK} {v : V} {n : Int} {r : V → Option Int → Option Int → Hp → VK → Prop} (h : Val te σ H v) (h1 : Val t1 σ H (.int n)) (q : r v (some n) none H Q) : tSl r te (tPart t1) tNoPart σ H Q := h _ (h1 _ ⟨n, rfl, q⟩)
theorem sl_hi {te t1 : TE} {σ : L2.St} {H : Hp} {Q : VK} {v : V} {n : Int} {r : V → Option Int → Option Int → Hp → VK → Prop} (h : Val te σ H v) (h1 : Val t1 σ H (.int n)) (q : r v none (some n) H Q) : tSl r te tNoPart (tPart t1) σ H Q := h _ (h1 _ ⟨n, rfl, q⟩)
theorem cut_from (xs : List V) {k : Nat} (h : k ≤ xs.length) : cutV xs (some (k : Int)) none = xs.drop k := by
  unfold cutV
  show (xs.drop (HT.sIx xs.length 0 (some ((k : Nat) : Int)))).take (xs.length - HT.sIx xs.length 0 (some ((k : Nat) : Int))) = _
  rw [HT.sIx_nat, Nat.min_eq_left h]
  exact List.take_of_length_le (by rw [List.length_drop]; exact Nat.le_refl _)
theorem cut_to (xs : List V) {k : Nat} (h : k ≤ xs.length) : cutV xs none (some (k : Int)) = xs.take k := by
  unfold cutV
  show (xs.drop 0).take (HT.sIx xs.length xs.length (some ((k : Nat) : Int)) - 0) = _
  rw [HT.sIx_nat, Nat.min_eq_left h, List.drop_zero, Nat.sub_zero]
theorem smDA_app : ∀ {ds es : List PyData}, smDA ds = true → smDA es = true → smDA (ds ++ es) = true
  | [], _, _, h => h
  | d :: ds, _, h, k => by
    obtain ⟨h1, h2⟩ := Bool.and_eq_true_iff.mp h
    exact Bool.and_eq_true_iff.mpr ⟨h1, smDA_app h2 k⟩
theorem smDA_drop : ∀ {ds : List PyData} (k : Nat), smDA ds = true → smDA (ds.drop k) = true
  | _, 0, h => h
  | [], _ + 1, h => h
  | d :: ds, k + 1, h => smDA_drop k (Bool.and_eq_true_iff.mp h).2
theorem smDA_take : ∀ {ds : List PyData} (k : Nat), smDA ds = true → smDA (ds.take k) = true
  | _, 0, _ => by rw [List.take_zero]; rfl
  | [], _ + 1, h => h
  | d :: ds, k + 1, h => by
    obtain ⟨h1, h2⟩ := Bool.and_eq_true_iff.mp h
    exact Bool.and_eq_true_iff.mpr ⟨h1, smDA_take k h2⟩
theorem ok_law_turned_row (T : Txt K mg) : FnOk P w K mg base CX0 2 (fA mg "_law_turned_row") (fDat K (fA mg "_law_turned_row")) ["_law_pen_here", "_law_row"] spTurnR := by
  have G_law_draw := ok_draw (P := P) (w := w) (base := base) T._law_draw.F T
  refine T._law_turned_row.F.ok sc_law_turned_row (fun vs H Q E h => ?_) (fun cdv A outer s H vs Q E hr h => ?_)
  · obtain ⟨p, c, l, m, ds, rfl, _⟩ := h
    rfl
  obtain ⟨p, c, l, m, ds, rfl, P, hm, ld, sd, l1, l100, k⟩ := h
  refine ⟨_, (pss_cons (ps_set (i := 2) sc_law_turned_row.nd rfl (Or.inl rfl) (pe_c T._law_draw G_law_draw (hr.mono (by decide)) (pa_cons (pv 0) (pa_cons (pe_callB call_len_seq (by rfl) T.len PySem.boot_len (pa_cons (pv 1) pa_nil)) pa_nil))))
  (pss_cons (ps_set (i := 3) sc_law_turned_row.nd rfl (Or.inl rfl) (pe_op op_cat (pe_slice (show SlR _ (rSlL K) from sl_list) (pv 1) (po_some (pv 2)) po_none) (pe_slice (show SlR _ (rSlL K) from sl_list) (pv 1) po_none (po_some (pv 2)))))
  (pss_one (ps_ret (pe_ifExp (pt_cmpR op_eq (pe_c T._law_draw G_law_draw (hr.mono (by decide)) (pa_cons (pv 0) (pa_cons pe_int pa_nil))) pe_int (nomark _)) (pv 3) (pe_op op_cat (pe_slice (show SlR _ (rSlL K) from sl_list) (pv 3) po_none (po_some pe_int)) (pe_tlR (pv 3)))))))), ?_⟩
  have P0 := P
  obtain ⟨vs, e, al⟩ := ld
  have lv := dd_len al
  have hz : (1000 : Nat) ≤ sizeLine := by decide
  refine q_asg (c_call (va_cons (val_var rfl) (va_cons (v_len (val_var rfl) (.inl (SqL.of e))) va_nil)) ⟨p, c, _, m, rfl, P, by omega, by omega, by omega, fun r H1 r0 r1 b1 P1 => ?_⟩)
  obtain ⟨kk, rfl⟩ := Int.eq_ofNat_of_zero_le r0
  have hk : kk < ds.length := by rw [← lv]; omega
  obtain ⟨vs1, e1, al1⟩ := LsD.but (l := l) ⟨vs, e, al⟩ sd P b1
  have lv1 := dd_len al1
  refine q_asg (op_in (sl_lo (val_var rfl) (val_var rfl) ⟨l, vs1, rfl, SqL.of e1, fun q1 hq1 => ?_⟩))
  rw [cut_from vs1 (by omega)]
  have u1 := Same.new' (o := .lst (vs1.drop kk)) hq1
  refine sl_hi (val_var rfl) (val_var rfl) ⟨l, vs1, rfl, SqL.of (u1 _ _ e1), fun q2 hq2 => ?_⟩
  rw [cut_to vs1 (by omega)]
  have u2 := Same.new' (o := .lst (vs1.take kk)) hq2
  refine ⟨q1, q2, _, _, rfl, rfl, u2 _ _ upd_same, upd_same, by rw [List.length_drop, List.length_take]; omega, fun q3 hq3 => ?_⟩
  have u3 := Same.new' (o := .lst (vs1.drop kk ++ vs1.take kk)) hq3
  have u := u1.trans (u2.trans u3)
  have fnd : LsD (L2.upd (L2.upd (L2.upd H1 q1 (.lst (vs1.drop kk))) q2 (.lst (vs1.take kk))) q3 (.lst (vs1.drop kk ++ vs1.take kk))) q3 (ds.drop kk ++ ds.take kk) := ⟨_, upd_same, Dh.sameAll u _ _ (dd_app (dd_drop kk al1) (dd_take kk al1))⟩
  have P3 := P1.same u
  generalize L2.upd (L2.upd (L2.upd H1 q1 (.lst (vs1.drop kk))) q2 (.lst (vs1.take kk))) q3 (.lst (vs1.drop kk ++ vs1.take kk)) = H3 at fnd P3 u
  have sf : smDA (ds.drop kk ++ ds.take kk) = true := smDA_app (smDA_drop kk sd) (smDA_take kk sd)
  refine r_ret (l_ifE (c_call (va_cons (val_var rfl) (va_cons val_c va_nil)) ⟨p, c, 2, m + 1, rfl, P3, by omega, by decide, by decide, fun r2 H4 _ _ b4 P4 => val_c _ ⟨rfl, _, rfl, ?_⟩⟩))
  have fn4 := LsD.but fnd sf P3 b4
  have B4 : But p H H4 := (b1.trans (But.of u)).trans b4
  refine q_cases (fun _ => (val_var rfl) _ (k q3 H4 kk true hk B4 P4 fn4)) (fun _ => ?_)
  obtain ⟨ws, ew, aw⟩ := fn4
  have lw := dd_len aw
  rw [List.length_append, List.length_drop, List.length_take] at lw
  refine op_in (sl_hi (n := ((1 : Nat) : Int)) (val_var rfl) val_c ⟨q3, ws, rfl, SqL.of ew, fun q5 hq5 => ?_⟩)
  rw [cut_to ws (by omega)]
  have u5 := Same.new' (o := .lst (ws.take 1)) hq5
  refine (val_var rfl) _ ⟨q3, ws, rfl, by omega, .inl ⟨SqL.of (u5 _ _ ew), fun q6 hq6 => ?_⟩⟩
  have u6 := Same.new' (o := .lst ws.tail.reverse) hq6
  refine ⟨q5, q6, _, _, rfl, rfl, u6 _ _ upd_same, upd_same, by rw [List.length_take, List.length_reverse, List.length_tail]; omega, fun q7 hq7 => ?_⟩
  have u7 := Same.new' (o := .lst (ws.take 1 ++ ws.tail.reverse)) hq7
  have v := u5.trans (u6.trans u7)
  refine k q7 _ kk false hk (B4.trans (But.of v)) (P4.same v) ⟨_, upd_same, ?_⟩
  have t : DhAll H4 ws.tail (ds.drop kk ++ ds.take kk).tail := by
    have z := dd_drop 1 aw
    rw [List.drop_one, List.drop_one] at z
    exact z
  exact Dh.sameAll v _ _ (dd_app (dd_take 1 aw) (dd_rev t))
end
end LW

namespace LW
open PySem PySem.Spec PyProof.Rows L2 GL
section
variable {P : Program} {w : World} {K : PySem.W.Frag} {mg : Str → Option Value} {base : Heap}
/-! ### what data is to the program -/
def okI (i : Int) : Bool := decide (i.natAbs < 2 ^ 60)
def pairD : List PyData → Option Rat
  | [.int i, .int j] => if 0 < j then some (Rat.divInt i j) else none
  | _ => none
def ratD : PyData → Option Rat
  | .int i => some (Rat.divInt i 1)
  | .list ds => pairD ds
  | .tuple ds => pairD ds
  | _ => none
theorem dh_is {H : Hp} {v : V} {d : PyData} (h : Dh H v d) : ∃ n, Is H v n ∧ (n = "int" → ∃ i, v = .int i ∧ d = .int i) := by
  cases h with
  | non => exact ⟨_, .non, fun z => absurd z (by decide)⟩
  | bl b => exact ⟨_, .bl b, fun z => absurd z (by decide)⟩
  | int i => exact ⟨_, .int i, fun _ => ⟨i, rfl, rfl⟩⟩
  | str x => exact ⟨_, .str x, fun z => absurd z (by decide)⟩
  | lst a b => exact ⟨_, .lst a, fun z => absurd z (by decide)⟩
  | tup a b => exact ⟨_, .tup a, fun z => absurd z (by decide)⟩
  | dic a b => exact ⟨_, .dic a, fun z => absurd z (by decide)⟩
theorem dh_no {H : Hp} {v : V} {d : PyData} (h : Dh H v d) (n : ∀ i, d ≠ .int i) : ∃ n, Is H v n ∧ n ≠ "int" := by
  obtain ⟨m, i, z⟩ := dh_is h
  exact ⟨m, i, fun e => by
    obtain ⟨j, _, e2⟩ := z e
    exact n j e2⟩
theorem pair_q {H : Hp} {a : Addr} {vs : List V} {ds : List PyData} (h : Sq H a vs) (al : DhAll H vs ds) : RatQ H (.ref a) (pairD ds).isSome := by
  have l := dd_len al
  by_cases h2 : ds.length = 2
  · match ds, h2, al with
    | [x, y], _, al =>
      cases al with
      | cons hx t =>
        cases t with
        | cons hy t2 =>
          cases t2
          by_cases ix : ∃ i, x = .int i
          · obtain ⟨i, rfl⟩ := ix
            cases hx
            by_cases iy : ∃ j, y = .int j
            · obtain ⟨j, rfl⟩ := iy
              cases hy
              have z := RatQ.pair h
              have e : (pairD [.int i, .int j]).isSome = decide (0 < j) := by
                show (if 0 < j then some (Rat.divInt i j) else none).isSome = decide (0 < j)
                by_cases q : 0 < j
                · rw [if_pos q, decide_eq_true q]
                  rfl
                · rw [if_neg q, decide_eq_false q]
                  rfl
              rw [e]
              exact z
            · obtain ⟨n, i2, o⟩ := dh_no hy (fun j e => iy ⟨j, e⟩)
              have e : pairD [.int i, y] = none := by
                cases y with
                | int j => exact absurd ⟨j, rfl⟩ iy
                | _ => rfl
              rw [e]
              exact RatQ.snd h i2 o
          · obtain ⟨n, i2, o⟩ := dh_no hx (fun j e => ix ⟨j, e⟩)
            have e : pairD [x, y] = none := by
              cases x with
              | int j => exact absurd ⟨j, rfl⟩ ix
              | _ => rfl
            rw [e]
            exact RatQ.fst h i2 o
  · have e : pairD ds = none := by
      match ds, h2 with
      | [], _ => rfl
      | [x], _ => cases x <;> rfl
      | [_, _], h2 => exact absurd rfl h2
      | x :: y :: z :: r, _ => cases x <;> first | rfl | (cases y <;> rfl)
    rw [e]
    exact RatQ.len h (by rw [l]; exact h2)
theorem rat_q {H : Hp} {v : V} {d : PyData} (h : Dh H v d) : RatQ H v (ratD d).isSome := by
  cases h with
  | non => exact .odd .non (.inr (.inr (.inl rfl)))
  | bl b => exact .odd (.bl b) (.inl rfl)
  | int i => exact .int i
  | str x => exact .odd (.str x) (.inr (.inl rfl))
  | lst a b => exact pair_q (.inl a) b
  | tup a b => exact pair_q (.inr a) b
  | dic a b => exact .odd (.dic a) (.inr (.inr (.inr rfl)))
def placeL : List PyData → Option RP
  | [x, y] => (match ratD x, ratD y with
    | some p, some q => some (p, q)
    | _, _ => none)
  | _ => none
def placeD : PyData → Option RP
  | .list ds => placeL ds
  | .tuple ds => placeL ds
  | _ => none
def allS : List PyData → Option (List RP)
  | [] => some []
  | d :: r => (match placeD d, allS r with
    | some p, some ps => some (p :: ps)
    | _, _ => none)
def holeL (ds : List PyData) : Option (List RP) := if 3 ≤ ds.length then allS ds else none
def holeD : PyData → Option (List RP)
  | .list ds => holeL ds
  | .tuple ds => holeL ds
  | _ => none
def lenD : PyData → Bool
  | .list ds => decide (ds.length ≤ 100)
  | .tuple ds => decide (ds.length ≤ 100)
  | _ => true
theorem dh_all {H : Hp} {R : V → Bool → Prop} {f : PyData → Bool} {g : PyData → Bool} (k : ∀ v d, Dh H v d → g d = true → R v (f d)) : ∀ {vs : List V} {ds : List PyData}, DhAll H vs ds → ds.all g = true → All2 R vs (ds.map f)
  | _, [], h, _ => by cases h; exact .nil
  | _, d :: ds, h, s => by
    cases h with
    | cons h t =>
      rw [List.all_cons] at s
      obtain ⟨s1, s2⟩ := Bool.and_eq_true_iff.mp s
      exact .cons (k _ _ h s1) (dh_all k t s2)
theorem placeL_q (ds : List PyData) : ((ds.map fun x => (ratD x).isSome).all id && decide (ds.length = 2)) = (placeL ds).isSome := by
  match ds with
  | [] => rfl
  | [x] =>
    show (_ && decide (1 = 2)) = false
    rw [show decide (1 = 2) = false from rfl, Bool.and_false]
  | [x, y] =>
    show ((ratD x).isSome && ((ratD y).isSome && true) && decide (2 = 2)) = (match ratD x, ratD y with
      | some p, some q => some (p, q)
      | _, _ => none).isSome
    cases ratD x <;> cases ratD y <;> rfl
  | x :: y :: z :: r =>
    show (_ && decide (r.length + 1 + 1 + 1 = 2)) = false
    rw [decide_eq_false (by omega), Bool.and_false]
theorem place_q {H : Hp} {v : V} {d : PyData} (h : Dh H v d) (s : lenD d = true) : PlQ H v (placeD d).isSome := by
  have seq : ∀ {a : Addr} {vs : List V} {ds : List PyData}, Sq H a vs → DhAll H vs ds → decide (ds.length ≤ 100) = true → PlQ H (.ref a) (placeL ds).isSome := fun {a vs ds} q t s => by
    have l := dd_len t
    have z := PlQ.seq q (by have := of_decide_eq_true s; omega) (dh_all (R := RatQ H) (f := fun x => (ratD x).isSome) (g := fun _ => true) (fun _ _ h _ => rat_q h) t (by simp))
    rw [l, placeL_q] at z
    exact z
  cases h with
  | non => exact .odd .non (by decide) (by decide)
  | bl b => exact .odd (.bl b) (by decide) (by decide)
  | int i => exact .odd (.int i) (by decide) (by decide)
  | str x => exact .odd (.str x) (by decide) (by decide)
  | lst a b => exact seq (.inl a) b s
  | tup a b => exact seq (.inr a) b s
  | dic a b => exact .odd (.dic a) (by decide) (by decide)
theorem allS_q : ∀ ds : List PyData, (ds.map fun x => (placeD x).isSome).all id = (allS ds).isSome
  | [] => rfl
  | d :: ds => by
    have ih := allS_q ds
    show ((placeD d).isSome && (ds.map fun x => (placeD x).isSome).all id) = (match placeD d, allS ds with
      | some p, some ps => some (p :: ps)
      | _, _ => none).isSome
    rw [ih]
    cases placeD d <;> cases allS ds <;> rfl
/-- every number in it is small, every row in it short -/
def inI : PyData → Bool
  | .int i => okI i
  | _ => true
def fitR : PyData → Bool
  | .int i => okI i
  | .list ds => ds.all inI
  | .tuple ds => ds.all inI
  | _ => true
def fitP : PyData → Bool
  | .list ds => decide (ds.length ≤ 100) && ds.all fitR
  | .tuple ds => decide (ds.length ≤ 100) && ds.all fitR
  | _ => true
def fitH : PyData → Bool
  | .list ds => decide (ds.length ≤ 100) && ds.all fitP
  | .tuple ds => decide (ds.length ≤ 100) && ds.all fitP
  | _ => true
theorem fitP_len {d : PyData} (h : fitP d = true) : lenD d = true := by
  cases d <;> first | rfl | exact (Bool.and_eq_true_iff.mp h).1
theorem okI_fit {i : Int} (h : okI i = true) : i.natAbs < 2 ^ 1000 := Nat.lt_trans (of_decide_eq_true h) (Nat.pow_lt_pow_right (by decide) (by decide))
theorem rat_r {H : Hp} {v : V} {d : PyData} {q : Rat} (h : Dh H v d) (f : fitR d = true) (e : ratD d = some q) : Rq H v q := by
  have pr : ∀ {a : Addr} {vs : List V} {ds : List PyData}, Sq H a vs → DhAll H vs ds → ds.all inI = true → pairD ds = some q → Rq H (.ref a) q := fun {a vs ds} s t f e => by
    unfold pairD at e
    split at e
    · rename_i i j
      split at e
      · rename_i hj
        cases e
        cases t with
        | cons h1 t =>
          cases t with
          | cons h2 t =>
            cases h1
            cases h2
            cases t
            obtain ⟨f1, f2⟩ := Bool.and_eq_true_iff.mp (show (okI i && (okI j && true)) = true from f)
            obtain ⟨f2, _⟩ := Bool.and_eq_true_iff.mp f2
            exact ⟨i, j, .pair s hj, ⟨okI_fit f1, okI_fit f2⟩, rfl⟩
      · cases e
    · cases e
  cases h with
  | int i =>
    cases e
    exact ⟨i, 1, .int i, ⟨okI_fit f, by decide +kernel⟩, rfl⟩
  | lst a b => exact pr (.inl a) b f e
  | tup a b => exact pr (.inr a) b f e
  | non => cases e
  | bl b => cases e
  | str x => cases e
  | dic a b => cases e
theorem place_r {H : Hp} {v : V} {d : PyData} {p : RP} (h : Dh H v d) (f : fitP d = true) (e : placeD d = some p) : PlR H v p := by
  have pr : ∀ {a : Addr} {vs : List V} {ds : List PyData}, Sq H a vs → DhAll H vs ds → ds.all fitR = true → placeL ds = some p → PlR H (.ref a) p := fun {a vs ds} s t f e => by
    unfold placeL at e
    split at e
    · rename_i x y
      split at e
      · rename_i p1 q1 e1 e2
        cases e
        cases t with
        | cons h1 t =>
          cases t with
          | cons h2 t =>
            cases t
            obtain ⟨f1, f2⟩ := Bool.and_eq_true_iff.mp (show (fitR x && (fitR y && true)) = true from f)
            obtain ⟨f2, _⟩ := Bool.and_eq_true_iff.mp f2
            exact ⟨a, _, _, rfl, s, rat_r h1 f1 e1, rat_r h2 f2 e2⟩
      · cases e
    · cases e
  cases h with
  | lst a b => exact pr (.inl a) b (Bool.and_eq_true_iff.mp f).2 e
  | tup a b => exact pr (.inr a) b (Bool.and_eq_true_iff.mp f).2 e
  | int i => cases e
  | non => cases e
  | bl b => cases e
  | str x => cases e
  | dic a b => cases e
theorem all_r {H : Hp} : ∀ {vs : List V} {ds : List PyData} {ps : List RP}, DhAll H vs ds → ds.all fitP = true → allS ds = some ps → All2 (PlR H) vs ps
  | _, [], _, h, _, e => by cases h; cases e; exact .nil
  | _, d :: ds, ps, h, f, e => by
    cases h with
    | cons h t =>
      rw [List.all_cons] at f
      obtain ⟨f1, f2⟩ := Bool.and_eq_true_iff.mp f
      unfold allS at e
      split at e
      · rename_i p qs e1 e2
        cases e
        exact .cons (place_r h f1 e1) (all_r t f2 e2)
      · cases e
theorem hole_d {H : Hp} {v : V} {d : PyData} (h : Dh H v d) (f : fitH d = true) : HoleD H v (holeD d) := by
  have pr : ∀ {a : Addr} {vs : List V} {ds : List PyData}, Sq H a vs → DhAll H vs ds → (decide (ds.length ≤ 100) && ds.all fitP) = true → HoleD H (.ref a) (holeL ds) := fun {a vs ds} s t f => by
    obtain ⟨f1, f2⟩ := Bool.and_eq_true_iff.mp f
    have l := dd_len t
    have l1 := of_decide_eq_true f1
    have bs := dh_all (R := PlQ H) (f := fun x => (placeD x).isSome) (g := fitP) (fun _ _ h g => place_q h (fitP_len g)) t f2
    unfold holeL
    by_cases h3 : 3 ≤ ds.length
    · rw [if_pos h3]
      cases e : allS ds with
      | none =>
        refine .inr ⟨a, vs, _, rfl, s, by omega, bs, .inr ?_⟩
        rw [allS_q, e]
        rfl
      | some ps => exact ⟨a, vs, rfl, s, all_r t f2 e, by omega, by omega⟩
    · rw [if_neg h3]
      exact .inr ⟨a, vs, _, rfl, s, by omega, bs, .inl (by omega)⟩
  cases h with
  | lst a b => exact pr (.inl a) b f
  | tup a b => exact pr (.inr a) b f
  | int i => exact .inl ⟨_, .int i, by decide, by decide⟩
  | non => exact .inl ⟨_, .non, by decide, by decide⟩
  | bl b => exact .inl ⟨_, .bl b, by decide, by decide⟩
  | str x => exact .inl ⟨_, .str x, by decide, by decide⟩
  | dic a b => exact .inl ⟨_, .dic a, by decide, by decide⟩
end
end LW

namespace LW
open PySem PySem.Spec PyProof.Rows L2 GL
/-! ### the law's data, decided -/
def sqD : List RP := [(0, 0), (6, 0), (6, 6), (0, 6)]
def fiD : List RP := [(1, 1), (2, 1), (2, 2), (1, 2)]
theorem ro_bad : (roD.all fun d => match holeD d with | none => true | some ps => !goesO ps) = true := by decide +kernel
theorem ro_fit : roD.all fitH = true := by decide +kernel
theorem ho_fit : hoD.all fitH = true := by decide +kernel
theorem sq_goes : goesO sqD = true := by decide +kernel
theorem ho_bad : (hoD.all fun d => decide (failAt sqD [] [some fiD, holeD d] = some 1)) = true := by decide +kernel
theorem cr_bad : (crD.all fun d => match holeD d with | none => true | some ps => !goesO ps) = true := by decide +kernel
def turns (ds : List PyData) (f : List PyData → Bool) : Bool := (List.range ds.length).all fun k => f (turnM ds k true) && f (turnM ds k false)
def badR (ds : List PyData) : Bool := match holeL ds with | none => true | some ps => !goesO ps
theorem cr_turned : (crD.all fun d => match d with | .list ds => turns ds badR | _ => false) = true := by decide +kernel
theorem cr_smooth : smDA crD = true ∧ smDA roD = true ∧ smDA hoD = true := by decide +kernel
def wiD : List (List RP) := [[(1, 1), (2, 1), (1, 2)], [(5, 5), (6, 5), (5, 6)], [(7, 1), (8, 1), (7, 2)]]
def maD : List RP := [(0, 0), (9, 0), (9, 9), (0, 9)]
theorem ma_ok : goesO maD = true ∧ failAt maD [] (wiD.map some) = none ∧ areaM maD wiD = 159 / 2 ∧ (maD :: wiD).flatten.length = 13 := by decide +kernel
theorem ma_has : hasM (5 / 4, 5 / 4) maD wiD = false ∧ hasM (3, 3) maD wiD = true ∧ hasM (29 / 4, 5 / 4) maD wiD = false ∧ hasM (21 / 4, 21 / 4) maD wiD = false := by decide +kernel
def goD : List RP := [(4, 4), (5, 4), (5, 5)]
theorem both_ok : failAt sqD [] [some fiD, some goD] = none ∧ failAt sqD [] [some goD, some fiD] = none ∧ areaM sqD [fiD, goD] = 69 / 2 ∧ areaM sqD [goD, fiD] = 69 / 2 := by decide +kernel
def neD : List RP := [((2 * 10 ^ 9 + 1) / 10 ^ 9, 2), (3, 2), (3, 3)]
theorem near_ok : failAt sqD [] [some fiD, some neD] = none ∧ areaM sqD [fiD, neD] = 35 - (1 / 2 - 1 / (2 * 10 ^ 9)) := by decide +kernel
def clD : List RP := [(0, 0), (4, 0), (4, 4), (2, 1 / 10 ^ 9), (0, 4)]
theorem close_ok : goesO clD = true ∧ hasM (2, 0) clD [] = true ∧ hasM (2, 2 / 10 ^ 9) clD [] = false := by decide +kernel
def coD : List RP := [(0, 0), (1, 0), (1, 1), (2, 1), (2, 0), (3, 0), (3, 3), (0, 3)]
theorem comb_ok : goesO coD = true ∧ areaM coD [] = 8 ∧ hasM (3 / 2, 0) coD [] = false ∧ hasM (3 / 2, 1) coD [] = true := by decide +kernel
end LW

namespace LW
open PySem PySem.Spec PyProof.Rows L2 GL
section
variable {K : PySem.W.Frag} {mg : Str → Option Value}
/-! ### how Room is called -/
theorem RoomT.b3 (TR : RoomT K mg) : Binds K (fDat K (mA K (rmA mg) "__init__")) ["self", "corners", "holes"] [] := by
  obtain ⟨ds, v, b⟩ := TR.F.binds1 (ps := ["self", "corners", "holes"]) 3 1 (by simp) rfl fun T kV doc pm an cdv ct us its hu hi => match us, hu, its, hi with
    | [_, _, _], _, [_], _ => ⟨_, rfl, rfl⟩
  cases v
  exact b
theorem RoomT.b2 (TR : RoomT K mg) : ∃ ds, Vals [.ref (dfl0 K (mA K (rmA mg) "__init__"))] ds ∧ Binds K (fDat K (mA K (rmA mg) "__init__")) ["self", "corners", "holes"] ds :=
  TR.F.binds1 2 0 (by simp) rfl fun T kV doc pm an cdv ct us its hu hi => match us, hu, its, hi with
    | [_, _], _, [_], _ => ⟨_, rfl, rfl⟩
theorem RoomT.bk (TR : RoomT K mg) : KBn K (fDat K (mA K (rmA mg) "__init__")) ["self", "corners", "holes"] 2 ["holes"] (fun us ws => us ++ ws) (fun vs zs => vs ++ zs) := by
  obtain ⟨oc, od, dV, kV, doc, pm, an, cdv, ct, osl, e, lk, hcd, hD, hK⟩ := TR.F.ex
  rcases hD with ⟨e2, _⟩ | ⟨_, T, o, its, m, rfl, lT, oT, rT⟩
  · cases e2
  · rw [e]
    refine ⟨fun s us ws X hu hw => ?_, fun h k => h.append k⟩
    have l1 : its.length = 1 := rT.length.symm
    match us, hu, ws, hw, its, l1 with
    | [a, b], _, [c], _, [d], _ =>
      have q : ∃ k, bindArgs (PySem.W.fnOf "__init__" "Room.__init__" (defArgs sRoom_init) (defBody sRoom_init) (defScope sRoom_init) (.ref T) kV doc pm an cdv ct) ⟨[a, b], [("holes", c)]⟩ = seqItems? (.ref T) >>= k ∧ k (some #[d]) = pure ([("self", a), ("corners", b), ("holes", c)] : List (Str × Value)) := ⟨_, rfl, rfl⟩
      obtain ⟨k, e1, e3⟩ := q
      refine BindsTo.of_looks fun M => ?_
      show PySem.W.Looks M s.heap (bindArgs (PySem.W.fnOf "__init__" "Room.__init__" (defArgs sRoom_init) (defBody sRoom_init) (defScope sRoom_init) (.ref T) kV doc pm an cdv ct) ⟨[a, b], [("holes", c)]⟩) [("self", a), ("corners", b), ("holes", c)]
      rw [e1]
      exact looks_items X lT oT (.of_pure e3)
end
end LW

/-! several clauses in one try, with names or without -/
namespace TN
open PySem PySem.Spec PyProof.Rows L2
abbrev Cl := Value × Option Nat × (Addr → Value → Option Addr → TS)
def w1 (K : PySem.W.Frag) (D : Ends) (q : Cl) (W : WX) : WX := match q.2.1 with
  | some i => wAs K q.1 i q.2.2 W D
  | none => fun cls d σ H => ∃ b, PySem.W.exmOne K cls q.1 = some b ∧ (b = true → ∀ a, H a = none → q.2.2 a cls d D σ H) ∧ (b = false → W cls d σ H)
/-- what the clauses wish of an exception, the first one first -/
def wNames (K : PySem.W.Frag) (Wout : WX) (D : Ends) (l : List Cl) : WX := l.foldr (w1 K D) Wout
/-- asked only of states that hold every name -/
def wLen (n : Nat) (W : WX) : WX := fun cls d σ H => σ.length = n → W cls d σ H
inductive Clauses (X : Cx) : List ExceptHandler → List Cl → Prop
  | nil : Clauses X [] []
  | cons {x n : Str} {c : Value} {i : Nat} {ts : Addr → Value → Option Addr → TS} {b : Stmt} {r : List Stmt} {np hp : Pos} {hds : List ExceptHandler} {l : List Cl} (hi : X.N[i]? = some n) (hn : X.env.kindOf n = some .local) (hc : Names X x c)
      (suite : ∀ (a : Addr) (oe : Obj) (cls : Value) (d : Option Addr) (pn : List (Addr × Obj)), Zc cls d oe → (∃ vs, oe.data = .fields vs) → PSs (X.suite a ((a, oe) :: pn)) (b :: r) (ts a cls d)) (more : Clauses X hds l) :
      Clauses X (.ExceptHandler (some (.Name x np)) (some n) (b :: r) hp :: hds) ((c, some i, ts) :: l)
  | plain {x : Str} {c : Value} {ts : Addr → Value → Option Addr → TS} {b : Stmt} {r : List Stmt} {np hp : Pos} {hds : List ExceptHandler} {l : List Cl} (hc : Names X x c)
      (suite : ∀ (a : Addr) (oe : Obj) (cls : Value) (d : Option Addr) (pn : List (Addr × Obj)), Zc cls d oe → (∃ vs, oe.data = .fields vs) → PSs (X.suite a ((a, oe) :: pn)) (b :: r) (ts a cls d)) (more : Clauses X hds l) :
      Clauses X (.ExceptHandler (some (.Name x np)) none (b :: r) hp :: hds) ((c, none, ts) :: l)
section
variable {X : Cx} {body : List Stmt} {h₀ : ExceptHandler} {hds : List ExceptHandler} {l : List Cl} {pos : Pos} {tb : WX → TS} {Wout : WX}
theorem ps_try_names (hs : X.stack = X.env :: X.outer) (hf : X.env.frame = some X.env.locals) (hN : X.N.Nodup) (tk : Takes X Wout)
    (hb : ∀ (W : WX) (pn : List (Addr × Obj)) (xe : Value → Shared → Prop), Takes (X.tr pn xe) W → PassesOwn (model X.prog X.w) X.A X.env xe → PSs (X.tr pn xe) body (tb W))
    (cl : Clauses X (h₀ :: hds) l) : PS X (.Try body (h₀ :: hds) [] [] pos) (fun D σ H => tb (wLen X.N.length (wNames X.K Wout D l)) D σ H) := by
  refine ⟨fun pins s σ H D I h => ?_⟩
  have ok := I.ok
  have frames : X.A.frames = some (X.env :: X.outer) := by rw [ok.frames, hs]
  refine wpAny_Try_except ?_
  have run := (hb (wLen X.N.length (wNames X.K Wout D l)) (X.pn ++ pins) (fun e t => wpAny (model X.prog X.w) X.A (noteFrame e X.env) (fun _ t2 => wpAny (model X.prog X.w) X.A (setFlight e none) (fun _ t3 =>
    wpAny (model X.prog X.w) X.A (handleBy e X.env (h₀ :: hds)) (SP X pins D) X.xe t3) X.xe t2) X.xe t) (fun u s' xx => ?_) PassesOwn.looking).run [] s σ H D (I.toTry _) h
  · refine wpAny_mono run (fun f s1 e => ?_) (fun e s1 he => he)
    cases f with
    | next =>
      obtain ⟨σ', H', J', q⟩ := e
      exact wpAny_execs_nil ⟨σ', H', J'.ofTry ok, q⟩
    | brk =>
      obtain ⟨σ', H', J', q⟩ := e
      exact ⟨σ', H', J'.ofTry ok, q⟩
    | cont =>
      obtain ⟨σ', H', J', q⟩ := e
      exact ⟨σ', H', J'.ofTry ok, q⟩
    | ret u =>
      obtain ⟨v, σ', H', J', r, q⟩ := e
      exact ⟨v, σ', H', J'.ofTry ok, r, q⟩
  · obtain ⟨a, B, sI, pins', σ', H', cls, d, rfl, J', nb, up, sky, na, os, ag, w⟩ := xx
    have J : Inv X pins σ' H' sI := J'.ofTry ok
    have sky' : Sky B (X.env :: X.outer) a (Zc cls d) X.env.locals s'.heap := by rw [← hs]; exact sky
    show wpAny (model X.prog X.w) X.A (noteFrame (.ref a) X.env) _ _ _
    refine Sky.land Zc.steady frames hf sky' fun h3 fl3 up3 => ?_
    have J3 : Inv X pins σ' H' { s' with heap := h3 } := J.landed nb fl3.1 (up.trans up3) os ag
    obtain ⟨oe, vs, he, hz, hd⟩ := fl3.there
    have away : a ∉ frs (X.env :: X.outer) := fun hm => by
      obtain ⟨_, o', e', no⟩ := fl3.2.2.1.mem hm
      rw [he] at e'; cases e'
      exact no _ hd
    have nL : a ≠ X.env.locals := fun z => away (List.mem_filterMap.mpr ⟨X.env, List.mem_cons_self, by rw [hf, z]⟩)
    have nF : a ∉ X.fs := fun hm => by
      obtain ⟨e, m, q⟩ := List.mem_filterMap.mp hm
      exact away (List.mem_filterMap.mpr ⟨e, List.mem_cons_of_mem _ m, q⟩)
    have S3 := J3.suite he hd na nL nF
    have looks : PySem.W.Looks (model X.prog X.w) h3 (typeOf (.ref a)) cls := fun A Q E s k q => wpAny_typeOf_ref (k _ _ he) (by rw [hz.1]; exact q)
    suffices go : ∀ {hs' : List ExceptHandler} {l' : List Cl}, Clauses X hs' l' → wNames X.K Wout D l' cls d σ' H' → wpAny (model X.prog X.w) X.A (handleBy (.ref a) X.env hs') (SP X pins D) X.xe { s' with heap := h3 } from go cl (w J.len)
    intro hs' l' k
    induction k with
    | nil =>
      intro w
      refine wpAny_handleBy_nil ?_
      obtain ⟨k1, k2, k3, oe2, vs2, T, oT, ts', he2, hz2, hd2, h1, hr⟩ := id fl3
      unfold PySem.passOn
      refine wpAny_bind (wpAny_field he2 hd2 h1 ?_)
      rw [if_neg (show ¬ ((Value.ref T == Value.none) = true) from by simp)]
      have out : wpAny (model X.prog X.w) X.A (setFlight (.ref a) X.env.frame) (fun _ s4 => wpAny (model X.prog X.w) X.A (throw (.ref a) : Sem Flow) (SP X pins D) X.xe s4) X.xe { s' with heap := h3 } := by
        rw [hf]
        refine HandSPX.setFlight_upZ fl3 fun h4 hh4 up4 => wpAny_throw (tk _ _ ?_)
        exact ⟨a, B, sI, pins, σ', H', cls, d, rfl, J, nb, (up.trans up3).trans up4, .inr (.inr (by rw [hs]; exact hh4)), na, os, ag, w⟩
      first
        | exact wpAny_bind (wpAny_pure (wpAny_bind out))
        | exact wpAny_bind out
    | @cons x n c i ts b r np hp hds2 l2 hi hn hc suite more ih =>
      intro w
      obtain ⟨t, ht, yes, no⟩ := w
      refine wpAny_handleBy_cons (codeAny_handlers_test ?_) (by intro q; cases q)
      have LM := PySem.W.exm_one (M := model X.prog X.w) (J3.kIn) looks ht
      have test : ∀ {Q : Value → Shared → Prop} {E : Value → Shared → Prop}, Q c { s' with heap := h3 } → wpAny (model X.prog X.w) (X.A.mark (some (.ref a))) (eval (.Name x np) X.env) Q E { s' with heap := h3 } := fun {Q E} q => by
        obtain ⟨g, db, hm | ⟨hm, hv, nn⟩⟩ := hc
        · exact ld_glob (X := X.suite a ((a, oe) :: (X.pn ++ pins))) S3 g hm q db
        · exact ld_blt (X := X.suite a ((a, oe) :: (X.pn ++ pins))) S3 g hm hv q nn db
      refine test (LM.here ?_)
      cases t with
      | false => exact ih (no rfl)
      | true =>
        refine codeAny_handlers_suite_as ?_
        refine HandSPX.lands_againZ fl3 fun h4 fl4 up4 => ?_
        have J4 : Inv X pins σ' H' { s' with heap := h4 } := J.landed nb fl4.1 ((up.trans up3).trans up4) os ag
        obtain ⟨oe4, vs4, he4, hz4, hd4⟩ := fl4.there
        have S4 := J4.suite he4 hd4 na nL nF
        refine store_ok (X := X.suite a ((a, oe4) :: (X.pn ++ pins))) (v := .ref a) S4 hN hi (.inl hn) rfl (fun s5 S5 => ?_) (.inr hn)
        refine wpAny_mono ((suite a oe4 cls d (X.pn ++ pins) hz4 ⟨_, hd4⟩).run [] s5 _ H' _ S5 (yes rfl a na)) (fun f s6 e => ?_) (fun _ _ z => False.elim z)
        cases f with
        | next =>
          obtain ⟨σ6, H6, S6, q6⟩ := e
          exact gone_ok (S6.unsuite ok) hN hi hn fun s7 J7 => ⟨_, _, J7, q6⟩
        | brk =>
          obtain ⟨σ6, H6, S6, q6⟩ := e
          exact gone_ok (S6.unsuite ok) hN hi hn fun s7 J7 => ⟨_, _, J7, q6⟩
        | cont =>
          obtain ⟨σ6, H6, S6, q6⟩ := e
          exact gone_ok (S6.unsuite ok) hN hi hn fun s7 J7 => ⟨_, _, J7, q6⟩
        | ret u =>
          obtain ⟨v6, σ6, H6, S6, r6, q6⟩ := e
          exact gone_ok (S6.unsuite ok) hN hi hn fun s7 J7 => ⟨_, _, _, J7, r6, q6⟩
    | @plain x c ts b r np hp hds2 l2 hc suite more ih =>
      intro w
      obtain ⟨t, ht, yes, no⟩ := w
      refine wpAny_handleBy_cons (codeAny_handlers_test ?_) (by intro q; cases q)
      have LM := PySem.W.exm_one (M := model X.prog X.w) (J3.kIn) looks ht
      have test : ∀ {Q : Value → Shared → Prop} {E : Value → Shared → Prop}, Q c { s' with heap := h3 } → wpAny (model X.prog X.w) (X.A.mark (some (.ref a))) (eval (.Name x np) X.env) Q E { s' with heap := h3 } := fun {Q E} q => by
        obtain ⟨g, db, hm | ⟨hm, hv, nn⟩⟩ := hc
        · exact ld_glob (X := X.suite a ((a, oe) :: (X.pn ++ pins))) S3 g hm q db
        · exact ld_blt (X := X.suite a ((a, oe) :: (X.pn ++ pins))) S3 g hm hv q nn db
      refine test (LM.here ?_)
      cases t with
      | false => exact ih (no rfl)
      | true =>
        refine codeAny_handlers_suite ?_
        refine HandSPX.lands_againZ fl3 fun h4 fl4 up4 => ?_
        have J4 : Inv X pins σ' H' { s' with heap := h4 } := J.landed nb fl4.1 ((up.trans up3).trans up4) os ag
        obtain ⟨oe4, vs4, he4, hz4, hd4⟩ := fl4.there
        have S4 := J4.suite he4 hd4 na nL nF
        refine wpAny_mono ((suite a oe4 cls d (X.pn ++ pins) hz4 ⟨_, hd4⟩).run [] _ _ H' _ S4 (yes rfl a na)) (fun f s6 hsp => ?_) (fun _ _ z => False.elim z)
        cases f with
        | next =>
          obtain ⟨σ6, H6, S6, q6⟩ := hsp
          exact ⟨_, _, S6.unsuite ok, q6⟩
        | brk =>
          obtain ⟨σ6, H6, S6, q6⟩ := hsp
          exact ⟨_, _, S6.unsuite ok, q6⟩
        | cont =>
          obtain ⟨σ6, H6, S6, q6⟩ := hsp
          exact ⟨_, _, S6.unsuite ok, q6⟩
        | ret u =>
          obtain ⟨v6, σ6, H6, S6, r6, q6⟩ := hsp
          exact ⟨_, _, _, S6.unsuite ok, r6, q6⟩
end
end TN

namespace LW
open PySem PySem.Spec PyProof.Rows L2 GL
section
variable {P : Program} {w : World} {K : PySem.W.Frag} {mg : Str → Option Value} {base : Heap}
/-! ### heaps without their tables -/
def bareH (H : Hp) : Hp := fun b => match H b with
  | some (.tbl _) => none
  | o => o
def NoTab (S : Hp) : Prop := ∀ b ps, S b ≠ some (.tbl ps)
theorem bare_at {H : Hp} {b : Addr} {o : HO} (h : H b = some o) (n : ∀ ps, o ≠ .tbl ps) : bareH H b = some o := by
  unfold bareH
  rw [h]
  cases o with
  | tbl ps => exact (n ps rfl).elim
  | _ => rfl
theorem bare_of {H : Hp} {b : Addr} {o : HO} (h : bareH H b = some o) : H b = some o ∧ ∀ ps, o ≠ .tbl ps := by
  unfold bareH at h
  split at h
  · cases h
  · rename_i o' e
    exact ⟨h, fun ps z => e ps (by rw [h, z])⟩
theorem bare_no (H : Hp) : NoTab (bareH H) := fun b ps z => (bare_of z).2 ps rfl
theorem bare_in (H : Hp) : L2.Same (bareH H) H := fun b o h => (bare_of h).1
theorem ext_same {S H H1 : Hp} (n : NoTab S) (s : L2.Same S H) (x : LamX.ExtN H H1) : L2.Same S H1 := fun b o h => x b o (s b o h) fun ps z => n b ps (by rw [h, z])
theorem same_bare {S H : Hp} (n : NoTab S) (s : L2.Same S H) : L2.Same S (bareH H) := fun b o h => bare_at (s b o h) fun ps z => n b ps (by rw [h, z])
theorem Tabs.but {T : List (Addr × Str)} {H H' : Hp} {p c : Addr} {m : Nat} (t : LamX.Tabs T H) (P : PenAt H p c m) (b : But p H H') : LamX.Tabs T H' := by
  obtain ⟨kvs, hd⟩ := P.dk
  intro q hq
  obtain ⟨ps, h1, h2, h3⟩ := t q hq
  refine ⟨ps, b _ _ h1 (fun z => by rw [z, hd] at h1; cases h1), h2, fun pos cv e => ?_⟩
  obtain ⟨c', e1, e2⟩ := h3 pos cv e
  exact ⟨c', e1, b _ _ e2 (fun z => by rw [z, hd] at e2; unfold LamX.CodeO at e2; cases e2)⟩
theorem Tabs.same {T : List (Addr × Str)} {H H' : Hp} (t : LamX.Tabs T H) (s : L2.Same H H') : LamX.Tabs T H' := t.ext s
theorem PenAt.bare {H : Hp} {p c : Addr} {m : Nat} (h : PenAt H p c m) : PenAt (bareH H) p c m := h.off (fun o e => by
  obtain ⟨kvs, hd⟩ := h.dk
  rw [hd] at e
  cases e
  exact bare_at hd (fun ps z => by cases z)) (fun o e => by
  obtain ⟨a, d, n, f, ns, _, hc, _⟩ := h
  rw [hc] at e
  cases e
  exact bare_at hc (fun ps z => by cases z))
/-- as okG0, of a def whose code object is known -/
theorem okGc {k : Nat} {f c : Addr} {fd : FuncData} {ps : List Str} {sp : Sp} {x qual : Str} {st : Stmt} {N : List Str} (F : Fun K x qual st f fd) (hc : fd.code = .ref c) (S : FnScope N ps (defScope st)) (len : ∀ vs H Q E, sp vs H Q E → vs.length = ps.length)
    (body : ∀ (A : Around) (outer : List Env) (s : Shared) (H : Hp) (vs : List V) (Q : VK) (E : XK), Room k (A.deeper (envOfC qual (defScope st) s.heap.objs.size f (.ref c))) → Quiet A → sp vs H Q E →
      ∃ t, PSs (cxOf CX0 P w K mg base N qual (defScope st) f (.ref c) A outer s H E).nox (defBody st) t ∧ t { nx := fun _ H' => Q .non H', rt := Q } (start N vs) H) : OkG P w K mg base CX0 (k + 1) f fd ps sp := by
  obtain ⟨oc, od, kV, doc, pm, an, cdv, ct, osl, rfl, lk, hcd⟩ := F.ex
  have ec : cdv = .ref c := hc
  subst ec
  refine ⟨len, fun A outer s H args us vs Q E hr hq e0 hb r hsp => ?_⟩
  have KS : K.In s.heap := e0.mod.kin.keeps (fun b o e => (e0.bs b o e).1)
  have NL : s.heap.NoLimit := e0.mod.nolimit.keeps (fun b o e => (e0.bs b o e).1)
  have hl := len _ _ _ _ hsp
  refine codeAny_call_function hr.depth (KS _ _ lk) rfl S.co S.gen rfl (PySem.W.codeRec_of KS hcd) (hb _ _ _ _ ?_)
  refine wpAny_newFunctionEnv_cells S.kind ?_ (fun env he s1 x => ?_)
  · rintro ⟨n, v⟩ hy
    rcases S.par n (List.of_mem_zip hy).1 with q | q
    · exact .inl q
    · exact .inr ⟨q, PySem.W.cellsFrom_some _ _ _ (.inl q)⟩
  subst he
  refine ⟨NL.keeps x.toInCall.keep, codeAny_func ?_⟩
  obtain ⟨t, ht, hT⟩ := body A outer s H vs Q E (hr.deeper _) hq hsp
  have I0 := inv_start (CX := CX0) (E := E) S hr.hd e0 hl r x
  refine wpAny_mono (ht.nox.run [] s1 (start N vs) H _ I0 hT) (fun fl s' hs => ?_) (fun e s' hs => hs)
  cases fl with
  | ret u =>
    obtain ⟨v, _, H', J, rv, q⟩ := hs
    exact ⟨v, H', J.os, J.bare, J.base, J.hok, rv, q⟩
  | next =>
    obtain ⟨_, H', J, q⟩ := hs
    exact ⟨V.non, H', J.os, J.bare, J.base, J.hok, rfl, q⟩
  | brk => obtain ⟨_, _, _, q⟩ := hs; exact q.elim
  | cont => obtain ⟨_, _, _, q⟩ := hs; exact q.elim
theorem t_unless {te : TE} {t1 tz : TS} {D : Ends} {σ : L2.St} {H : Hp} (h : te σ H fun v H1 => ∃ b, v = .bl b ∧ if b = true then t1 { D with nx := tz D } σ H1 else tz D σ H1) : tSeq (tIfS (tTest te) t1 tNext) tz D σ H := h
theorem t_unless1 {te : TE} {t1 : TS} {D : Ends} {σ : L2.St} {H : Hp} (h : te σ H fun v H1 => ∃ b, v = .bl b ∧ if b = true then t1 D σ H1 else D.nx σ H1) : tIfS (tTest te) t1 tNext D σ H := h
/-! ### the error of a call -/
theorem ExcC.xf {K : PySem.W.Frag} {C : Addr} (e : ExcC K C) : XfC K C := ⟨e.1, e.2, e.3, e.4⟩
theorem s_asg1 {te : TE} {i : Nat} {D : Ends} {σ : L2.St} {H : Hp} (h : te σ H fun v H1 => D.nx (σ.set i (some v)) H1) : tAsg te (gName i) D σ H := h
/-- data that repr shows, of some length -/
def FineL (K : PySem.W.Frag) (H : Hp) (v : V) (d : PyData) : Prop := Dd K H v d ∧ d.showable = true ∧ d.depth ≤ 40 ∧ d.shown.length ≤ 100000 ∧ PyData.strOk d.shown = true
theorem FineL.same {H H' : Hp} {v : V} {d : PyData} (f : FineL K H v d) (s : L2.Same H H') : FineL K H' v d := ⟨Dd.same s _ _ f.1, f.2⟩
def fineD (d : PyData) : Bool := d.showable && decide (d.depth ≤ 40) && decide (d.shown.length ≤ 100000) && PyData.strOk d.shown
theorem Dh.fine {H : Hp} {v : V} {d : PyData} (h : Dh H v d) (f : fineD d = true) : FineL K H v d := by
  unfold fineD at f
  simp only [Bool.and_eq_true, decide_eq_true_eq] at f
  exact ⟨Dh.dd d v h, f.1.1.1, f.1.1.2, f.1.2, f.2⟩
/-- what _law_fault makes of a call that ends by BadRow -/
def TTfault (K : PySem.W.Frag) (mg : Str → Option Value) : (XK → Hp → VK → Prop) → Hp → VK → Prop := fun tl H Q => ∀ H1, L2.Same H H1 →
  tl (fun cls d H' => cls = .ref (fA mg "BadRow") ∧ ∃ (dd : Addr) (v : V) (t : PyData), d = some dd ∧ H' dd = some (.xd [("row", v)]) ∧ FineL K H' v t ∧ ∀ (p : Addr) (H2 : Hp), L2.Same H' H2 → H2 p = some (.tup [.str "row", .str t.shown]) → Q (.ref p) H2) H1 (fun _ _ => False)
theorem fault_gives {X : Cx} (T : Txt X.K X.mg) (hq : Quiet X.A) {q : Str} {cdg : Value} (hr : ∀ e, Room 1 (X.A.deeper e)) : LamX.GivesTo X ["_law_call", "_law_told", "error"] "_law_fault" (defScope s_law_fault) (fA X.mg "_law_fault") cdg (defBody s_law_fault) "_law_call" q (TTfault X.K X.mg) := by
  intro f c' s H Q tl act hc h
  have xN := ExcC.xf T.BadNumber.e
  have xR := ExcC.xf T.BadRow.e
  refine ⟨_, pss_cons (ps_set (i := 1) sc_law_fault.nd rfl (Or.inl rfl) (pe_tup (pa_cons pe_str pa_nil))) (pss_cons (TN.ps_try_names (X := (cxOf C8.CX0 X.prog X.w X.K X.mg X.base ["_law_call", "_law_told", "error"] "_law_fault" (defScope s_law_fault) (fA X.mg "_law_fault") cdg X.A X.stack s H C8.E0).nox) (tb := fun W D σ H => ∃ (Ech : XK) (Nx : Hp → Prop), (∀ cls d σ' H', Ech cls d H' → W cls d σ' H') ∧ (∀ σ' H', Nx H' → D.nx σ' H') ∧ σ[0]? = some (some (.ref f)) ∧ H c' = some (LamX.CodeO c' q) ∧ tl Ech H (fun _ H' => Nx H'))
      rfl rfl sc_law_fault.nd LamX.takes0 (fun W pn xe tk _ => ?_)
      (.cons (i := 2) rfl rfl ⟨by rfl, by decide, .inl T.BadRow.g⟩ (fun a oe cls d pn hz hf => pss_one (ps_set (i := 1) sc_law_fault.nd rfl (Or.inl rfl) (pe_tup (pa_cons pe_str (pa_cons (pe_callB (id := "repr") (show CallR _ _ (rShow X.K) from call_show ?_ ?_) (by rfl) T.repr (by decide +kernel) (pa_cons (pe_xf xR (T.BadRow.n _ (by simp)) hz hf (pv 2)) pa_nil)) pa_nil)))))
      (.cons (i := 2) rfl rfl ⟨by rfl, by decide, .inl T.BadNumber.g⟩ (fun a oe cls d pn hz hf => pss_one (ps_set (i := 1) sc_law_fault.nd rfl (Or.inl rfl) (pe_tup (pa_cons pe_str (pa_cons (pe_xf xN (T.BadNumber.n _ (by simp)) hz hf (pv 2)) (pa_cons (pe_callB (id := "repr") (show CallR _ _ (rShow X.K) from call_show ?_ ?_) (by rfl) T.repr (by decide +kernel) (pa_cons (pe_xf xN (T.BadNumber.n _ (by simp)) hz hf (pv 2)) pa_nil)) pa_nil))))))
      (.plain ⟨by rfl, by decide, .inl T.Shared.g⟩ (fun a oe cls d pn hz hf => pss_one (ps_set (i := 1) sc_law_fault.nd rfl (Or.inl rfl) (pe_tup (pa_cons pe_str pa_nil)))) .nil))))
      (pss_one (ps_ret (pv 1)))), ?_⟩
  case refine_1 =>
    refine ⟨fun pins s' σ H' D I h' => ?_⟩
    obtain ⟨Ech, Nx, hW, hN, h1, h2, h3⟩ := h'
    refine wpAny_mono ((pss_one (ps_expr (act W pn xe Ech _ _ tk hW))).run pins s' σ H' { nx := fun _ H2 => Nx H2, rt := D.rt, bk := D.bk, ct := D.ct } I ⟨h1, h2, h3⟩) (fun fl s2 e => ?_) fun _ _ z => z
    cases fl with
    | next =>
      obtain ⟨σ2, H2, I2, q2⟩ := e
      exact ⟨σ2, H2, I2, hN σ2 H2 q2⟩
    | brk => exact e
    | cont => exact e
    | ret u => exact e
  case refine_6 =>
    refine q_asg (l_tup (va_cons val_c va_nil) (by show 1 ≤ 100000; decide) fun t ht => ?_)
    have s1 := Same.new' (o := .tup [.str "none"]) ht
    refine ⟨_, fun _ => False, fun cls d σ' H' e => ?_, fun _ _ z => z.elim, rfl, s1 _ _ hc, (h _ s1 : tl _ _ _)⟩
    obtain ⟨rfl, dd, v, t, rfl, hx, hF, k⟩ := e
    intro hl
    refine ⟨true, T.xBadRowBadRow, And.intro (fun _ a ha => ?_) (fun z => (Bool.false_ne_true z.symm).elim)⟩
    have hl3 : σ'.length = 3 := hl
    have h1 : (σ'.set 2 (some (V.ref a)))[2]? = some (some (V.ref a)) := by
      rw [List.getElem?_set_self (by rw [hl3]; decide)]
    have n1 : Val (tXf a (.ref (fA X.mg "BadRow")) (some dd) (fA X.mg "BadRow") "row" (tVar 2)) (σ'.set 2 (some (V.ref a))) H' v := fun Q q => (val_var h1) _ ⟨rfl, rfl, dd, _, _, rfl, hx, rfl, q⟩
    show tAsg (tTup (tCons (tC (.str "row")) (tCons (tCB (rShow X.K) (tCons (tXf a (.ref (fA X.mg "BadRow")) (some dd) (fA X.mg "BadRow") "row" (tVar 2)) tNil)) tNil))) (gName 1) _ _ _
    refine s_asg1 (l_tup (va_cons val_c (va_cons (v_show n1 hF.1 hF.2.1 hF.2.2.1 hF.2.2.2.1) va_nil)) (by show 2 ≤ 100000; decide) fun p hp => ?_)
    refine st_ret (val_var ?_) (k p _ (Same.new' hp) upd_same)
    rw [List.getElem?_set_ne (by decide), List.getElem?_set_self (by rw [List.length_set, hl3]; decide)]
  all_goals first | exact hq | exact (hu64 (hr (envOfC "_law_fault" (defScope s_law_fault) s.heap.objs.size (fA X.mg "_law_fault") cdg)) :)
theorem shaped2 {a b : Str} (ha : PyData.strOk a = true) (hb : PyData.strOk b = true) : SeqAt.shaped (.tuple [.str a, .str b]) = true := by
  simp [SeqAt.shaped, PyData.canLay0, PyData.canLayAll0, PyData.depth, PyData.depthAll, ha, hb]
theorem eqv2 (a b : Str) : PyData.eqv (.tuple [.str a, .str b]) (.tuple [.str a, .str b]) = true := by
  simp [PyData.eqv, PyData.eqvAll]
theorem dp2 {H : Hp} {p : Addr} {a b : Str} (h : H p = some (.tup [.str a, .str b])) : Dp K H (.ref p) (.tuple [.str a, .str b]) := .tup (SqT.of h) (.cons (.str _) (.cons (.str _) .nil))
/-- _law_fault(lambda: ..) != ("row", repr(x)) -/
theorem fault_ne {S H : Hp} {J : Hp → Prop} {σ : L2.St} {v : V} {r : PyData} {T : List (Addr × Str)} {te : XK → TE} {Q : VK} {i : Nat} (hi : σ[i]? = some (some v)) (nt : NoTab S) (s : L2.Same S H) (hT : LamX.Tabs T H) (fn : fineD r = true)
    (mono : ∀ {H H'}, J H → L2.Same H H' → J H') (hd : ∀ H', J H' → Dh H' v r)
    (h : ∀ (H1 : Hp) (E : XK) (Q1 : VK), L2.Same S H1 → LamX.Tabs T H1 → (∀ H2 w, J H2 → Dh H2 w r → BadRw mg H2 w E) → te E σ H1 Q1) (q : ∀ H2, J H2 → Q (.bl false) H2) :
    tOp (rNeD K) (LamX.tLam T (TTfault K mg) te) (tTup (tCons (tC (.str "row")) (tCons (tCB (rShow K) (tCons (tVar i) tNil)) tNil))) σ H Q := by
  refine op_in ⟨hT, fun H1 x T1 => ?_⟩
  have s1 := ext_same nt s x
  intro H1' s1'
  refine h H1' _ _ (s1.trans s1') (T1.ext s1') fun H2 w j dw dd H3 s3 _ e => ?_
  have j3 := mono j s3
  refine ⟨rfl, dd, w, r, rfl, e, (Dh.same s3 _ _ dw).fine fn, fun p H4 s4 e4 => ?_⟩
  have j4 := mono j3 s4
  have f4 : FineL K H4 v r := (hd H4 j4).fine fn
  refine l_tup (va_cons val_c (va_cons (v_show (val_var hi) f4.1 f4.2.1 f4.2.2.1 f4.2.2.2.1) va_nil)) (by show 2 ≤ 100000; decide) fun b hb => ?_
  have sb := Same.new' (o := .tup [.str "row", .str r.shown]) hb
  exact ⟨_, _, dp2 (sb _ _ e4), dp2 upd_same, shaped2 (by decide +kernel) f4.2.2.2.2, shaped2 (by decide +kernel) f4.2.2.2.2, by rw [eqv2]; exact q _ (mono j4 sb)⟩
/-! ### rooms made of data -/
def seqOf : PyData → Option (List PyData)
  | .list es => some es
  | .tuple es => some es
  | _ => none
instance smDec (n : Nat) (q : Rat) : Decidable (Sm n q) := by unfold Sm; infer_instance
def smR (n : Nat) (p : RP) : Bool := decide (Sm n p.1 ∧ Sm n p.2)
def szA (n : Nat) (ps : List RP) : Bool := decide (n * ps.length + n ≤ 440) && decide (ps.length ≤ 100) && ps.all (smR n)
theorem szA_sz {n : Nat} {ps : List RP} (h : szA n ps = true) : SzP n ps.length ps ∧ ps.length ≤ 100 := by
  unfold szA at h
  simp only [Bool.and_eq_true, decide_eq_true_eq, List.all_eq_true] at h
  exact ⟨⟨h.1.1, fun p hp => of_decide_eq_true (show decide (Sm n p.1 ∧ Sm n p.2) = true from h.2 p hp)⟩, h.1.2⟩
/-- what Room makes of such data: 0 a room; 1 the corners are bad; 2 the holes are no row; i + 3 this hole is bad -/
def rmN (n : Nat) (d e : PyData) : Option Nat :=
  if fitH d = true then (match holeD d with
    | none => some 1
    | some ps => if szA n ps = true then (if goesO ps = true then (match seqOf e with
        | none => some 2
        | some es => if (es.all fitH && decide (es.length ≤ 20) && szA n (allP ps (es.map holeD))) = true then (match failAt ps [] (es.map holeD) with
            | some i => some (i + 3)
            | none => some 0) else none) else some 1) else none) else none
theorem holeL_len {ds : List PyData} {ps : List RP} (h : holeL ds = some ps) : 3 ≤ ds.length := by
  unfold holeL at h
  split at h
  · assumption
  · cases h
theorem hole_no {H : Hp} {v : V} {d : PyData} (h : Dh H v d) (f : fitH d = true) (e : holeD d = none) : NoBd H v := by
  have z := hole_d h f
  rw [e] at z
  exact z
theorem hole_yes {H : Hp} {v : V} {d : PyData} {ps : List RP} (h : Dh H v d) (f : fitH d = true) (e : holeD d = some ps) : ∃ (a : Addr) (xs : List V), v = .ref a ∧ Sq H a xs ∧ All2 (PlR H) xs ps ∧ 3 ≤ xs.length ∧ xs.length ≤ 100 := by
  have z := hole_d h f
  rw [e] at z
  exact z
theorem holes_all {H : Hp} : ∀ {vs : List V} {es : List PyData}, DhAll H vs es → es.all fitH = true → All2 (HoleD H) vs (es.map holeD)
  | _, [], h, _ => by cases h; exact .nil
  | _, d :: ds, h, s => by
    cases h with
    | cons h t =>
      rw [List.all_cons] at s
      obtain ⟨s1, s2⟩ := Bool.and_eq_true_iff.mp s
      exact .cons (hole_d h s1) (holes_all t s2)
theorem dh_at {H : Hp} : ∀ {vs : List V} {es : List PyData} {i : Nat} {w : V} {r : PyData}, DhAll H vs es → vs[i]? = some w → es[i]? = some r → Dh H w r
  | _, [], i, _, _, h, _, e => by simp at e
  | _, d :: ds, 0, _, _, h, e1, e2 => by
    cases h with
    | cons h t =>
      cases e1
      cases e2
      exact h
  | _, d :: ds, i + 1, _, _, h, e1, e2 => by
    cases h with
    | cons h t => exact dh_at t (by simpa using e1) (by simpa using e2)
/-- the holes as they are handed in -/
def HoV (K : PySem.W.Frag) (H : Hp) (u : V) (es : List PyData) : Prop := ∃ (ua : Addr) (us : List V), u = .ref ua ∧ SqK K H ua us ∧ DhAll H us es
theorem HoV.of {H : Hp} {u : V} {e : PyData} {es : List PyData} (h : Dh H u e) (s : seqOf e = some es) : HoV K H u es := by
  cases h with
  | lst a b => cases s; exact ⟨_, _, rfl, .inl (.inl a), b⟩
  | tup a b => cases s; exact ⟨_, _, rfl, .inl (.inr a), b⟩
  | non => cases s
  | bl => cases s
  | int => cases s
  | str => cases s
  | dic => cases s
theorem RoomT.t0 (TR : RoomT K mg) (H : Hp) : TyX K H (.ref (dfl0 K (mA K (rmA mg) "__init__"))) (.type "tuple") := by
  rcases TR.e0 (fun _ => none) with h | ⟨o, its, n, lk, c, _⟩
  · rcases h with h | ⟨o, h⟩ <;> cases h
  · exact .kTuple lk c
theorem hov0 (TR : RoomT K mg) (H : Hp) : HoV K H (.ref (dfl0 K (mA K (rmA mg) "__init__"))) [] := ⟨_, [], rfl, .inr fun H' => ⟨TR.e0 H', TR.t0 H'⟩, .nil⟩
section
variable {H1 : Hp} {v u : V} {d e : PyData} {n : Nat} {Q : VK} {E : XK}
theorem room_same {x dx : Addr} (hx : H1 x = none) (hdx : H1 dx = none) : L2.Same H1 (upd (upd H1 dx (.own x)) x (.ins (rmA mg) dx [])) := fun b o e => by
  rw [upd_ne (ne_of_none e hx), upd_ne (ne_of_none e hdx)]
  exact e
/-- a room's corners, told -/
theorem rm_c (hv : Dh H1 v d) (f : fitH d = true) {ps : List RP} (e1 : holeD d = some ps) (e2 : szA n ps = true) : ∃ (va : Addr) (xs : List V), v = .ref va ∧ Sq H1 va xs ∧ All2 (PlR H1) xs ps ∧ 3 ≤ xs.length ∧ xs.length ≤ 100 ∧ SzP n ps.length ps := by
  obtain ⟨a, xs, h1, h2, h3, h4, h5⟩ := hole_yes hv f e1
  exact ⟨a, xs, h1, h2, h3, h4, h5, (szA_sz e2).1⟩
theorem room_1 {Q' : Addr → VK} (hv : Dh H1 v d) (h : rmN n d e = some 1) (bw : BadRw mg H1 v E) : ∀ x dx, H1 x = none → H1 dx = none → dx ≠ x → spRInit K mg [.ref x, v, u] (upd (upd H1 dx (.own x)) x (.ins (rmA mg) dx [])) (Q' x) E := fun x dx hx hdx ne => by
  refine ⟨x, dx, v, u, H1, rfl, upd_same, hx, room_same hx hdx, ?_⟩
  unfold rmN at h
  split at h
  · rename_i f
    split at h
    · rename_i e1
      exact .inl ⟨hole_no hv f e1, bw⟩
    · rename_i ps e1
      split at h
      · rename_i e2
        split at h
        · exfalso
          split at h
          · cases h
          · split at h
            · split at h <;> cases h
            · cases h
        · rename_i e3
          obtain ⟨va, xs, h1, h2, h3, h4, h5, h6⟩ := rm_c hv f e1 e2
          exact .inr ⟨va, xs, ps, n, h1, h2, h3, h4, h5, h6, .inl ⟨by simpa using e3, bw⟩⟩
      · cases h
  · cases h
theorem room_2 {Q' : Addr → VK} (hv : Dh H1 v d) (hu : Dh H1 u e) (h : rmN n d e = some 2) (bw : BadRw mg H1 u E) : ∀ x dx, H1 x = none → H1 dx = none → dx ≠ x → spRInit K mg [.ref x, v, u] (upd (upd H1 dx (.own x)) x (.ins (rmA mg) dx [])) (Q' x) E := fun x dx hx hdx ne => by
  refine ⟨x, dx, v, u, H1, rfl, upd_same, hx, room_same hx hdx, ?_⟩
  unfold rmN at h
  split at h
  · rename_i f
    split at h
    · cases h
    · rename_i ps e1
      split at h
      · rename_i e2
        split at h
        · rename_i e3
          split at h
          · rename_i e4
            obtain ⟨va, xs, h1, h2, h3, h4, h5, h6⟩ := rm_c hv f e1 e2
            refine .inr ⟨va, xs, ps, n, h1, h2, h3, h4, h5, h6, .inr ⟨e3, .inl ?_⟩⟩
            cases hu with
            | lst a b => cases e4
            | tup a b => cases e4
            | non => exact ⟨_, .non, by decide, by decide, bw⟩
            | bl b => exact ⟨_, .bl b, by decide, by decide, bw⟩
            | int i => exact ⟨_, .int i, by decide, by decide, bw⟩
            | str x => exact ⟨_, .str x, by decide, by decide, bw⟩
            | dic a b => exact ⟨_, .dic a, by decide, by decide, bw⟩
          · exfalso
            split at h
            · split at h <;> cases h
            · cases h
        · cases h
      · cases h
  · cases h
/-- corners that are well, holes that are a row -/
theorem rm_h {es : List PyData} {m : Nat} (hs : seqOf e = some es) (hm : m ≠ 1) (h : rmN n d e = some m) : fitH d = true ∧ ∃ ps, holeD d = some ps ∧ szA n ps = true ∧ goesO ps = true ∧ es.all fitH = true ∧ es.length ≤ 20 ∧ szA n (allP ps (es.map holeD)) = true ∧
    (match failAt ps [] (es.map holeD) with
      | some i => some (i + 3)
      | none => some 0) = some m := by
  unfold rmN at h
  split at h
  · rename_i f
    refine ⟨f, ?_⟩
    split at h
    · cases h
      exact absurd rfl hm
    · rename_i ps e1
      split at h
      · rename_i e2
        split at h
        · rename_i e3
          split at h
          · rename_i e4
            rw [hs] at e4
            cases e4
          · rename_i es' e4
            rw [hs] at e4
            cases e4
            split at h
            · rename_i e5
              simp only [Bool.and_eq_true, decide_eq_true_eq] at e5
              exact ⟨ps, e1, e2, e3, e5.1.1, e5.1.2, e5.2, h⟩
            · cases h
        · cases h
          exact absurd rfl hm
      · cases h
  · cases h
theorem room_3 {Q' : Addr → VK} {es : List PyData} {i : Nat} {r : PyData} (hv : Dh H1 v d) (hs : seqOf e = some es) (hu : HoV K H1 u es) (h : rmN n d e = some (i + 3)) (hr : es[i]? = some r) (bw : ∀ w, Dh H1 w r → BadRw mg H1 w E) : ∀ x dx, H1 x = none → H1 dx = none → dx ≠ x → spRInit K mg [.ref x, v, u] (upd (upd H1 dx (.own x)) x (.ins (rmA mg) dx [])) (Q' x) E := fun x dx hx hdx ne => by
  obtain ⟨f, ps, e1, e2, e3, e4, e5, e6, e7⟩ := rm_h hs (by omega) h
  obtain ⟨va, xs, h1, h2, h3, h4, h5, h6⟩ := rm_c hv f e1 e2
  obtain ⟨ua, us, eu, hk, al⟩ := hu
  have z := szA_sz e6
  refine ⟨x, dx, v, u, H1, rfl, upd_same, hx, room_same hx hdx, .inr ⟨va, xs, ps, n, h1, h2, h3, h4, h5, h6, .inr ⟨e3, .inr ⟨ua, us, es.map holeD, n, eu, hk, holes_all al e4, by rw [dd_len al]; exact e5, z.2, z.1, fun j w hj hf => ?_, fun hf => ?_⟩⟩⟩⟩
  · rw [hf] at e7
    have : j = i := by
      have := Option.some.inj e7
      omega
    subst this
    exact bw w (dh_at al hj hr)
  · rw [hf] at e7
    have := Option.some.inj e7
    omega
theorem room_0 {Q' : Addr → Hp → Prop} {es : List PyData} {ps : List RP} {hs' : List (List RP)} (hv : Dh H1 v d) (hs : seqOf e = some es) (hu : HoV K H1 u es) (h : rmN n d e = some 0) (hp : holeD d = some ps) (hh : (es.map holeD).filterMap id = hs') (k : ∀ x H', L2.Same H1 H' → RoomAt mg H' x ps hs' → Q' x H') : ∀ x dx, H1 x = none → H1 dx = none → dx ≠ x → spRInit K mg [.ref x, v, u] (upd (upd H1 dx (.own x)) x (.ins (rmA mg) dx [])) (fun v H2 => v = .non ∧ Q' x H2) E := fun x dx hx hdx ne => by
  obtain ⟨f, ps', e1, e2, e3, e4, e5, e6, e7⟩ := rm_h hs (by decide) h
  rw [hp] at e1
  cases e1
  obtain ⟨va, xs, h1, h2, h3, h4, h5, h6⟩ := rm_c hv f hp e2
  obtain ⟨ua, us, eu, hk, al⟩ := hu
  have z := szA_sz e6
  refine ⟨x, dx, v, u, H1, rfl, upd_same, hx, room_same hx hdx, .inr ⟨va, xs, ps, n, h1, h2, h3, h4, h5, h6, .inr ⟨e3, .inr ⟨ua, us, es.map holeD, n, eu, hk, holes_all al e4, by rw [dd_len al]; exact e5, z.2, z.1, fun j w hj hf => ?_, fun hf H' s ra => ?_⟩⟩⟩⟩
  · rw [hf] at e7
    have := Option.some.inj e7
    omega
  · rw [hh] at ra
    exact ⟨rfl, k x H' s ra⟩
end
/-! ### data made by terms in which names stand -/
mutual
inductive Mkv (σ : L2.St) (H : Hp) : TE → PyData → Prop
  | of {te : TE} {d : PyData} : Mkd te d → Mkv σ H te d
  | var {i : Nat} {v : V} {d : PyData} : σ[i]? = some (some v) → Dh H v d → Mkv σ H (tVar i) d
  | val {te : TE} {i : Int} : (∀ H', Val te σ H' (.int i)) → Mkv σ H te (.int i)
  | lst {ta : TA} {ds : List PyData} : MkvA σ H ta ds → ds.length ≤ 1000 → Mkv σ H (tLst ta) (.list ds)
  | tup {ta : TA} {ds : List PyData} : MkvA σ H ta ds → ds.length ≤ 1000 → Mkv σ H (tTup ta) (.tuple ds)
inductive MkvA (σ : L2.St) (H : Hp) : TA → List PyData → Prop
  | nil : MkvA σ H tNil []
  | cons {te : TE} {ta : TA} {d : PyData} {ds : List PyData} : Mkv σ H te d → MkvA σ H ta ds → MkvA σ H (tCons te ta) (d :: ds)
end
mutual
theorem em_mkv {σ : L2.St} {H : Hp} {te : TE} {d : PyData} (h : Mkv σ H te d) (H1 : Hp) (s0 : L2.Same H H1) : EM te σ H1 (fun v H' => Dh H' v d) := by
  cases h with
  | of h => exact em_mkd h σ H1
  | var hi h => exact em_val (val_var hi) (Dh.same s0 _ _ h)
  | val h => exact em_val (h H1) (.int _)
  | lst h hl =>
    intro Q q
    have hz : (1000 : Nat) ≤ sizeLine := by decide
    refine l_s (vm_mkv h H1 s0 _ fun vs H2 s1 a1 => ⟨by rw [dd_len a1]; omega, fun l hl0 => ?_⟩)
    have s2 := Same.new' (o := .lst vs) hl0
    exact q _ _ (s1.trans s2) (.lst upd_same (Dh.sameAll s2 _ _ a1))
  | tup h hl =>
    intro Q q
    have hz : (1000 : Nat) ≤ sizeLine := by decide
    refine tt_s (vm_mkv h H1 s0 _ fun vs H2 s1 a1 => ⟨by rw [dd_len a1]; omega, fun l hl0 => ?_⟩)
    have s2 := Same.new' (o := .tup vs) hl0
    exact q _ _ (s1.trans s2) (.tup upd_same (Dh.sameAll s2 _ _ a1))
theorem vm_mkv {σ : L2.St} {H : Hp} {ta : TA} {ds : List PyData} (h : MkvA σ H ta ds) (H1 : Hp) (s0 : L2.Same H H1) : VM ta σ H1 (fun vs H' => DhAll H' vs ds) := by
  cases h with
  | nil => exact fun Q q => q [] H1 (Same.refl H1) .nil
  | cons h t =>
    exact fun Q q => em_mkv h H1 s0 _ fun v H2 s1 d1 => vm_mkv t H2 (s0.trans s1) _ fun vs H3 s2 a2 => q (v :: vs) H3 (s1.trans s2) (.cons (Dh.same s2 _ _ d1) a2)
end
theorem em_catV {σ : L2.St} {H : Hp} {te : TE} {ta : TA} {ds es : List PyData} (h : Mkv σ H te (.list ds)) (k : MkvA σ H ta es) (hl1 : ds.length ≤ 1000) (hl2 : es.length ≤ 1000) (H1 : Hp) (s0 : L2.Same H H1) : EM (tOp rCat te (tLst ta)) σ H1 (fun v H' => Dh H' v (.list (ds ++ es))) := by
  intro Q q
  have hz : (2000 : Nat) ≤ sizeLine := by decide
  refine op_in (em_mkv h H1 s0 _ fun v1 H2 s1 d1 => ?_)
  cases d1 with
  | @lst l1 xs1 _ e1 a1 =>
    refine l_s (vm_mkv k H2 (s0.trans s1) _ fun vs H3 s2 a2 => ⟨by rw [dd_len a2]; omega, fun l hl0 => ?_⟩)
    have s3 := Same.new' (o := .lst vs) hl0
    refine ⟨l1, l, xs1, vs, rfl, rfl, s3 _ _ (s2 _ _ e1), upd_same, by rw [dd_len a1, dd_len a2]; omega, fun p hp => ?_⟩
    have s4 := Same.new' (o := .lst (xs1 ++ vs)) hp
    exact q _ _ (s1.trans (s2.trans (s3.trans s4))) (.lst upd_same (dd_app (Dh.sameAll (s2.trans (s3.trans s4)) _ _ a1) (Dh.sameAll (s3.trans s4) _ _ a2)))
end
end LW

namespace LW
open PySem PySem.Spec PyProof.Rows L2 GL
/-! ### the law's data, decided -/
def pt (i j : Int) : PyData := .tuple [.int i, .int j]
def asT : PyData → PyData
  | .list ds => .tuple ds
  | d => d
def sqL : List PyData := [pt 0 0, pt 6 0, pt 6 6, pt 0 6]
def fiL : List PyData := [pt 1 1, pt 2 1, pt 2 2, pt 1 2]
def oddD : List PyData := [.none, .int 5, .str "ab", .dict [(.int 0, .int 1)], .bool true]
def is (a : Option Nat) (n : Nat) : Bool := match a with
  | some k => decide (k = n)
  | none => false
theorem is_eq {a : Option Nat} {n : Nat} (h : is a n = true) : a = some n := by
  unfold is at h
  split at h
  · rw [of_decide_eq_true h]
  · cases h
def turns2 (ds : List PyData) (f : List PyData → Bool) : Bool := (List.range ds.length).all fun k => f (turnM ds k true) && f (turnM ds k false)
theorem turns2_at {ds : List PyData} {f : List PyData → Bool} (h : turns2 ds f = true) {k : Nat} (hk : k < ds.length) (b : Bool) : f (turnM ds k b) = true := by
  unfold turns2 at h
  rw [List.all_eq_true] at h
  have z := Bool.and_eq_true_iff.mp (h k (List.mem_range.mpr hk))
  cases b
  · exact z.2
  · exact z.1
theorem all_mem {α : Type} {l : List α} {f : α → Bool} (h : l.all f = true) {x : α} (hx : x ∈ l) : f x = true := List.all_eq_true.mp h x hx
theorem f_rows : (roD.all fun d => is (rmN 5 d .none) 1 && is (rmN 5 (asT d) .none) 1 && fineD d && fineD (asT d)) = true := by decide +kernel
theorem f_odd : (oddD.all fun e => is (rmN 5 (.list sqL) e) 2 && fineD e) = true := by decide +kernel
theorem f_hole : (hoD.all fun h => is (rmN 5 (.list sqL) (.list [.list fiL, h])) 4 && fineD h) = true := by decide +kernel
theorem f_turned : (turns2 sqL fun s => hoD.all fun h => hoD.all fun h2 => is (rmN 5 (.list s) (.tuple [.list fiL.reverse, h, h2])) 4) = true := by decide +kernel
theorem f_cross : (crD.all fun d => match d with | .list ds => (turns2 ds fun x => is (rmN 5 (.list x) .none) 1 && fineD (.list x)) | _ => false) = true := by decide +kernel
def noL : List PyData := [pt 0 0, pt 2 0, pt 2 2, pt 4 2, pt 4 0, pt 6 0, pt 6 6, pt 0 6]
def pq (x y : PyData) : PyData := .tuple [x, y]
def baL : List PyData := [pt 1 1, pt 5 1, pq (.int 5) (pt 3 2), pq (.int 1) (pt 3 2)]
def otL : List PyData := [pq (.int 2) (pt 1 2), pq (.int 3) (pt 1 2), pt 3 5, pt 2 5]
theorem f_bar : (turns2 baL fun x => is (rmN 5 (.list noL) (.list [.list x])) 3 && fineD (.list x)) = true := by decide +kernel
theorem f_other : (turns2 baL fun x => turns2 otL fun y => is (rmN 5 (.list sqL) (.list [.list x, .list y])) 4 && fineD (.list y)) = true := by decide +kernel
def goL : List PyData := [pt 4 4, pt 5 4, pt 5 5]
def n1L : List PyData := [pt 5 5, pq (pt 11 2) (.int 5), pq (pt 11 2) (pt 11 2)]
def n2L : List PyData := [pt 5 4, pq (pt 11 2) (.int 4), pt 5 3]
def neaD : List PyData := [.list n1L, .list n2L]
def botD : List PyData := [.list [.list fiL, .list goL], .list [.list goL, .list fiL]]
theorem f_near : (neaD.all fun x => (botD.all fun b => match b with | .list ds => is (rmN 5 (.list sqL) (.list (ds ++ [x]))) 5 | _ => false) && fineD x) = true := by decide +kernel
def maL : List PyData := [pt 0 0, pt 9 0, pt 9 9, pt 0 9]
def wiL : List PyData := [.list [pt 1 1, pt 2 1, pt 1 2], .list [pt 5 5, pt 6 5, pt 5 6], .list [pt 7 1, pt 8 1, pt 7 2]]
theorem f_many : rmN 5 (.list maL) (.list wiL) = some 0 ∧ holeD (.list maL) = some maD ∧ (wiL.map holeD).filterMap id = wiD := by decide +kernel
theorem f_both : (rmN 5 (.list sqL) (.list [.list fiL, .list goL]) = some 0 ∧ ([PyData.list fiL, .list goL].map holeD).filterMap id = [fiD, goD]) ∧ (rmN 5 (.list sqL) (.list [.list goL, .list fiL]) = some 0 ∧ ([PyData.list goL, .list fiL].map holeD).filterMap id = [goD, fiD]) ∧ holeD (.list sqL) = some sqD := by decide +kernel
def neL : List PyData := [pq (pt 2000000001 1000000000) (.int 2), pt 3 2, pt 3 3]
theorem f_nearly : rmN 32 (.list sqL) (.list [.list fiL, .list neL]) = some 0 ∧ ([PyData.list fiL, .list neL].map holeD).filterMap id = [fiD, neD] := by decide +kernel
def clL : List PyData := [pt 0 0, pt 4 0, pt 4 4, pq (.int 2) (pt 1 1000000000), pt 0 4]
theorem f_close : rmN 32 (.list clL) (.tuple []) = some 0 ∧ holeD (.list clL) = some clD := by decide +kernel
def coL : List PyData := [pt 0 0, pt 1 0, pt 1 1, pt 2 1, pt 2 0, pt 3 0, pt 3 3, pt 0 3]
theorem f_comb : rmN 5 (.list coL) (.tuple []) = some 0 ∧ holeD (.list coL) = some coD := by decide +kernel
/-! ### what rooms are asked -/
def arOk (n : Nat) (ps : List RP) (hs : List (List RP)) : Bool := (ps :: hs).all (fun r => decide (2 ≤ r.length) && szA n r) && (List.range (hs.length + 1)).all (fun k => decide (Sm 1000 (areaM ps (hs.take k)))) && hs.all fun r => decide (Sm 1000 (arR r))
theorem arOk_of {n : Nat} {ps : List RP} {hs : List (List RP)} (h : arOk n ps hs = true) : (∀ r ∈ ps :: hs, 2 ≤ r.length ∧ r.length ≤ 100 ∧ SzP n r.length r) ∧ (∀ k, Sm 1000 (areaM ps (hs.take k))) ∧ (∀ r ∈ hs, Sm 1000 (arR r)) := by
  unfold arOk at h
  simp only [Bool.and_eq_true] at h
  obtain ⟨⟨h1, h2⟩, h3⟩ := h
  refine ⟨fun r hr => ?_, fun k => ?_, fun r hr => of_decide_eq_true (List.all_eq_true.mp h3 r hr)⟩
  · have z := List.all_eq_true.mp h1 r hr
    simp only [Bool.and_eq_true, decide_eq_true_eq] at z
    have y := szA_sz z.2
    exact ⟨z.1, y.2, y.1⟩
  · by_cases q : k ≤ hs.length
    · exact of_decide_eq_true (List.all_eq_true.mp h2 k (List.mem_range.mpr (by omega)))
    · have e : hs.take k = hs.take hs.length := by rw [List.take_of_length_le (by omega), List.take_length]
      rw [e]
      exact of_decide_eq_true (List.all_eq_true.mp h2 hs.length (List.mem_range.mpr (by omega)))
def haOk (n : Nat) (p : RP) (ps : List RP) (hs : List (List RP)) : Bool := (ps :: hs).all (fun r => decide (2 ≤ r.length)) && decide (hs.length ≤ 50) && szA n ([p] :: ps :: hs).flatten
theorem haOk_of {n : Nat} {p : RP} {ps : List RP} {hs : List (List RP)} (h : haOk n p ps hs = true) : (∀ r ∈ ps :: hs, 2 ≤ r.length) ∧ ([p] :: ps :: hs).flatten.length ≤ 100 ∧ hs.length ≤ 50 ∧ SzP n ([p] :: ps :: hs).flatten.length ([p] :: ps :: hs).flatten := by
  unfold haOk at h
  simp only [Bool.and_eq_true, decide_eq_true_eq] at h
  obtain ⟨⟨h1, h2⟩, h3⟩ := h
  have y := szA_sz h3
  exact ⟨fun r hr => of_decide_eq_true (List.all_eq_true.mp h1 r hr), y.2, h2, y.1⟩
theorem g_area : arOk 5 maD wiD = true ∧ arOk 5 sqD [fiD, goD] = true ∧ arOk 5 sqD [goD, fiD] = true ∧ arOk 32 sqD [fiD, neD] = true ∧ arOk 5 coD [] = true := by decide +kernel
theorem g_has : haOk 5 (5 / 4, 5 / 4) maD wiD = true ∧ haOk 5 (3, 3) maD wiD = true ∧ haOk 5 (29 / 4, 5 / 4) maD wiD = true ∧ haOk 5 (21 / 4, 21 / 4) maD wiD = true ∧ haOk 32 (2, 0) clD [] = true ∧ haOk 32 (2, 2 / 10 ^ 9) clD [] = true ∧ haOk 5 (3 / 2, 0) coD [] = true ∧ haOk 5 (3 / 2, 1) coD [] = true := by decide +kernel
end LW

namespace LW
open PySem PySem.Spec PyProof.Rows L2 GL
section
variable {P : Program} {w : World} {K : PySem.W.Frag} {mg : Str → Option Value} {base : Heap}
theorem lam_memT {P : Addr} {q r l : Str} {T : List (Addr × Str)} (hm : (P, r ++ l) ∈ T) (h : q = r) : (P, q ++ l) ∈ T := by rw [h]; exact hm
theorem lam_onlyT {P : Addr} {q r l : Str} {T : List (Addr × Str)} (ho : ∀ p ∈ T, p.1 = P → p.2 = r ++ l) (h : q = r) : ∀ p ∈ T, p.1 = P → p.2 = q ++ l := by rw [h]; exact ho
mutual
theorem Dh.bare {H : Hp} : ∀ (d : PyData) (v : V), Dh H v d → Dh (bareH H) v d
  | .none, _, h => by cases h; exact .non
  | .bool _, _, h => by cases h; exact .bl _
  | .int _, _, h => by cases h; exact .int _
  | .str _, _, h => by cases h; exact .str _
  | .list ds, _, h => by
    cases h with
    | lst a b => exact .lst (bare_at a fun _ z => by cases z) (Dh.bareA ds _ b)
  | .tuple ds, _, h => by
    cases h with
    | tup a b => exact .tup (bare_at a fun _ z => by cases z) (Dh.bareA ds _ b)
  | .dict ps, _, h => by
    cases h with
    | dic a b => exact .dic (bare_at a fun _ z => by cases z) (Dh.bareK ps _ b)
theorem Dh.bareA {H : Hp} : ∀ (ds : List PyData) (vs : List V), DhAll H vs ds → DhAll (bareH H) vs ds
  | [], _, h => by cases h; exact .nil
  | d :: ds, _, h => by
    cases h with
    | cons h t => exact .cons (Dh.bare d _ h) (Dh.bareA ds _ t)
theorem Dh.bareK {H : Hp} : ∀ (ps : List (PyData × PyData)) (kvs : List (Key × V)), DhKv H kvs ps → DhKv (bareH H) kvs ps
  | [], _, h => by cases h; exact .nil
  | (_, d) :: ps, _, h => by
    cases h with
    | cons h t => exact .cons (Dh.bare d _ h) (Dh.bareK ps _ t)
end
theorem smDA_mem : ∀ {ds : List PyData} {d : PyData}, smDA ds = true → d ∈ ds → smD d = true
  | _ :: _, _, h, m => by
    obtain ⟨h1, h2⟩ := Bool.and_eq_true_iff.mp h
    rcases List.mem_cons.mp m with rfl | m
    · exact h1
    · exact smDA_mem h2 m
theorem dh_mem {H : Hp} : ∀ {vs : List V} {ds : List PyData} {v : V}, DhAll H vs ds → v ∈ vs → ∃ d ∈ ds, Dh H v d
  | _, [], _, h, m => by cases h; cases m
  | _, d :: ds, _, h, m => by
    cases h with
    | cons h t =>
      rcases List.mem_cons.mp m with rfl | m
      · exact ⟨d, List.mem_cons_self .., h⟩
      · obtain ⟨e, he, z⟩ := dh_mem t m
        exact ⟨e, List.mem_cons_of_mem _ he, z⟩
theorem Dh.butP {H H' : Hp} {p c : Addr} {m : Nat} {v : V} {d : PyData} (h : Dh H v d) (s : smD d = true) (P : PenAt H p c m) (b : But p H H') : Dh H' v d := by
  obtain ⟨a, e, n, f, ns, hp, _⟩ := P
  exact Dh.but hp b d v s h
/-- a drawn item of a list of data -/
theorem l_pickD {σ : L2.St} {H : Hp} {i m : Nat} {p c : Addr} {te : TE} {ds : List PyData} {Q : VK} (hi : σ[i]? = some (some (.ref p))) (P : PenAt H p c m) (hm : m < most) (sm : smDA ds = true) (h1 : 0 < ds.length) (h2 : ds.length ≤ 100)
    (h : EM te σ H (fun v H' => ∃ l, v = .ref l ∧ LsD H' l ds)) (q : ∀ v d H', d ∈ ds → But p H H' → PenAt H' p c (m + 1) → Dh H' v d → Q v H') : tCall (spPick K) [] E0 (tCons (tVar i) (tCons te tNil)) σ H Q := by
  refine call_two ((val_var hi) _ (h _ fun v H1 s1 ⟨l, e, vs, el, al⟩ => ?_))
  subst e
  have lv := dd_len al
  refine ⟨p, c, l, vs, m, rfl, P.same s1, hm, SqL.of el, by omega, by omega, fun v H' hv b P' => ?_⟩
  obtain ⟨d, hd, dv⟩ := dh_mem al hv
  exact q v d H' hd ((But.of s1).trans b) P' (dv.butP (smDA_mem sm hd) (P.same s1) b)
theorem em_data {σ : L2.St} {H : Hp} {ds : List PyData} : EM (tCall (spData ds) [] E0 tNil) σ H (fun v H' => ∃ l, v = .ref l ∧ LsD H' l ds) := fun Q q => call_0 ⟨rfl, fun l H' s ld => q _ _ s ⟨l, rfl, ld⟩⟩
theorem em_lsv {σ : L2.St} {H : Hp} {ta : TA} {ds : List PyData} (h : MkvA σ H ta ds) (hl : ds.length ≤ 1000) : EM (tLst ta) σ H (fun v H' => ∃ l, v = .ref l ∧ LsD H' l ds) := fun Q q => em_mkv (.lst h hl) H (Same.refl H) Q fun v H' s d => by
  cases d with
  | lst a b => exact q _ _ s ⟨_, rfl, _, a, b⟩
/-- a row turned by the pen -/
theorem l_turn {H : Hp} {m : Nat} {p c : Addr} {v : V} {ds : List PyData} {Q : VK} (P : PenAt H p c m) (hm : m + 2 < most) (dv : Dh H v (.list ds)) (sm : smDA ds = true) (h1 : 1 ≤ ds.length) (h2 : ds.length ≤ 100)
    (q : ∀ v' H' k b, k < ds.length → But p H H' → PenAt H' p c (m + 2) → Dh H' v' (.list (turnM ds k b)) → Q v' H') : spTurnR [.ref p, v] H Q E0 := by
  cases dv with
  | lst e al => exact ⟨p, c, _, m, ds, rfl, P, hm, ⟨_, e, al⟩, sm, h1, h2, fun l' H' k b hk bt P' ⟨vs, e2, a2⟩ => q _ H' k b hk bt P' (.lst e2 a2)⟩
theorem f_len : (crD.all fun d => match d with | .list ds => decide (1 ≤ ds.length) && decide (ds.length ≤ 100) && smDA ds | _ => false) = true := by decide +kernel
theorem cross_at {d : PyData} (h : d ∈ crD) : ∃ ds, d = .list ds ∧ 1 ≤ ds.length ∧ ds.length ≤ 100 ∧ smDA ds = true ∧ ∀ k b, k < ds.length → rmN 5 (.list (turnM ds k b)) .none = some 1 ∧ fineD (.list (turnM ds k b)) = true := by
  have z := all_mem f_len h
  have y := all_mem f_cross h
  cases d with
  | list ds =>
    simp only [Bool.and_eq_true, decide_eq_true_eq] at z
    refine ⟨ds, rfl, z.1.1, z.1.2, z.2, fun k b hk => ?_⟩
    have x := turns2_at y hk b
    simp only [Bool.and_eq_true] at x
    exact ⟨is_eq x.1, x.2⟩
  | _ => cases z
/-- Room(x) -/
theorem q_room {K : PySem.W.Frag} {σ : L2.St} {H1 : Hp} {v u : V} {t : TA} {dvs : List V} {Q : VK} {E : XK} {vs : List V} (ht : VA t σ H1 vs) (hv : vs ++ dvs = [v, u]) (k : ∀ x dx, H1 x = none → H1 dx = none → dx ≠ x → spRInit K mg [.ref x, v, u] (upd (upd H1 dx (.own x)) x (.ins (rmA mg) dx [])) (fun v H2 => v = .non ∧ Q (.ref x) H2) E) :
    tMake (rmA mg) (spRInit K mg) dvs E t σ H1 Q := ht _ fun x dx hx hdx ne => by
  rw [hv]
  exact k x dx hx hdx ne
theorem q_room2 {K : PySem.W.Frag} {σ : L2.St} {H1 : Hp} {v : V} {e : PyData} {t1 t2 : TE} {Q : VK} {E : XK} (h1 : Val t1 σ H1 v) (h2 : EM t2 σ H1 (fun u H' => Dh H' u e)) (k : ∀ u H2, L2.Same H1 H2 → Dh H2 u e → ∀ x dx, H2 x = none → H2 dx = none → dx ≠ x → spRInit K mg [.ref x, v, u] (upd (upd H2 dx (.own x)) x (.ins (rmA mg) dx [])) (fun v H2 => v = .non ∧ Q (.ref x) H2) E) :
    tMake (rmA mg) (spRInit K mg) [] E (tCons t1 (tCons t2 tNil)) σ H1 Q := h1 _ (h2 _ fun u H2 s d => k u H2 s d)
theorem q_room3 {K : PySem.W.Frag} {σ : L2.St} {H1 : Hp} {d e : PyData} {t1 t2 : TE} {Q : VK} {E : XK} (h1 : EM t1 σ H1 (fun u H' => Dh H' u d)) (h2 : ∀ H2, L2.Same H1 H2 → EM t2 σ H2 (fun u H' => Dh H' u e)) (k : ∀ v u H2, L2.Same H1 H2 → Dh H2 v d → Dh H2 u e → ∀ x dx, H2 x = none → H2 dx = none → dx ≠ x → spRInit K mg [.ref x, v, u] (upd (upd H2 dx (.own x)) x (.ins (rmA mg) dx [])) (fun v H2 => v = .non ∧ Q (.ref x) H2) E) :
    tMake (rmA mg) (spRInit K mg) [] E (tCons t1 (tCons t2 tNil)) σ H1 Q := h1 _ fun v H2 s d1 => h2 H2 s _ fun u H3 s3 d2 => k v u H3 (s.trans s3) (Dh.same s3 _ _ d1) d2
theorem q_roomD {K : PySem.W.Frag} {σ : L2.St} {H1 : Hp} {u : V} {d : PyData} {t1 : TE} {Q : VK} {E : XK} (h1 : EM t1 σ H1 (fun u H' => Dh H' u d)) (k : ∀ v H2, L2.Same H1 H2 → Dh H2 v d → ∀ x dx, H2 x = none → H2 dx = none → dx ≠ x → spRInit K mg [.ref x, v, u] (upd (upd H2 dx (.own x)) x (.ins (rmA mg) dx [])) (fun v H2 => v = .non ∧ Q (.ref x) H2) E) :
    tMake (rmA mg) (spRInit K mg) [u] E (tCons t1 tNil) σ H1 Q := h1 _ fun v H2 s d1 => k v H2 s d1
theorem q_roomN {K : PySem.W.Frag} {σ : L2.St} {H1 : Hp} {v : V} {e : PyData} {t1 t2 : TE} {Q : VK} {E : XK} (h1 : Val t1 σ H1 v) (h2 : EM t2 σ H1 (fun u H' => Dh H' u e)) (k : ∀ u H2, L2.Same H1 H2 → Dh H2 u e → ∀ x dx, H2 x = none → H2 dx = none → dx ≠ x → spRInit K mg [.ref x, v, u] (upd (upd H2 dx (.own x)) x (.ins (rmA mg) dx [])) (fun v H2 => v = .non ∧ Q (.ref x) H2) E) :
    tMakeN (rmA mg) 1 (["holes"] : List Str).length (spRInit K mg) (fun vs zs => vs ++ zs) E (tCons t1 tNil) (tCons t2 tNil) σ H1 Q := h1 _ (h2 _ fun u H2 s d => ⟨rfl, rfl, k u H2 s d⟩)
theorem RoomAt.same {H H' : Hp} {a : Addr} {ps : List RP} {hs : List (List RP)} (h : RoomAt mg H a ps hs) (s : L2.Same H H') : RoomAt mg H' a ps hs := by
  obtain ⟨dx, c, h', s', ts, zs, eA, tc, eh, ah, es, lz⟩ := h
  exact ⟨dx, c, h', s', ts, zs, s _ _ eA, tc.same s, s _ _ eh, ah.imp fun _ _ z => z.same s, s _ _ es, lz⟩
theorem lk_area {s h c : Addr} : (putF "sides" (V.ref s) (putF "holes" (.ref h) (putF "corners" (V.ref c) []))).lookup ("area" : Str) = none := by
  rw [lookup_putF, if_neg (by decide +kernel), lookup_putF, if_neg (by decide +kernel), lookup_putF, if_neg (by decide +kernel)]
  rfl
theorem lk_has {s h c : Addr} : (putF "sides" (V.ref s) (putF "holes" (.ref h) (putF "corners" (V.ref c) []))).lookup ("has" : Str) = none := by
  rw [lookup_putF, if_neg (by decide +kernel), lookup_putF, if_neg (by decide +kernel), lookup_putF, if_neg (by decide +kernel)]
  rfl
theorem area_k {σ : L2.St} {H : Hp} {a : Addr} {ps : List RP} {hs : List (List RP)} {n : Nat} {Q : VK} {E : XK} {i : Int} {j : Nat} (ra : RoomAt mg H a ps hs) (ok : arOk n ps hs = true) (e : (areaM ps hs).num = i ∧ (areaM ps hs).den = j) (k : ∀ p H', L2.Same H H' → H' p = some (.tup [.int i, .int (j : Int)]) → Q (.ref p) H') :
    ∃ a' dx fs, (V.ref a) = .ref a' ∧ H a' = some (.ins (rmA mg) dx fs) ∧ fs.lookup ("area" : Str) = none ∧ tNil σ H fun vs H2 => spRArea mg (.ref a :: (vs ++ [])) H2 Q E := by
  have ra0 := ra
  obtain ⟨dx, c, h', s', ts, zs, eA, _⟩ := ra
  obtain ⟨o1, o2, o3⟩ := arOk_of ok
  refine ⟨a, dx, _, rfl, eA, lk_area, a, ps, hs, n, rfl, ra0, o1, o2, o3, fun p H' s lo => k p H' s ?_⟩
  rw [← e.1, ← e.2]
  exact lo
theorem has_k {σ : L2.St} {H : Hp} {a : Addr} {ps : List RP} {hs : List (List RP)} {n : Nat} {p : RP} {d : PyData} {t1 : TE} {Q : VK} {E : XK} {b : Bool} (ra : RoomAt mg H a ps hs) (h1 : EM t1 σ H (fun v H' => Dh H' v d)) (f : fitP d = true ∧ placeD d = some p) (ok : haOk n p ps hs = true) (e : hasM p ps hs = b) (k : ∀ H', L2.Same H H' → Q (.bl b) H') :
    ∃ a' dx fs, (V.ref a) = .ref a' ∧ H a' = some (.ins (rmA mg) dx fs) ∧ fs.lookup ("has" : Str) = none ∧ tCons t1 tNil σ H fun vs H2 => spRHas mg (.ref a :: (vs ++ [])) H2 Q E := by
  have ra0 := ra
  obtain ⟨dx, c, h', s', ts, zs, eA, _⟩ := ra
  obtain ⟨o1, o2, o3, o4⟩ := haOk_of ok
  refine ⟨a, dx, _, rfl, eA, lk_has, h1 _ fun v H2 s2 dv => ⟨a, v, p, ps, hs, n, rfl, ra0.same s2, place_r dv f.1 f.2, o1, o2, o3, o4, fun H' s => ?_⟩⟩
  rw [e]
  exact k H' (s2.trans s)
theorem tup_4 {t1 t2 t3 t4 : TE} {σ : L2.St} {H : Hp} {Q : VK} (h : t1 σ H fun v H1 => t2 σ H1 fun w H2 => t3 σ H2 fun z H3 => t4 σ H3 fun y H4 => 4 ≤ sizeLine ∧ ∀ q, H4 q = none → Q (.ref q) (upd H4 q (.tup [v, w, z, y]))) : tTup (tCons t1 (tCons t2 (tCons t3 (tCons t4 tNil)))) σ H Q := h
theorem mth_in {C : Addr} {m : Str} {sp : Sp} {dvs : List V} {E : XK} {ta : TE} {t : TA} {σ : L2.St} {H : Hp} {Q : VK} (h : ta σ H fun x H1 => ∃ a dx fs, x = .ref a ∧ H1 a = some (.ins C dx fs) ∧ fs.lookup m = none ∧ t σ H1 fun vs H2 => sp (x :: (vs ++ dvs)) H2 Q E) : tMeth C m sp dvs E ta t σ H Q := h
theorem b_in {te : TE} {σ : L2.St} {H : Hp} {Q : Bool → Hp → Prop} (h : te σ H fun v H1 => ∃ b, v = .bl b ∧ Q b H1) : tB te σ H Q := h
theorem noBr_at {k : Nat} {b : Bool} (hk : k < baL.length) : rmN 5 (.list noL) (.list [.list (turnM baL k b)]) = some 3 ∧ fineD (.list (turnM baL k b)) = true := by
  have x := turns2_at f_bar hk b
  simp only [Bool.and_eq_true] at x
  exact ⟨is_eq x.1, x.2⟩
theorem other_at {k l : Nat} {b c : Bool} (hk : k < baL.length) (hl : l < otL.length) : rmN 5 (.list sqL) (.list [.list (turnM baL k b), .list (turnM otL l c)]) = some 4 ∧ fineD (.list (turnM otL l c)) = true := by
  have x := turns2_at (turns2_at f_other hk b) hl c
  simp only [Bool.and_eq_true] at x
  exact ⟨is_eq x.1, x.2⟩
theorem near_at {x b : PyData} (hx : x ∈ neaD) (hb : b ∈ botD) : (∃ ds, b = .list ds ∧ ds.length = 2 ∧ rmN 5 (.list sqL) (.list (ds ++ [x])) = some 5) ∧ fineD x = true := by
  have z := all_mem f_near hx
  simp only [Bool.and_eq_true] at z
  have y := all_mem z.1 hb
  refine ⟨?_, z.2⟩
  unfold botD at hb
  simp only [List.mem_cons, List.not_mem_nil, or_false] at hb
  rcases hb with rfl | rfl
  · exact ⟨_, rfl, rfl, is_eq y⟩
  · exact ⟨_, rfl, rfl, is_eq y⟩
theorem ne_data {K : PySem.W.Frag} {H : Hp} {x y : V} {d : PyData} {Q : VK} (h1 : Dp K H x d) (h2 : Dp K H y d) (s : SeqAt.shaped d = true) (e : PyData.eqv d d = true) (q : Q (.bl false) H) : rNeD K x y H Q := ⟨d, d, h1, h2, s, s, by rw [e]; exact q⟩
theorem eq_data {K : PySem.W.Frag} {H : Hp} {x y : V} {d : PyData} {Q : VK} (h1 : Dp K H x d) (h2 : Dp K H y d) (s : SeqAt.shaped d = true) (e : PyData.eqv d d = true) (q : Q (.bl true) H) : rEqD K x y H Q := ⟨d, d, h1, h2, s, s, by rw [e]; exact q⟩
theorem dp_pair {K : PySem.W.Frag} {H : Hp} {a : Addr} {i j : Int} (h : H a = some (.tup [.int i, .int j])) : Dp K H (.ref a) (.tuple [.int i, .int j]) := .tup (SqT.of h) (.cons (.int _) (.cons (.int _) .nil))
theorem dp_four {K : PySem.W.Frag} {H : Hp} {a b : Addr} {i j k : Int} {x y : Bool} (e : H a = some (.tup [.ref b, .int k, .bl x, .bl y])) (h : H b = some (.tup [.int i, .int j])) : Dp K H (.ref a) (.tuple [.tuple [.int i, .int j], .int k, .bool x, .bool y]) := .tup (SqT.of e) (.cons (dp_pair h) (.cons (.int _) (.cons (.bl _) (.cons (.bl _) .nil))))
theorem both_at {b : PyData} (hb : b ∈ botD) : (∃ hs, rmN 5 (.list sqL) b = some 0 ∧ (∃ ds, b = .list ds ∧ (ds.map holeD).filterMap id = hs) ∧ arOk 5 sqD hs = true ∧ (areaM sqD hs).num = 69 ∧ (areaM sqD hs).den = 2) ∧ fineD b = true := by
  unfold botD at hb
  simp only [List.mem_cons, List.not_mem_nil, or_false] at hb
  rcases hb with rfl | rfl
  · exact ⟨⟨[fiD, goD], f_both.1.1, ⟨_, rfl, f_both.1.2⟩, g_area.2.1, by decide +kernel⟩, by decide +kernel⟩
  · exact ⟨⟨[goD, fiD], f_both.2.1.1, ⟨_, rfl, f_both.2.1.2⟩, g_area.2.2.1, by decide +kernel⟩, by decide +kernel⟩
theorem q_seqIf {t : TT} {t1 tz : TS} {D : Ends} {σ : L2.St} {H : Hp} (h : t σ H fun b H1 => if b = true then t1 { D with nx := tz D } σ H1 else tz D σ H1) : tSeq (tIfS t t1 tNext) tz D σ H := h
def spCross (Tb : List (Addr × Str)) : Sp := fun vs H Q _ => ∃ (p c : Addr) (m : Nat) (sv fv : V), vs = [.ref p, sv, fv] ∧ PenAt H p c m ∧ m + 20 < most ∧ LamX.Tabs Tb H ∧ Dh H sv (.list sqL) ∧ Dh H fv (.list fiL) ∧ ∀ H', Dh H' sv (.list sqL) → Dh H' fv (.list fiL) → PenAt H' p c (m + 20) → LamX.Tabs Tb H' → Q (.bl true) H'
theorem ok_law_crossings_right (T : Txt K mg) (TR : RoomT K mg) (TM : RoomM K mg) {cC cP : Addr} {Tb : List (Addr × Str)} (TB : LamX.TabB base mg cC cP) (hcC : (fDat K (fA mg "_law_crossings_right")).code = .ref cC) (hTm : (cP, (("_law_crossings_right" : Str) ++ (".<locals>." : Str)) ++ ("<lambda>" : Str)) ∈ Tb) (hTo : ∀ p ∈ Tb, p.1 = cP → p.2 = (("_law_crossings_right" : Str) ++ (".<locals>." : Str)) ++ ("<lambda>" : Str)) :
    OkG P w K mg base CX0 16 (fA mg "_law_crossings_right") (fDat K (fA mg "_law_crossings_right")) ["_law_pen_here", "_law_square", "_law_first"] (spCross Tb) := by
  have G_law_draw := ok_draw (P := P) (w := w) (base := base) T._law_draw.F T
  have G_law_pick := ok_pick (P := P) (w := w) (base := base) T
  have G_law_crossed_rows := ok_law_crossed_rows (P := P) (w := w) (base := base) T
  have G_law_turned_row := ok_law_turned_row (P := P) (w := w) (base := base) T
  have GRoom_init := ok_Room_init (P := P) (w := w) (base := base) T TR
  have GRoom_area := ok_Room_area (P := P) (w := w) (base := base) T TR TM
  have GRoom_has := ok_Room_has (P := P) (w := w) (base := base) T TR TM
  obtain ⟨oc, od, kw0, doc, pm, an, cdw, ct, osl, efd, lk, hcg⟩ := T._law_fault.F.ex
  have lk' := efd ▸ lk
  have b' := efd ▸ T._law_fault.b
  obtain ⟨dsv, hds, hb2⟩ := TR.b2
  refine okGc T._law_crossings_right.F hcC sc_law_crossings_right (fun vs H Q E h => ?_) (fun A outer s H vs Q E hr hq h => ?_)
  · obtain ⟨p, c, m, sv, fv, rfl, _⟩ := h
    rfl
  obtain ⟨p, c, m, sv, fv, rfl, P0, hm, T0, dS, dF, k⟩ := h
  refine ⟨_, (pss_cons (ps_set (i := 3) sc_law_crossings_right.nd rfl (Or.inr rfl) (pe_c T._law_turned_row G_law_turned_row (hr.mono (by decide)) (pa_cons (pv 0) (pa_cons (pe_c T._law_pick G_law_pick (hr.mono (by decide)) (pa_cons (pv 0) (pa_cons (pe_c0 T._law_crossed_rows G_law_crossed_rows (hr.mono (by decide))) pa_nil))) pa_nil))))
  (pss_cons (ps_if (pt_cmpR (op_neD (hu64 hr)) (LamX.pe_lamcall (T := Tb) (TT := TTfault K mg) (x := "_law_fault") (a := "_law_call") (g := fA mg "_law_fault") (c := cC) (P := cP) (k := 12) (Ng := ["_law_call", "_law_told", "error"]) (t := fun E => tMake (rmA mg) (spRInit K mg) [.ref (dfl0 K (mA K (rmA mg) "__init__"))] E (tCons (tVar 3) tNil))
     (by rfl) T._law_fault.g T._law_fault.F.kp lk' hcg b' sc_law_fault rfl (.inl rfl) (fault_gives T hq fun e => (hr.mono (by decide) : Room 2 _).deeper e) TB rfl (lam_memT hTm (by rfl)) (lam_onlyT hTo (by rfl)) (hr.mono (by decide)) (LamX.lamS_by (show LamX.lamSB (defScope s_law_crossings_right) _ = true from by decide +kernel)) rfl (fun _ _ _ _ _ => rfl)
     (fun A outer s H E f c' hr => (pe_make TR.mkc GRoom_init (hr.mono (by decide)) (by rfl) TR.g hb2 hds (passes_call (takes_of rfl rfl rfl rfl) (fun _ _ _ _ h => h)) (pa_cons (pv 3) pa_nil)))) (pe_tup (pa_cons pe_str (pa_cons (pe_callB (id := "repr") (show CallR _ _ (rShow K) from call_show hq (hu64 hr)) (by rfl) T.repr (by decide +kernel) (pa_cons (pv 3) pa_nil)) pa_nil))) (nomark _)) (pss_one (ps_ret pe_bl)) pss_nil)
  (pss_cons (ps_set (i := 4) sc_law_crossings_right.nd rfl (Or.inr rfl) (pe_lst (pa_cons (pe_tup (pa_cons pe_int (pa_cons pe_int pa_nil))) (pa_cons (pe_tup (pa_cons pe_int (pa_cons pe_int pa_nil))) (pa_cons (pe_tup (pa_cons pe_int (pa_cons pe_int pa_nil))) (pa_cons (pe_tup (pa_cons pe_int (pa_cons pe_int pa_nil))) (pa_cons (pe_tup (pa_cons pe_int (pa_cons pe_int pa_nil))) (pa_cons (pe_tup (pa_cons pe_int (pa_cons pe_int pa_nil))) (pa_cons (pe_tup (pa_cons pe_int (pa_cons pe_int pa_nil))) (pa_cons (pe_tup (pa_cons pe_int (pa_cons pe_int pa_nil))) pa_nil))))))))))
  (pss_cons (ps_asg (pe_tup (pa_cons (pe_lst (pa_cons (pe_tup (pa_cons pe_int (pa_cons pe_int pa_nil))) (pa_cons (pe_tup (pa_cons pe_int (pa_cons pe_int pa_nil))) (pa_cons (pe_tup (pa_cons pe_int (pa_cons (pe_tup (pa_cons pe_int (pa_cons pe_int pa_nil))) pa_nil))) (pa_cons (pe_tup (pa_cons pe_int (pa_cons (pe_tup (pa_cons pe_int (pa_cons pe_int pa_nil))) pa_nil))) pa_nil))))) (pa_cons (pe_lst (pa_cons (pe_tup (pa_cons pe_int (pa_cons (pe_tup (pa_cons pe_int (pa_cons pe_int pa_nil))) pa_nil))) (pa_cons (pe_tup (pa_cons pe_int (pa_cons (pe_tup (pa_cons pe_int (pa_cons pe_int pa_nil))) pa_nil))) (pa_cons (pe_tup (pa_cons pe_int (pa_cons pe_int pa_nil))) (pa_cons (pe_tup (pa_cons pe_int (pa_cons pe_int pa_nil))) pa_nil))))) pa_nil))) (pg_tup rfl (pgs_cons (pg_name (i := 5) sc_law_crossings_right.nd rfl (Or.inr rfl)) (pgs_cons (pg_name (i := 6) sc_law_crossings_right.nd rfl (Or.inr rfl)) pgs_nil))))
  (pss_cons (ps_asg (pe_tup (pa_cons (pe_c T._law_turned_row G_law_turned_row (hr.mono (by decide)) (pa_cons (pv 0) (pa_cons (pv 5) pa_nil))) (pa_cons (pe_c T._law_turned_row G_law_turned_row (hr.mono (by decide)) (pa_cons (pv 0) (pa_cons (pv 6) pa_nil))) pa_nil))) (pg_tup rfl (pgs_cons (pg_name (i := 5) sc_law_crossings_right.nd rfl (Or.inr rfl)) (pgs_cons (pg_name (i := 6) sc_law_crossings_right.nd rfl (Or.inr rfl)) pgs_nil))))
  (pss_cons (ps_if (pt_cmpR (op_neD (hu64 hr)) (LamX.pe_lamcall (T := Tb) (TT := TTfault K mg) (x := "_law_fault") (a := "_law_call") (g := fA mg "_law_fault") (c := cC) (P := cP) (k := 12) (Ng := ["_law_call", "_law_told", "error"]) (t := fun E => tMake (rmA mg) (spRInit K mg) [] E (tCons (tVar 4) (tCons (tLst (tCons (tVar 5) tNil)) tNil)))
     (by rfl) T._law_fault.g T._law_fault.F.kp lk' hcg b' sc_law_fault rfl (.inl rfl) (fault_gives T hq fun e => (hr.mono (by decide) : Room 2 _).deeper e) TB rfl (lam_memT hTm (by rfl)) (lam_onlyT hTo (by rfl)) (hr.mono (by decide)) (LamX.lamS_by (show LamX.lamSB (defScope s_law_crossings_right) _ = true from by decide +kernel)) rfl (fun _ _ _ _ _ => rfl)
     (fun A outer s H E f c' hr => (pe_make TR.mkc GRoom_init (hr.mono (by decide)) (by rfl) TR.g TR.b3 .nil (passes_call (takes_of rfl rfl rfl rfl) (fun _ _ _ _ h => h)) (pa_cons (pv 4) (pa_cons (pe_lst (pa_cons (pv 5) pa_nil)) pa_nil))))) (pe_tup (pa_cons pe_str (pa_cons (pe_callB (id := "repr") (show CallR _ _ (rShow K) from call_show hq (hu64 hr)) (by rfl) T.repr (by decide +kernel) (pa_cons (pv 5) pa_nil)) pa_nil))) (nomark _)) (pss_one (ps_ret pe_bl)) pss_nil)
  (pss_cons (ps_if (pt_cmpR (op_neD (hu64 hr)) (LamX.pe_lamcall (T := Tb) (TT := TTfault K mg) (x := "_law_fault") (a := "_law_call") (g := fA mg "_law_fault") (c := cC) (P := cP) (k := 12) (Ng := ["_law_call", "_law_told", "error"]) (t := fun E => tMake (rmA mg) (spRInit K mg) [] E (tCons (tVar 1) (tCons (tLst (tCons (tVar 5) (tCons (tVar 6) tNil))) tNil)))
     (by rfl) T._law_fault.g T._law_fault.F.kp lk' hcg b' sc_law_fault rfl (.inl rfl) (fault_gives T hq fun e => (hr.mono (by decide) : Room 2 _).deeper e) TB rfl (lam_memT hTm (by rfl)) (lam_onlyT hTo (by rfl)) (hr.mono (by decide)) (LamX.lamS_by (show LamX.lamSB (defScope s_law_crossings_right) _ = true from by decide +kernel)) rfl (fun _ _ _ _ _ => rfl)
     (fun A outer s H E f c' hr => (pe_make TR.mkc GRoom_init (hr.mono (by decide)) (by rfl) TR.g TR.b3 .nil (passes_call (takes_of rfl rfl rfl rfl) (fun _ _ _ _ h => h)) (pa_cons (pv 1) (pa_cons (pe_lst (pa_cons (pv 5) (pa_cons (pv 6) pa_nil))) pa_nil))))) (pe_tup (pa_cons pe_str (pa_cons (pe_callB (id := "repr") (show CallR _ _ (rShow K) from call_show hq (hu64 hr)) (by rfl) T.repr (by decide +kernel) (pa_cons (pv 6) pa_nil)) pa_nil))) (nomark _)) (pss_one (ps_ret pe_bl)) pss_nil)
  (pss_cons (ps_set (i := 7) sc_law_crossings_right.nd rfl (Or.inl rfl) (pe_lst (pa_cons (pe_tup (pa_cons pe_int (pa_cons pe_int pa_nil))) (pa_cons (pe_tup (pa_cons pe_int (pa_cons pe_int pa_nil))) (pa_cons (pe_tup (pa_cons pe_int (pa_cons pe_int pa_nil))) pa_nil)))))
  (pss_cons (ps_set (i := 8) sc_law_crossings_right.nd rfl (Or.inr rfl) (pe_c T._law_pick G_law_pick (hr.mono (by decide)) (pa_cons (pv 0) (pa_cons (pe_lst (pa_cons (pe_lst (pa_cons (pe_tup (pa_cons pe_int (pa_cons pe_int pa_nil))) (pa_cons (pe_tup (pa_cons (pe_tup (pa_cons pe_int (pa_cons pe_int pa_nil))) (pa_cons pe_int pa_nil))) (pa_cons (pe_tup (pa_cons (pe_tup (pa_cons pe_int (pa_cons pe_int pa_nil))) (pa_cons (pe_tup (pa_cons pe_int (pa_cons pe_int pa_nil))) pa_nil))) pa_nil)))) (pa_cons (pe_lst (pa_cons (pe_tup (pa_cons pe_int (pa_cons pe_int pa_nil))) (pa_cons (pe_tup (pa_cons (pe_tup (pa_cons pe_int (pa_cons pe_int pa_nil))) (pa_cons pe_int pa_nil))) (pa_cons (pe_tup (pa_cons pe_int (pa_cons pe_int pa_nil))) pa_nil)))) pa_nil))) pa_nil))))
  (pss_cons (ps_set (i := 9) sc_law_crossings_right.nd rfl (Or.inr rfl) (pe_c T._law_pick G_law_pick (hr.mono (by decide)) (pa_cons (pv 0) (pa_cons (pe_lst (pa_cons (pe_lst (pa_cons (pv 2) (pa_cons (pv 7) pa_nil))) (pa_cons (pe_lst (pa_cons (pv 7) (pa_cons (pv 2) pa_nil))) pa_nil))) pa_nil))))
  (pss_cons (ps_if (pt_cmpR (op_neD (hu64 hr)) (LamX.pe_lamcall (T := Tb) (TT := TTfault K mg) (x := "_law_fault") (a := "_law_call") (g := fA mg "_law_fault") (c := cC) (P := cP) (k := 12) (Ng := ["_law_call", "_law_told", "error"]) (t := fun E => tMakeN (rmA mg) 1 (["holes"] : List Str).length (spRInit K mg) (fun vs zs => vs ++ zs) E (tCons (tVar 1) tNil) (tCons (tOp rCat (tVar 9) (tLst (tCons (tVar 8) tNil))) tNil))
     (by rfl) T._law_fault.g T._law_fault.F.kp lk' hcg b' sc_law_fault rfl (.inl rfl) (fault_gives T hq fun e => (hr.mono (by decide) : Room 2 _).deeper e) TB rfl (lam_memT hTm (by rfl)) (lam_onlyT hTo (by rfl)) (hr.mono (by decide)) (LamX.lamS_by (show LamX.lamSB (defScope s_law_crossings_right) _ = true from by decide +kernel)) rfl (fun _ _ _ _ _ => rfl)
     (fun A outer s H E f c' hr => (pe_makeN TR.mkc GRoom_init (hr.mono (by decide)) (by rfl) TR.g TR.bk (passes_call (takes_of rfl rfl rfl rfl) (fun _ _ _ _ h => h)) (pa_cons (pv 1) pa_nil) (pk_cons (pe_op op_cat (pv 9) (pe_lst (pa_cons (pv 8) pa_nil))) pk_nil)))) (pe_tup (pa_cons pe_str (pa_cons (pe_callB (id := "repr") (show CallR _ _ (rShow K) from call_show hq (hu64 hr)) (by rfl) T.repr (by decide +kernel) (pa_cons (pv 8) pa_nil)) pa_nil))) (nomark _)) (pss_one (ps_ret pe_bl)) pss_nil)
  (pss_cons (ps_set (i := 10) sc_law_crossings_right.nd rfl (Or.inl rfl) (pe_lst (pa_cons (pe_lst (pa_cons (pe_tup (pa_cons pe_int (pa_cons pe_int pa_nil))) (pa_cons (pe_tup (pa_cons pe_int (pa_cons pe_int pa_nil))) (pa_cons (pe_tup (pa_cons pe_int (pa_cons pe_int pa_nil))) pa_nil)))) (pa_cons (pe_lst (pa_cons (pe_tup (pa_cons pe_int (pa_cons pe_int pa_nil))) (pa_cons (pe_tup (pa_cons pe_int (pa_cons pe_int pa_nil))) (pa_cons (pe_tup (pa_cons pe_int (pa_cons pe_int pa_nil))) pa_nil)))) (pa_cons (pe_lst (pa_cons (pe_tup (pa_cons pe_int (pa_cons pe_int pa_nil))) (pa_cons (pe_tup (pa_cons pe_int (pa_cons pe_int pa_nil))) (pa_cons (pe_tup (pa_cons pe_int (pa_cons pe_int pa_nil))) pa_nil)))) pa_nil)))))
  (pss_cons (ps_set (i := 11) sc_law_crossings_right.nd rfl (Or.inl rfl) (pe_make TR.mkc GRoom_init (hr.mono (by decide)) (by rfl) TR.g TR.b3 .nil passL (pa_cons (pe_lst (pa_cons (pe_tup (pa_cons pe_int (pa_cons pe_int pa_nil))) (pa_cons (pe_tup (pa_cons pe_int (pa_cons pe_int pa_nil))) (pa_cons (pe_tup (pa_cons pe_int (pa_cons pe_int pa_nil))) (pa_cons (pe_tup (pa_cons pe_int (pa_cons pe_int pa_nil))) pa_nil))))) (pa_cons (pv 10) pa_nil))))
  (pss_cons (ps_if (pt_cmpR (op_neD (hu64 hr)) (pe_tup (pa_cons (pe_meth0 (pv 11) TR.cls TM.m_area.meth GRoom_area (hr.mono (by decide)) TM.m_area.b .nil passL) (pa_cons (pe_callB call_len_seq (by rfl) T.len PySem.boot_len (pa_cons (pe_fld (pv 11) (by rfl)) pa_nil)) (pa_cons (pe_meth (pv 11) TR.cls TM.m_has.meth GRoom_has (hr.mono (by decide)) TM.m_has.b .nil passL (pa_cons (pe_tup (pa_cons (pe_tup (pa_cons pe_int (pa_cons pe_int pa_nil))) (pa_cons (pe_tup (pa_cons pe_int (pa_cons pe_int pa_nil))) pa_nil))) pa_nil)) (pa_cons (pe_meth (pv 11) TR.cls TM.m_has.meth GRoom_has (hr.mono (by decide)) TM.m_has.b .nil passL (pa_cons (pe_tup (pa_cons pe_int (pa_cons pe_int pa_nil))) pa_nil)) pa_nil))))) (pe_tup (pa_cons (pe_tup (pa_cons pe_int (pa_cons pe_int pa_nil))) (pa_cons pe_int (pa_cons pe_bl (pa_cons pe_bl pa_nil))))) (nomark _)) (pss_one (ps_ret pe_bl)) pss_nil)
  (pss_cons (ps_if (PW.pt (pw_or (pt_val (pe_meth (pv 11) TR.cls TM.m_has.meth GRoom_has (hr.mono (by decide)) TM.m_has.b .nil passL (pa_cons (pe_tup (pa_cons (pe_tup (pa_cons pe_int (pa_cons pe_int pa_nil))) (pa_cons (pe_tup (pa_cons pe_int (pa_cons pe_int pa_nil))) pa_nil))) pa_nil))) (pw_or1 (pt_val (pe_meth (pv 11) TR.cls TM.m_has.meth GRoom_has (hr.mono (by decide)) TM.m_has.b .nil passL (pa_cons (pe_tup (pa_cons (pe_tup (pa_cons pe_int (pa_cons pe_int pa_nil))) (pa_cons (pe_tup (pa_cons pe_int (pa_cons pe_int pa_nil))) pa_nil))) pa_nil)))))) (pss_one (ps_ret pe_bl)) pss_nil)
  (pss_cons (ps_set (i := 12) sc_law_crossings_right.nd rfl (Or.inl rfl) (pe_callB (id := "repr") (show CallR _ _ (rShow K) from call_show hq (hu64 hr)) (by rfl) T.repr (by decide +kernel) (pa_cons (pv 9) pa_nil)))
  (pss_one (ps_ret (pe_and (pe_cmpR (op_eqD (hu64 hr)) (pe_meth0 (pe_makeN TR.mkc GRoom_init (hr.mono (by decide)) (by rfl) TR.g TR.bk passL (pa_cons (pv 1) pa_nil) (pk_cons (pv 9) pk_nil)) TR.cls TM.m_area.meth GRoom_area (hr.mono (by decide)) TM.m_area.b .nil passL) (pe_tup (pa_cons pe_int (pa_cons pe_int pa_nil))) (nomark _)) (pe_one (pe_cmpR op_eq (pe_callB (id := "repr") (show CallR _ _ (rShow K) from call_show hq (hu64 hr)) (by rfl) T.repr (by decide +kernel) (pa_cons (pv 9) pa_nil)) (pv 12) (nomark _)))))))))))))))))))))), ?_⟩
  have hcr : smDA crD = true := cr_smooth.1
  refine q_asg (call_two ((val_var rfl) _ (l_pickD rfl P0 (by omega) hcr (by decide) (by decide) em_data fun v d H1 hd b1 P1 dv => ?_)))
  obtain ⟨ds, rfl, l1, l2, sd, hx⟩ := cross_at hd
  refine l_turn P1 (by omega) dv sd l1 l2 fun rv H2 kk bb hk b2 P2 dr => ?_
  obtain ⟨r1, r2⟩ := hx kk bb hk
  generalize turnM ds kk bb = xs at dr r1 r2
  have B2 := b1.trans b2
  have T2 := Tabs.but T0 P0 B2
  have dS := (dS.butP (by decide +kernel) P0 B2).bare
  have dF := (dF.butP (by decide +kernel) P0 B2).bare
  have dr := dr.bare
  have P2 := P2.bare
  have nt := bare_no H2
  have sb := bare_in H2
  clear dv hd b1 b2 P1 P0 T0 B2 hx hk sd
  revert dS dF dr P2 nt sb
  generalize bareH H2 = S
  intro dS dF dr P2 nt sb
  refine t_unless (fault_ne (i := 3) (J := fun H' => L2.Same S H' ∧ LamX.Tabs Tb H') rfl nt sb T2 r2 (fun j s => ⟨j.1.trans s, j.2.ext s⟩) (fun H' j => Dh.same j.1 _ _ dr) (fun H3 E3 Q3 s3 T3 bw => ?_) fun H3 ⟨s3, T3⟩ => ⟨false, rfl, iteF ?_⟩)
  · refine q_room (va_cons (val_var rfl) va_nil) rfl ?_
    refine room_1 (d := .list xs) (e := .none) (Dh.same s3 _ _ dr) r1 ?_
    exact bw H3 rv ⟨s3, T3⟩ (Dh.same s3 _ _ dr)
  have dS := Dh.same s3 _ _ dS
  have dF := Dh.same s3 _ _ dF
  have P3 := P2.same s3
  clear dr r1 r2 nt sb T2 s3 P2
  -- the notch
  refine q_asg (em_mkd (d := .list noL) (Mkd.lst (by repeat (first | exact MkA.nil | refine MkA.cons ?_ ?_ | exact Mkd.non | exact Mkd.int _ | exact Mkd.neg _ | exact Mkd.str _ | exact Mkd.bl _ | exact Mkd.dic (.inl _) _ | exact Mkd.rep3 _ | refine Mkd.lst ?_ (by decide) | refine Mkd.tup ?_ (by decide))) (by decide)) _ H3 _ fun nv H4 s4 dn => ?_)
  refine q_two (tup_two (em_mkd (d := .list baL) (Mkd.lst (by repeat (first | exact MkA.nil | refine MkA.cons ?_ ?_ | exact Mkd.non | exact Mkd.int _ | exact Mkd.neg _ | exact Mkd.str _ | exact Mkd.bl _ | exact Mkd.dic (.inl _) _ | exact Mkd.rep3 _ | refine Mkd.lst ?_ (by decide) | refine Mkd.tup ?_ (by decide))) (by decide)) _ H4 _ fun bv H5 s5 db => em_mkd (d := .list otL) (Mkd.lst (by repeat (first | exact MkA.nil | refine MkA.cons ?_ ?_ | exact Mkd.non | exact Mkd.int _ | exact Mkd.neg _ | exact Mkd.str _ | exact Mkd.bl _ | exact Mkd.dic (.inl _) _ | exact Mkd.rep3 _ | refine Mkd.lst ?_ (by decide) | refine Mkd.tup ?_ (by decide))) (by decide)) _ H5 _ fun ov H6 s6 do_ => ⟨by show 2 ≤ sizeLine; decide, fun z hz => g_two (SqT.of upd_same) ?_⟩))
  have s7 := Same.new' (o := .tup [bv, ov]) hz
  have u6 := s6.trans s7
  have u5 := s5.trans u6
  have u4 := s4.trans u5
  have dS := Dh.same u4 _ _ dS
  have dF := Dh.same u4 _ _ dF
  have dn := Dh.same u5 _ _ dn
  have db := Dh.same u6 _ _ db
  have do_ := Dh.same s7 _ _ do_
  have P7 := P3.same u4
  have T7 := T3.ext u4
  clear T3 P3 hz s4 s5 s6 u6 u5 u4 s7
  revert dS dF dn db do_ P7 T7
  generalize upd H6 z (.tup [bv, ov]) = H7
  intro dS dF dn db do_ P7 T7
  refine q_two (tup_two (call_two ((val_var rfl) _ ((val_var rfl) _ (l_turn P7 (by omega) db (by decide +kernel) (by decide) (by decide) fun bw H8 k1 c1 hk1 b8 P8 db => call_two ((val_var rfl) _ ((val_var rfl) _ (l_turn P8 (by omega) (do_.butP (by decide +kernel) P7 b8) (by decide +kernel) (by decide) (by decide) fun ow H9 k2 c2 hk2 b9 P9 do_ => ⟨by show 2 ≤ sizeLine; decide, fun z hz => g_two (SqT.of upd_same) ?_⟩))))))))
  have sz := Same.new' (o := .tup [bw, ow]) hz
  have B9 := b8.trans b9
  have dS := Dh.same sz _ _ (dS.butP (by decide +kernel) P7 B9)
  have dF := Dh.same sz _ _ (dF.butP (by decide +kernel) P7 B9)
  have dn := Dh.same sz _ _ (dn.butP (by decide +kernel) P7 B9)
  obtain ⟨m1, m2⟩ := noBr_at (b := c1) hk1
  obtain ⟨m3, m4⟩ := other_at (b := c1) (c := c2) hk1 hk2
  have smb : smD (.list (turnM baL k1 c1)) = true := by
    have : ∀ k < baL.length, ∀ b, smD (.list (turnM baL k b)) = true := by decide +kernel
    exact this k1 hk1 c1
  have db := Dh.same sz _ _ (db.butP smb P8 b9)
  have do_ := Dh.same sz _ _ do_
  have P9 := P9.same sz
  have T9 := (Tabs.but T7 P7 B9).ext sz
  clear B9 b8 b9 P8 P7 T7 hz smb
  revert dS dF dn db do_ P9 T9
  clear sz
  generalize turnM baL k1 c1 = xb at m1 m2 m3
  generalize turnM otL k2 c2 = xo at m3 m4
  generalize upd H9 z (.tup [bw, ow]) = H10
  intro dS dF dn db do_ P9 T9
  clear hk1 hk2
  have dS := dS.bare
  have dF := dF.bare
  have dn := dn.bare
  have db := db.bare
  have do_ := do_.bare
  have P9 := P9.bare
  have nt := bare_no H10
  have sb := bare_in H10
  revert dS dF dn db do_ P9 nt sb
  generalize bareH H10 = S
  intro dS dF dn db do_ P9 nt sb
  refine t_unless (fault_ne (i := 5) (J := fun H' => L2.Same S H' ∧ LamX.Tabs Tb H') rfl nt sb T9 m2 (fun j s => ⟨j.1.trans s, j.2.ext s⟩) (fun H' j => Dh.same j.1 _ _ db) (fun H3 E3 Q3 s3 T3 bwr => ?_) fun H11 ⟨s11, T11⟩ => ⟨false, rfl, iteF ?_⟩)
  · refine q_room2 (val_var rfl) (em_mkv (.lst (.cons (.var rfl (Dh.same s3 _ _ db)) .nil) (by show 1 ≤ 1000; decide)) _ (Same.refl _)) fun u H4 s4 du => ?_
    exact room_3 (i := 0) (r := .list xb) (Dh.same (s3.trans s4) _ _ dn) rfl (HoV.of du rfl) m1 rfl fun w dw => bwr H4 w ⟨s3.trans s4, T3.ext s4⟩ dw
  refine t_unless (fault_ne (i := 6) (J := fun H' => L2.Same S H' ∧ LamX.Tabs Tb H') rfl nt s11 T11 m4 (fun j s => ⟨j.1.trans s, j.2.ext s⟩) (fun H' j => Dh.same j.1 _ _ do_) (fun H3 E3 Q3 s3 T3 bwr => ?_) fun H12 ⟨s12, T12⟩ => ⟨false, rfl, iteF ?_⟩)
  · refine q_room2 (val_var rfl) (em_mkv (.lst (.cons (.var rfl (Dh.same s3 _ _ db)) (.cons (.var rfl (Dh.same s3 _ _ do_)) .nil)) (by show 2 ≤ 1000; decide)) _ (Same.refl _)) fun u H4 s4 du => ?_
    exact room_3 (i := 1) (r := .list xo) (Dh.same (s3.trans s4) _ _ dS) rfl (HoV.of du rfl) m3 rfl fun w dw => bwr H4 w ⟨s3.trans s4, T3.ext s4⟩ dw
  have dS := Dh.same s12 _ _ dS
  have dF := Dh.same s12 _ _ dF
  have P12 := P9.same s12
  clear T9 T11 s11 s12 nt sb P9 dn db do_ m1 m2 m3 m4
  -- good, near, both
  refine q_asg (em_mkd (d := .list goL) (Mkd.lst (by repeat (first | exact MkA.nil | refine MkA.cons ?_ ?_ | exact Mkd.non | exact Mkd.int _ | exact Mkd.neg _ | exact Mkd.str _ | exact Mkd.bl _ | exact Mkd.dic (.inl _) _ | exact Mkd.rep3 _ | refine Mkd.lst ?_ (by decide) | refine Mkd.tup ?_ (by decide))) (by decide)) _ H12 _ fun gv H13 s13 dG => ?_)
  have dS := Dh.same s13 _ _ dS
  have dF := Dh.same s13 _ _ dF
  have P13 := P12.same s13
  have T13 := T12.ext s13
  clear P12 T12 s13
  refine q_asg (l_pickD rfl P13 (by omega) (ds := neaD) (by decide +kernel) (by decide) (by decide) (em_lsd (by repeat (first | exact MkA.nil | refine MkA.cons ?_ ?_ | exact Mkd.non | exact Mkd.int _ | exact Mkd.neg _ | exact Mkd.str _ | exact Mkd.bl _ | exact Mkd.dic (.inl _) _ | exact Mkd.rep3 _ | refine Mkd.lst ?_ (by decide) | refine Mkd.tup ?_ (by decide))) (by decide) _ _) fun nv2 dN H14 hN b14 P14 dnv => ?_)
  have dS := dS.butP (by decide +kernel) P13 b14
  have dF := dF.butP (by decide +kernel) P13 b14
  have dG := dG.butP (by decide +kernel) P13 b14
  have T14 := Tabs.but T13 P13 b14
  clear P13 T13 b14
  refine q_asg (l_pickD rfl P14 (by omega) (ds := botD) (by decide +kernel) (by decide) (by decide) (em_lsv (.cons (.lst (.cons (.var rfl dF) (.cons (.var rfl dG) .nil)) (by decide)) (.cons (.lst (.cons (.var rfl dG) (.cons (.var rfl dF) .nil)) (by decide)) .nil)) (by decide)) fun bov dB H15 hB b15 P15 dbo => ?_)
  have smn : smD dN = true := smDA_mem (ds := neaD) (by decide +kernel) hN
  have dS := (dS.butP (by decide +kernel) P14 b15).bare
  have dF := (dF.butP (by decide +kernel) P14 b15).bare
  have dnv := (dnv.butP smn P14 b15).bare
  have dbo := dbo.bare
  have T15 := Tabs.but T14 P14 b15
  have P15 := P15.bare
  have nt := bare_no H15
  have sb := bare_in H15
  clear P14 T14 b15 dG smn
  revert dS dF dnv dbo P15 nt sb
  generalize bareH H15 = S
  intro dS dF dnv dbo P15 nt sb
  obtain ⟨⟨bs, rfl, lb, m1⟩, m2⟩ := near_at hN hB
  refine t_unless (fault_ne (i := 8) (J := fun H' => L2.Same S H' ∧ LamX.Tabs Tb H') rfl nt sb T15 m2 (fun j s => ⟨j.1.trans s, j.2.ext s⟩) (fun H' j => Dh.same j.1 _ _ dnv) (fun H3 E3 Q3 s3 T3 bwr => ?_) fun H16 ⟨s16, T16⟩ => ⟨false, rfl, iteF ?_⟩)
  · refine q_roomN (val_var rfl) (em_catV (.var rfl (Dh.same s3 _ _ dbo)) (.cons (.var rfl (Dh.same s3 _ _ dnv)) .nil) (by omega) (by show 1 ≤ 1000; decide) _ (Same.refl _)) fun u H4 s4 du => ?_
    exact room_3 (i := 2) (r := dN) (Dh.same (s3.trans s4) _ _ dS) rfl (HoV.of du rfl) m1 (by rw [List.getElem?_append_right (by omega), lb]; rfl) fun w dw => bwr H4 w ⟨s3.trans s4, T3.ext s4⟩ dw
  have dS := Dh.same s16 _ _ dS
  have dF := Dh.same s16 _ _ dF
  have dbo := Dh.same s16 _ _ dbo
  have P16 := P15.same s16
  clear P15 T15 s16 nt sb dnv m1 m2 hN
  -- many
  refine q_asg (em_mkd (d := .list wiL) (Mkd.lst (by repeat (first | exact MkA.nil | refine MkA.cons ?_ ?_ | exact Mkd.non | exact Mkd.int _ | exact Mkd.neg _ | exact Mkd.str _ | exact Mkd.bl _ | exact Mkd.dic (.inl _) _ | exact Mkd.rep3 _ | refine Mkd.lst ?_ (by decide) | refine Mkd.tup ?_ (by decide))) (by decide)) _ H16 _ fun wv H17 s17 dW => ?_)
  refine q_asg (q_room3 (e := .list wiL) (em_mkd (d := .list maL) (Mkd.lst (by repeat (first | exact MkA.nil | refine MkA.cons ?_ ?_ | exact Mkd.non | exact Mkd.int _ | exact Mkd.neg _ | exact Mkd.str _ | exact Mkd.bl _ | exact Mkd.dic (.inl _) _ | exact Mkd.rep3 _ | refine Mkd.lst ?_ (by decide) | refine Mkd.tup ?_ (by decide))) (by decide)) _ H17) (fun H2 s => em_val (val_var rfl) (Dh.same s _ _ dW)) fun v1 u1 H18 s18 dv1 du1 => room_0 dv1 rfl (HoV.of du1 rfl) f_many.1 f_many.2.1 f_many.2.2 fun x H19 s19 ra => ?_)
  have u19 := s17.trans (s18.trans s19)
  have dS := Dh.same u19 _ _ dS
  have dF := Dh.same u19 _ _ dF
  have dbo := Dh.same u19 _ _ dbo
  have P19 := P16.same u19
  have T19 := T16.ext u19
  clear P16 T16 u19 s17 s18 s19 dW dv1 du1
  have rv : ∀ {H'}, L2.Same H19 H' → RoomAt mg H' x maD wiD := fun s => RoomAt.same ra s
  have na : (areaM maD wiD).num = 159 ∧ (areaM maD wiD).den = 2 := by decide +kernel
  refine t_unless (op_in (tup_4 (mth_in ((val_var rfl) _ (area_k ra g_area.1 na fun ap H20 s20 ea => ?_)))))
  obtain ⟨dx0, cc, hh, ss, ts, zs, eA, _, _, _, es, lz⟩ := rv s20
  refine v_len (v_rfld (val_var rfl) eA TR.cls TR.ns lk_s) (.inr (SqT.of es)) _ (mth_in ((val_var rfl) _ (has_k (rv s20) (em_mkd (d := pq (pt 5 4) (pt 5 4)) (Mkd.tup (by repeat (first | exact MkA.nil | refine MkA.cons ?_ ?_ | exact Mkd.non | exact Mkd.int _ | exact Mkd.neg _ | exact Mkd.str _ | exact Mkd.bl _ | exact Mkd.dic (.inl _) _ | exact Mkd.rep3 _ | refine Mkd.lst ?_ (by decide) | refine Mkd.tup ?_ (by decide))) (by decide)) _ _) (by decide +kernel) g_has.1 ma_has.1 fun H21 s21 => mth_in ((val_var rfl) _ (has_k (rv (s20.trans s21)) (em_mkd (d := pt 3 3) (Mkd.tup (by repeat (first | exact MkA.nil | refine MkA.cons ?_ ?_ | exact Mkd.non | exact Mkd.int _ | exact Mkd.neg _ | exact Mkd.str _ | exact Mkd.bl _ | exact Mkd.dic (.inl _) _ | exact Mkd.rep3 _ | refine Mkd.lst ?_ (by decide) | refine Mkd.tup ?_ (by decide))) (by decide)) _ _) (by decide +kernel) g_has.2.1 ma_has.2.1 fun H22 s22 => ⟨by show 4 ≤ sizeLine; decide, fun t4 ht4 => ?_⟩)))))
  rw [lz, ma_ok.2.2.2]
  have s23 := Same.new' (o := .tup [.ref ap, .int ((13 : Nat) : Int), .bl false, .bl true]) ht4
  have ea3 := s23 _ _ (s22 _ _ (s21 _ _ ea))
  refine tup_4 (l_tup (va_cons val_c (va_cons val_c va_nil)) (by show 2 ≤ 100000; decide) fun t2 ht2 => val_c _ (val_c _ (val_c _ ⟨by show 4 ≤ sizeLine; decide, fun t5 ht5 => ?_⟩)))
  have s24 := Same.new' (o := .tup [.int 159, .int 2]) ht2
  have s25 := Same.new' (o := .tup [.ref t2, .int 13, .bl false, .bl true]) ht5
  refine ne_data (dp_four (s25 _ _ (s24 _ _ upd_same)) (s25 _ _ (s24 _ _ ea3))) (dp_four upd_same (s25 _ _ upd_same)) (by decide +kernel) (by decide +kernel) ⟨false, rfl, iteF ?_⟩
  have u26 := s20.trans (s21.trans (s22.trans (s23.trans (s24.trans s25))))
  have dS := Dh.same u26 _ _ dS
  have dF := Dh.same u26 _ _ dF
  have dbo := Dh.same u26 _ _ dbo
  have P26 := P19.same u26
  have T26 := T19.ext u26
  have ra := rv u26
  clear P19 T19 eA es lz ea ea3 rv u26 ht5 ht4 ht2 s20 s21 s22 s23 s24 s25
  revert dS dF dbo P26 T26 ra
  generalize upd (upd (upd H22 t4 (.tup [.ref ap, .int ((13 : Nat) : Int), .bl false, .bl true])) t2 (.tup [.int 159, .int 2])) t5 (.tup [.ref t2, .int 13, .bl false, .bl true]) = H26
  intro dS dF dbo P26 T26 ra
  refine q_seqIf (l_or (b_in (mth_in ((val_var rfl) _ (has_k ra (em_mkd (d := pq (pt 29 4) (pt 5 4)) (Mkd.tup (by repeat (first | exact MkA.nil | refine MkA.cons ?_ ?_ | exact Mkd.non | exact Mkd.int _ | exact Mkd.neg _ | exact Mkd.str _ | exact Mkd.bl _ | exact Mkd.dic (.inl _) _ | exact Mkd.rep3 _ | refine Mkd.lst ?_ (by decide) | refine Mkd.tup ?_ (by decide))) (by decide)) _ _) (by decide +kernel) g_has.2.2.1 ma_has.2.2.1 fun H27 s27 => ⟨false, rfl, iteF ?_⟩)))))
  refine b_in (mth_in ((val_var rfl) _ (has_k (ra.same s27) (em_mkd (d := pq (pt 21 4) (pt 21 4)) (Mkd.tup (by repeat (first | exact MkA.nil | refine MkA.cons ?_ ?_ | exact Mkd.non | exact Mkd.int _ | exact Mkd.neg _ | exact Mkd.str _ | exact Mkd.bl _ | exact Mkd.dic (.inl _) _ | exact Mkd.rep3 _ | refine Mkd.lst ?_ (by decide) | refine Mkd.tup ?_ (by decide))) (by decide)) _ _) (by decide +kernel) g_has.2.2.2.1 ma_has.2.2.2 fun H28 s28 => ⟨false, rfl, iteF ?_⟩)))
  have u28 := s27.trans s28
  have dS := Dh.same u28 _ _ dS
  have dF := Dh.same u28 _ _ dF
  have dbo := Dh.same u28 _ _ dbo
  have P28 := P26.same u28
  have T28 := T26.ext u28
  clear P26 T26 ra u28 s27 s28
  obtain ⟨⟨hs, z1, ⟨_, eb, z2⟩, z3, z4⟩, fb⟩ := both_at hB
  cases eb
  have fl := dbo.fine (K := K) fb
  refine q_asg (v_show (val_var rfl) fl.1 fl.2.1 fl.2.2.1 fl.2.2.2.1 _ ?_)
  refine r_ret (andv_in (op_in (mth_in (q_roomN (val_var rfl) (em_val (val_var rfl) dbo) fun u1 H29 s29 du1 => room_0 (Dh.same s29 _ _ dS) rfl (HoV.of du1 rfl) z1 f_both.2.2 z2 fun x H30 s30 ra => ?_))))
  refine area_k ra z3 z4 fun ap H31 s31 ea => l_tup (va_cons val_c (va_cons val_c va_nil)) (by show 2 ≤ 100000; decide) fun t2 ht2 => ?_
  have s32 := Same.new' (o := .tup [.int 69, .int 2]) ht2
  refine eq_data (dp_pair (s32 _ _ ea)) (dp_pair upd_same) (by decide +kernel) (by decide +kernel) ⟨true, rfl, iteT ?_⟩
  have u32 := s29.trans (s30.trans (s31.trans s32))
  have fl2 := (Dh.same u32 _ _ dbo).fine (K := K) fb
  refine op_in (v_show (val_var rfl) fl2.1 fl2.2.1 fl2.2.2.1 fl2.2.2.2.1 _ (val_var rfl _ ⟨rfl, ?_⟩))
  rw [decide_eq_true rfl]
  exact k _ (Dh.same u32 _ _ dS) (Dh.same u32 _ _ dF) ((P28.same u32).le (by omega)) (T28.ext u32)
end
end LW

namespace LW
open PySem PySem.Spec PyProof.Rows L2 GL
section
variable {P : Program} {w : World} {K : PySem.W.Frag} {mg : Str → Option Value} {base : Heap}
theorem em_asT {σ : L2.St} {H : Hp} {te : TE} {v : V} {d : PyData} (h : Val te σ H v) (dv : Dh H v d) :
    EM (tIf (tB (tCB (rIsi K) (tCons te (tCons (tC (.ty "list")) tNil)))) (tCB (fun xs H Q => ∃ p ys, xs = [.ref p] ∧ ((SqL K H p ys ∧ ∀ l, H l = none → Q (.ref l) (upd H l (.tup ys))) ∨ (SqT K H p ys ∧ Q (.ref p) H))) (tCons te tNil)) te) σ H (fun w H' => Dh H' w (asT d)) := by
  intro Q q
  obtain ⟨n, i, _⟩ := dh_is dv
  obtain ⟨ty, hn⟩ := i.ty (K := K)
  have keep : ∀ {e : PyData}, e = asT d → e = d → Q v H := fun h1 h2 => q v H (Same.refl H) (by rw [← h1, h2]; exact dv)
  have no : n ≠ "list" → d = asT d → (tIf (tB (tCB (rIsi K) (tCons te (tCons (tC (.ty "list")) tNil)))) (tCB (fun xs H Q => ∃ p ys, xs = [.ref p] ∧ ((SqL K H p ys ∧ ∀ l, H l = none → Q (.ref l) (upd H l (.tup ys))) ∨ (SqT K H p ys ∧ Q (.ref p) H))) (tCons te tNil)) te) σ H Q := fun ne e =>
    tb_in ((v_isi h ty (kit_list hn)) _ ⟨_, rfl, by rw [decide_eq_false ne]; exact iteF (h _ (keep e rfl))⟩)
  cases dv with
  | @lst a0 xs0 ds0 a b =>
    have en : n = "list" := by cases i with
      | lst e => rfl
      | tup e => rw [a] at e; cases e
      | dic e => rw [a] at e; cases e
    refine tb_in ((v_isi h ty (kit_list hn)) _ ⟨_, rfl, ?_⟩)
    rw [decide_eq_true en]
    refine iteT (cb_in (h _ ⟨_, _, rfl, .inl ⟨SqL.of a, fun l hl => ?_⟩⟩))
    have s := Same.new' (o := .tup xs0) hl
    exact q _ _ s (.tup upd_same (Dh.sameAll s _ _ b))
  | tup a b => exact no (by cases i with
      | lst e => rw [a] at e; cases e
      | tup e => decide
      | dic e => decide) rfl
  | dic a b => exact no (by cases i with
      | lst e => rw [a] at e; cases e
      | tup e => decide
      | dic e => decide) rfl
  | non => exact no (by cases i; decide) rfl
  | bl => exact no (by cases i; decide) rfl
  | int => exact no (by cases i; decide) rfl
  | str => exact no (by cases i; decide) rfl
theorem rows_at {d e : PyData} (hd : d ∈ roD) (he : e ∈ [d, asT d]) : rmN 5 e .none = some 1 ∧ fineD e = true := by
  have z := all_mem f_rows hd
  simp only [Bool.and_eq_true] at z
  simp only [List.mem_cons, List.not_mem_nil, or_false] at he
  rcases he with rfl | rfl
  · exact ⟨is_eq z.1.1.1, z.1.2⟩
  · exact ⟨is_eq z.1.1.2, z.2⟩
theorem odd_at {e : PyData} (he : e ∈ oddD) : rmN 5 (.list sqL) e = some 2 ∧ fineD e = true := by
  have z := all_mem f_odd he
  simp only [Bool.and_eq_true] at z
  exact ⟨is_eq z.1, z.2⟩
theorem hole_at {e : PyData} (he : e ∈ hoD) : rmN 5 (.list sqL) (.list [.list fiL, e]) = some 4 ∧ fineD e = true := by
  have z := all_mem f_hole he
  simp only [Bool.and_eq_true] at z
  exact ⟨is_eq z.1, z.2⟩
theorem turned_at {k : Nat} {b : Bool} {h h2 : PyData} (hk : k < sqL.length) (hh : h ∈ hoD) (hh2 : h2 ∈ hoD) : rmN 5 (.list (turnM sqL k b)) (.tuple [.list fiL.reverse, h, h2]) = some 4 := is_eq (all_mem (all_mem (turns2_at f_turned hk b) hh) hh2)
theorem smT {d : PyData} (h : smD d = true) : smD (asT d) = true := by cases d <;> exact h
/-- first[::-1] -/
theorem em_rev {σ : L2.St} {H : Hp} {te : TE} {v : V} {ds : List PyData} (h : Val te σ H v) (dv : Dh H v (.list ds)) : EM (tRevL K te) σ H (fun w H' => Dh H' w (.list ds.reverse)) := fun Q q => by
  cases dv with
  | @lst a0 xs0 _ e al =>
    refine h _ ⟨a0, xs0, rfl, SqL.of e, fun p hp => ?_⟩
    have s := Same.new' (o := .lst xs0.reverse) hp
    exact q _ _ s (.lst upd_same (Dh.sameAll s _ _ (dd_rev al)))
theorem tup_3 {t1 t2 t3 : TE} {σ : L2.St} {H : Hp} {Q : VK} (h : t1 σ H fun v H1 => t2 σ H1 fun w H2 => t3 σ H2 fun z H3 => 3 ≤ sizeLine ∧ ∀ q, H3 q = none → Q (.ref q) (upd H3 q (.tup [v, w, z]))) : tTup (tCons t1 (tCons t2 (tCons t3 tNil))) σ H Q := h
theorem mk_in {C : Addr} {sp : Sp} {dvs : List V} {E : XK} {t : TA} {σ : L2.St} {H : Hp} {Q : VK} (h : t σ H fun vs H1 => ∀ x dx, H1 x = none → H1 dx = none → dx ≠ x → sp (.ref x :: (vs ++ dvs)) (upd (upd H1 dx (.own x)) x (.ins C dx [])) (fun v H2 => v = .non ∧ Q (.ref x) H2) E) : tMake C sp dvs E t σ H Q := h
def spLaw (K : PySem.W.Frag) (Tb : List (Addr × Str)) : Sp := fun vs H Q _ => ∃ (a : Addr) (ns : List Int), vs = [.ref a] ∧ SqL K H a (ns.map V.int) ∧ ns.length ≤ 63 ∧ LamX.Tabs Tb H ∧ ∀ H', Q (.bl true) H'
theorem ok_law (T : Txt K mg) (TR : RoomT K mg) (TM : RoomM K mg) {cC cP : Addr} {Tb : List (Addr × Str)} (TB : LamX.TabB base mg cC cP) (hcC : (fDat K (fA mg "law")).code = .ref cC) (hTm : (cP, (("law" : Str) ++ (".<locals>." : Str)) ++ ("<lambda>" : Str)) ∈ Tb) (hTo : ∀ p ∈ Tb, p.1 = cP → p.2 = (("law" : Str) ++ (".<locals>." : Str)) ++ ("<lambda>" : Str)) (G_law_crossings_right : OkG P w K mg base CX0 16 (fA mg "_law_crossings_right") (fDat K (fA mg "_law_crossings_right")) ["_law_pen_here", "_law_square", "_law_first"] (spCross Tb)) :
    OkG P w K mg base CX0 17 (fA mg "law") (fDat K (fA mg "law")) ["_law_script"] (spLaw K Tb) := by
  have G_law_pen := ok_pen (P := P) (w := w) (base := base) T._law_pen.F T
  have G_law_draw := ok_draw (P := P) (w := w) (base := base) T._law_draw.F T
  have G_law_pick := ok_pick (P := P) (w := w) (base := base) T
  have G_law_bad_rows := ok_law_bad_rows (P := P) (w := w) (base := base) T
  have G_law_bad_holes := ok_law_bad_holes (P := P) (w := w) (base := base) T
  have G_law_turned_row := ok_law_turned_row (P := P) (w := w) (base := base) T
  have G_law_minus := ok_law_minus (P := P) (w := w) (base := base) T
  have GRoom_init := ok_Room_init (P := P) (w := w) (base := base) T TR
  have GRoom_area := ok_Room_area (P := P) (w := w) (base := base) T TR TM
  have GRoom_has := ok_Room_has (P := P) (w := w) (base := base) T TR TM
  obtain ⟨oc, od, kw0, doc, pm, an, cdw, ct, osl, efd, lk, hcg⟩ := T._law_fault.F.ex
  have lk' := efd ▸ lk
  have b' := efd ▸ T._law_fault.b
  obtain ⟨dsv, hds, hb2⟩ := TR.b2
  refine okGc T.law.F hcC sclaw (fun vs H Q E h => ?_) (fun A outer s H vs Q E hr hq h => ?_)
  · obtain ⟨a, ns, rfl, _⟩ := h
    rfl
  obtain ⟨a, ns, rfl, hS, hn, hT, k⟩ := h
  refine ⟨_, (pss_cons (ps_set (i := 1) sclaw.nd rfl (Or.inr rfl) (pe_c T._law_pen G_law_pen (hr.mono (by decide)) (pa_cons (pv 0) pa_nil)))
  (pss_cons (ps_asg (pe_tup (pa_cons (pe_lst (pa_cons (pe_tup (pa_cons pe_int (pa_cons pe_int pa_nil))) (pa_cons (pe_tup (pa_cons pe_int (pa_cons pe_int pa_nil))) (pa_cons (pe_tup (pa_cons pe_int (pa_cons pe_int pa_nil))) (pa_cons (pe_tup (pa_cons pe_int (pa_cons pe_int pa_nil))) pa_nil))))) (pa_cons (pe_lst (pa_cons (pe_tup (pa_cons pe_int (pa_cons pe_int pa_nil))) (pa_cons (pe_tup (pa_cons pe_int (pa_cons pe_int pa_nil))) (pa_cons (pe_tup (pa_cons pe_int (pa_cons pe_int pa_nil))) (pa_cons (pe_tup (pa_cons pe_int (pa_cons pe_int pa_nil))) pa_nil))))) pa_nil))) (pg_tup rfl (pgs_cons (pg_name (i := 2) sclaw.nd rfl (Or.inr rfl)) (pgs_cons (pg_name (i := 3) sclaw.nd rfl (Or.inr rfl)) pgs_nil))))
  (pss_cons (ps_for PassesOwn.never rfl (pi_range1 (by rfl) T.range (pa_cons pe_int pa_nil)) (pg_name (i := 4) sclaw.nd rfl (Or.inl rfl))
  (pss_cons (ps_asg (pe_tup (pa_cons (pe_c T._law_pick G_law_pick (hr.mono (by decide)) (pa_cons (pv 1) (pa_cons (pe_c0 T._law_bad_rows G_law_bad_rows (hr.mono (by decide))) pa_nil))) (pa_cons (pe_c T._law_pick G_law_pick (hr.mono (by decide)) (pa_cons (pv 1) (pa_cons (pe_c0 T._law_bad_holes G_law_bad_holes (hr.mono (by decide))) pa_nil))) pa_nil))) (pg_tup rfl (pgs_cons (pg_name (i := 5) sclaw.nd rfl (Or.inr rfl)) (pgs_cons (pg_name (i := 6) sclaw.nd rfl (Or.inr rfl)) pgs_nil))))
  (pss_cons (ps_set (i := 5) sclaw.nd rfl (Or.inr rfl) (pe_c T._law_pick G_law_pick (hr.mono (by decide)) (pa_cons (pv 1) (pa_cons (pe_lst (pa_cons (pv 5) (pa_cons (pe_ifExp (pt_val (pe_callB call_isi (by rfl) T.isinstance (by decide +kernel) (pa_cons (pv 5) (pa_cons (pe_bltn (v := .ty "list") (by rfl) T.list (by decide +kernel) rfl) pa_nil)))) (pe_callTy call_tuple_of (by rfl) T.tuple (by decide +kernel) (pa_cons (pv 5) pa_nil)) (pv 5)) pa_nil))) pa_nil))))
  (pss_cons (ps_set (i := 7) sclaw.nd rfl (Or.inr rfl) (pe_c T._law_pick G_law_pick (hr.mono (by decide)) (pa_cons (pv 1) (pa_cons (pe_lst (pa_cons pe_non (pa_cons pe_int (pa_cons pe_str (pa_cons (pe_disp (pps_cons pe_int pe_int pps_nil) (by rfl) (by rfl) (fun z => by cases z) (by decide)) (pa_cons pe_bl pa_nil)))))) pa_nil))))
  (pss_cons (ps_if (pt_cmpR (op_neD (hu64 hr)) (LamX.pe_lamcall (T := Tb) (TT := TTfault K mg) (x := "_law_fault") (a := "_law_call") (g := fA mg "_law_fault") (c := cC) (P := cP) (k := 12) (Ng := ["_law_call", "_law_told", "error"]) (t := fun E => tMake (rmA mg) (spRInit K mg) [] E (tCons (tVar 5) (tCons (tVar 7) tNil)))
     (by rfl) T._law_fault.g T._law_fault.F.kp lk' hcg b' sc_law_fault rfl (.inl rfl) (fault_gives T hq fun e => (hr.mono (by decide) : Room 2 _).deeper e) TB rfl (lam_memT hTm (by rfl)) (lam_onlyT hTo (by rfl)) (hr.mono (by decide)) (LamX.lamS_by (show LamX.lamSB (defScope slaw) _ = true from by decide +kernel)) rfl (fun _ _ _ _ _ => rfl)
     (fun A outer s H E f c' hr => (pe_make TR.mkc GRoom_init (hr.mono (by decide)) (by rfl) TR.g TR.b3 .nil (passes_call (takes_of rfl rfl rfl rfl) (fun _ _ _ _ h => h)) (pa_cons (pv 5) (pa_cons (pv 7) pa_nil))))) (pe_tup (pa_cons pe_str (pa_cons (pe_callB (id := "repr") (show CallR _ _ (rShow K) from call_show hq (hu64 hr)) (by rfl) T.repr (by decide +kernel) (pa_cons (pv 5) pa_nil)) pa_nil))) (nomark _)) (pss_one (ps_ret pe_bl)) pss_nil)
  (pss_cons (ps_if (pt_cmpR (op_neD (hu64 hr)) (LamX.pe_lamcall (T := Tb) (TT := TTfault K mg) (x := "_law_fault") (a := "_law_call") (g := fA mg "_law_fault") (c := cC) (P := cP) (k := 12) (Ng := ["_law_call", "_law_told", "error"]) (t := fun E => tMake (rmA mg) (spRInit K mg) [] E (tCons (tVar 2) (tCons (tVar 7) tNil)))
     (by rfl) T._law_fault.g T._law_fault.F.kp lk' hcg b' sc_law_fault rfl (.inl rfl) (fault_gives T hq fun e => (hr.mono (by decide) : Room 2 _).deeper e) TB rfl (lam_memT hTm (by rfl)) (lam_onlyT hTo (by rfl)) (hr.mono (by decide)) (LamX.lamS_by (show LamX.lamSB (defScope slaw) _ = true from by decide +kernel)) rfl (fun _ _ _ _ _ => rfl)
     (fun A outer s H E f c' hr => (pe_make TR.mkc GRoom_init (hr.mono (by decide)) (by rfl) TR.g TR.b3 .nil (passes_call (takes_of rfl rfl rfl rfl) (fun _ _ _ _ h => h)) (pa_cons (pv 2) (pa_cons (pv 7) pa_nil))))) (pe_tup (pa_cons pe_str (pa_cons (pe_callB (id := "repr") (show CallR _ _ (rShow K) from call_show hq (hu64 hr)) (by rfl) T.repr (by decide +kernel) (pa_cons (pv 7) pa_nil)) pa_nil))) (nomark _)) (pss_one (ps_ret pe_bl)) pss_nil)
  (pss_cons (ps_if (pt_cmpR (op_neD (hu64 hr)) (LamX.pe_lamcall (T := Tb) (TT := TTfault K mg) (x := "_law_fault") (a := "_law_call") (g := fA mg "_law_fault") (c := cC) (P := cP) (k := 12) (Ng := ["_law_call", "_law_told", "error"]) (t := fun E => tMake (rmA mg) (spRInit K mg) [] E (tCons (tVar 2) (tCons (tLst (tCons (tVar 3) (tCons (tVar 6) tNil))) tNil)))
     (by rfl) T._law_fault.g T._law_fault.F.kp lk' hcg b' sc_law_fault rfl (.inl rfl) (fault_gives T hq fun e => (hr.mono (by decide) : Room 2 _).deeper e) TB rfl (lam_memT hTm (by rfl)) (lam_onlyT hTo (by rfl)) (hr.mono (by decide)) (LamX.lamS_by (show LamX.lamSB (defScope slaw) _ = true from by decide +kernel)) rfl (fun _ _ _ _ _ => rfl)
     (fun A outer s H E f c' hr => (pe_make TR.mkc GRoom_init (hr.mono (by decide)) (by rfl) TR.g TR.b3 .nil (passes_call (takes_of rfl rfl rfl rfl) (fun _ _ _ _ h => h)) (pa_cons (pv 2) (pa_cons (pe_lst (pa_cons (pv 3) (pa_cons (pv 6) pa_nil))) pa_nil))))) (pe_tup (pa_cons pe_str (pa_cons (pe_callB (id := "repr") (show CallR _ _ (rShow K) from call_show hq (hu64 hr)) (by rfl) T.repr (by decide +kernel) (pa_cons (pv 6) pa_nil)) pa_nil))) (nomark _)) (pss_one (ps_ret pe_bl)) pss_nil)
  (pss_cons (ps_set (i := 8) sclaw.nd rfl (Or.inr rfl) (pe_c T._law_pick G_law_pick (hr.mono (by decide)) (pa_cons (pv 1) (pa_cons (pe_c0 T._law_bad_holes G_law_bad_holes (hr.mono (by decide))) pa_nil))))
  (pss_one (ps_if (pt_cmpR (op_neD (hu64 hr)) (LamX.pe_lamcall (T := Tb) (TT := TTfault K mg) (x := "_law_fault") (a := "_law_call") (g := fA mg "_law_fault") (c := cC) (P := cP) (k := 12) (Ng := ["_law_call", "_law_told", "error"]) (t := fun E => tMake (rmA mg) (spRInit K mg) [] E (tCons (tCall spTurnR [] E0 (tCons (tVar 1) (tCons (tVar 2) tNil))) (tCons (tTup (tCons (tRevL K (tVar 3)) (tCons (tVar 6) (tCons (tVar 8) tNil)))) tNil)))
     (by rfl) T._law_fault.g T._law_fault.F.kp lk' hcg b' sc_law_fault rfl (.inl rfl) (fault_gives T hq fun e => (hr.mono (by decide) : Room 2 _).deeper e) TB rfl (lam_memT hTm (by rfl)) (lam_onlyT hTo (by rfl)) (hr.mono (by decide)) (LamX.lamS_by (show LamX.lamSB (defScope slaw) _ = true from by decide +kernel)) rfl (fun _ _ _ _ _ => rfl)
     (fun A outer s H E f c' hr => (pe_make TR.mkc GRoom_init (hr.mono (by decide)) (by rfl) TR.g TR.b3 .nil (passes_call (takes_of rfl rfl rfl rfl) (fun _ _ _ _ h => h)) (pa_cons (pe_c T._law_turned_row G_law_turned_row (hr.mono (by decide)) (pa_cons (pv 1) (pa_cons (pv 2) pa_nil))) (pa_cons (pe_tup (pa_cons (pe_revL (pv 3)) (pa_cons (pv 6) (pa_cons (pv 8) pa_nil)))) pa_nil))))) (pe_tup (pa_cons pe_str (pa_cons (pe_callB (id := "repr") (show CallR _ _ (rShow K) from call_show hq (hu64 hr)) (by rfl) T.repr (by decide +kernel) (pa_cons (pv 6) pa_nil)) pa_nil))) (nomark _)) (pss_one (ps_ret pe_bl)) pss_nil))))))))))
  (pss_cons (ps_if (pt_not (pt_val (pe_cG T._law_crossings_right G_law_crossings_right (hr.mono (by decide)) hq (pa_cons (pv 1) (pa_cons (pv 2) (pa_cons (pv 3) pa_nil)))))) (pss_one (ps_ret pe_bl)) pss_nil)
  (pss_cons (ps_set (i := 9) sclaw.nd rfl (Or.inl rfl) (pe_tup (pa_cons (pe_op op_add (pe_op op_mul pe_int (pe_op op_pow pe_int pe_int)) pe_int) (pa_cons (pe_op op_pow pe_int pe_int) pa_nil))))
  (pss_cons (ps_set (i := 10) sclaw.nd rfl (Or.inl rfl) (pe_c T._law_minus G_law_minus (hr.mono (by decide)) (pa_cons (pe_tup (pa_cons pe_int (pa_cons pe_int pa_nil))) (pa_cons (pe_c T._law_minus G_law_minus (hr.mono (by decide)) (pa_cons (pe_tup (pa_cons pe_int (pa_cons pe_int pa_nil))) (pa_cons (pe_tup (pa_cons pe_int (pa_cons (pe_op op_mul pe_int (pe_op op_pow pe_int pe_int)) pa_nil))) pa_nil))) pa_nil))))
  (pss_cons (ps_if (pt_cmpR (op_neD (hu64 hr)) (pe_meth0 (pe_make TR.mkc GRoom_init (hr.mono (by decide)) (by rfl) TR.g TR.b3 .nil passL (pa_cons (pv 2) (pa_cons (pe_lst (pa_cons (pv 3) (pa_cons (pe_lst (pa_cons (pe_tup (pa_cons (pv 9) (pa_cons pe_int pa_nil))) (pa_cons (pe_tup (pa_cons pe_int (pa_cons pe_int pa_nil))) (pa_cons (pe_tup (pa_cons pe_int (pa_cons pe_int pa_nil))) pa_nil)))) pa_nil))) pa_nil))) TR.cls TM.m_area.meth GRoom_area (hr.mono (by decide)) TM.m_area.b .nil passL) (pv 10) (nomark _)) (pss_one (ps_ret pe_bl)) pss_nil)
  (pss_cons (ps_set (i := 11) sclaw.nd rfl (Or.inl rfl) (pe_make TR.mkc GRoom_init (hr.mono (by decide)) (by rfl) TR.g hb2 hds passL (pa_cons (pe_lst (pa_cons (pe_tup (pa_cons pe_int (pa_cons pe_int pa_nil))) (pa_cons (pe_tup (pa_cons pe_int (pa_cons pe_int pa_nil))) (pa_cons (pe_tup (pa_cons pe_int (pa_cons pe_int pa_nil))) (pa_cons (pe_tup (pa_cons pe_int (pa_cons (pe_tup (pa_cons pe_int (pa_cons (pe_op op_pow pe_int pe_int) pa_nil))) pa_nil))) (pa_cons (pe_tup (pa_cons pe_int (pa_cons pe_int pa_nil))) pa_nil)))))) pa_nil)))
  (pss_cons (ps_set (i := 12) sclaw.nd rfl (Or.inl rfl) (pe_make TR.mkc GRoom_init (hr.mono (by decide)) (by rfl) TR.g hb2 hds passL (pa_cons (pe_lst (pa_cons (pe_tup (pa_cons pe_int (pa_cons pe_int pa_nil))) (pa_cons (pe_tup (pa_cons pe_int (pa_cons pe_int pa_nil))) (pa_cons (pe_tup (pa_cons pe_int (pa_cons pe_int pa_nil))) (pa_cons (pe_tup (pa_cons pe_int (pa_cons pe_int pa_nil))) (pa_cons (pe_tup (pa_cons pe_int (pa_cons pe_int pa_nil))) (pa_cons (pe_tup (pa_cons pe_int (pa_cons pe_int pa_nil))) (pa_cons (pe_tup (pa_cons pe_int (pa_cons pe_int pa_nil))) (pa_cons (pe_tup (pa_cons pe_int (pa_cons pe_int pa_nil))) pa_nil))))))))) pa_nil)))
  (pss_cons (ps_if (PW.pt (pw_or (pt_cmpR (op_neD (hu64 hr)) (pe_meth0 (pv 12) TR.cls TM.m_area.meth GRoom_area (hr.mono (by decide)) TM.m_area.b .nil passL) (pe_tup (pa_cons pe_int (pa_cons pe_int pa_nil))) (nomark _)) (pw_or (pt_val (pe_meth (pv 12) TR.cls TM.m_has.meth GRoom_has (hr.mono (by decide)) TM.m_has.b .nil passL (pa_cons (pe_tup (pa_cons (pe_tup (pa_cons pe_int (pa_cons pe_int pa_nil))) (pa_cons pe_int pa_nil))) pa_nil))) (pw_or1 (pt_not (pt_val (pe_meth (pv 12) TR.cls TM.m_has.meth GRoom_has (hr.mono (by decide)) TM.m_has.b .nil passL (pa_cons (pe_tup (pa_cons (pe_tup (pa_cons pe_int (pa_cons pe_int pa_nil))) (pa_cons pe_int pa_nil))) pa_nil)))))))) (pss_one (ps_ret pe_bl)) pss_nil)
  (pss_one (ps_ret (pe_and (pe_cmpR op_eq (pe_callB call_len_seq (by rfl) T.len PySem.boot_len (pa_cons (pe_fld (pv 11) (by rfl)) pa_nil)) pe_int (nomark _)) (pe_and (pe_meth (pv 11) TR.cls TM.m_has.meth GRoom_has (hr.mono (by decide)) TM.m_has.b .nil passL (pa_cons (pe_tup (pa_cons pe_int (pa_cons pe_int pa_nil))) pa_nil)) (pe_one (pe_not (pe_meth (pv 11) TR.cls TM.m_has.meth GRoom_has (hr.mono (by decide)) TM.m_has.b .nil passL (pa_cons (pe_tup (pa_cons pe_int (pa_cons (pe_tup (pa_cons pe_int (pa_cons (pe_op op_pow pe_int pe_int) pa_nil))) pa_nil))) pa_nil)))))))))))))))))), ?_⟩
  have hmost : 1000 ≤ most := by decide
  refine q_asg (c_call (va_cons (val_var rfl) va_nil) ⟨a, ns, rfl, hS, hn, fun p c H1 s1 P1 => ?_⟩)
  refine q_two (tup_two (em_mkd (d := .list sqL) (Mkd.lst (by repeat (first | exact MkA.nil | refine MkA.cons ?_ ?_ | exact Mkd.non | exact Mkd.int _ | exact Mkd.neg _ | exact Mkd.str _ | exact Mkd.bl _ | exact Mkd.dic (.inl _) _ | exact Mkd.rep3 _ | refine Mkd.lst ?_ (by decide) | refine Mkd.tup ?_ (by decide))) (by decide)) _ H1 _ fun sv H2 s2 d2 => em_mkd (d := .list fiL) (Mkd.lst (by repeat (first | exact MkA.nil | refine MkA.cons ?_ ?_ | exact Mkd.non | exact Mkd.int _ | exact Mkd.neg _ | exact Mkd.str _ | exact Mkd.bl _ | exact Mkd.dic (.inl _) _ | exact Mkd.rep3 _ | refine Mkd.lst ?_ (by decide) | refine Mkd.tup ?_ (by decide))) (by decide)) _ H2 _ fun fv H3 s3 d3 => ⟨by show 2 ≤ sizeLine; decide, fun z hz => g_two (SqT.of upd_same) ?_⟩))
  have s4 := Same.new' (o := .tup [sv, fv]) hz
  have u2 := s3.trans s4
  have u1 := s2.trans u2
  have dS := Dh.same u2 _ _ d2
  have dF := Dh.same s4 _ _ d3
  have P4 := P1.same u1
  have T4 := hT.ext (s1.trans u1)
  clear d2 d3 P1 hT hS hn s1 s2 s3 s4 u2 u1 hz
  revert dS dF P4 T4
  generalize upd H3 z (.tup [sv, fv]) = H4
  intro dS dF P4 T4
  refine q_forR1 (n := 6) (va_cons val_c va_nil) (by decide) (fun n σ H' => (∃ z4 z5 z6 z7 z8 z9 z10 z11 z12, σ = [some (.ref a), some (.ref p), some sv, some fv, z4, z5, z6, z7, z8, z9, z10, z11, z12]) ∧ PenAt H' p c (20 * n) ∧ LamX.Tabs Tb H' ∧ Dh H' sv (.list sqL) ∧ Dh H' fv (.list fiL))
    ⟨⟨_, _, _, _, _, _, _, _, _, rfl⟩, P4, T4, dS, dF⟩ (fun n σ H5 hn z => g_name ?_) (fun σ H5 z => ?_)
  · obtain ⟨⟨z4, z5, z6, z7, z8, z9, z10, z11, z12, rfl⟩, P5, T5, dS, dF⟩ := z
    clear P4 T4
    show tSeq _ _ _ [some (.ref a), some (.ref p), some sv, some fv, some (.int (n : Int)), z5, z6, z7, z8, z9, z10, z11, z12] _
    have sms := cr_smooth
    refine q_two (tup_two (l_pickD rfl P5 (by omega) sms.2.1 (by decide) (by decide) em_data fun bv dB H6 hB b6 P6 dbv => l_pickD rfl P6 (by omega) sms.2.2 (by decide) (by decide) em_data fun hv dH H7 hH b7 P7 dhv => ⟨by show 2 ≤ sizeLine; decide, fun z hz => g_two (SqT.of upd_same) ?_⟩))
    have s8 := Same.new' (o := .tup [bv, hv]) hz
    have smB := smDA_mem sms.2.1 hB
    have smH := smDA_mem sms.2.2 hH
    have B7 := b6.trans b7
    have dS := Dh.same s8 _ _ (dS.butP (by decide +kernel) P5 B7)
    have dF := Dh.same s8 _ _ (dF.butP (by decide +kernel) P5 B7)
    have T8 := (Tabs.but T5 P5 B7).ext s8
    have dbv := Dh.same s8 _ _ (dbv.butP smB P6 b7)
    have dhv := Dh.same s8 _ _ dhv
    have P8 := P7.same s8
    clear P5 P6 P7 T5 b6 b7 B7 s8 hz
    revert dS dF T8 dbv dhv P8
    generalize upd H7 z (.tup [bv, hv]) = H8
    intro dS dF T8 dbv dhv P8
    refine q_asg (l_pickD (ds := [dB, asT dB]) rfl P8 (by omega) (by simp [smDA, smB, smT smB]) (by show 0 < 2; decide) (by show 2 ≤ 100; decide) (fun Q q => l_two ((val_var rfl) _ (em_asT (val_var rfl) dbv _ fun w H9 s9 dw => ⟨by show 2 ≤ sizeLine; decide, fun z hz => q _ _ (s9.trans (Same.new' hz)) ⟨z, rfl, _, upd_same, .cons (Dh.same (s9.trans (Same.new' hz)) _ _ dbv) (.cons (Dh.same (Same.new' hz) _ _ dw) .nil)⟩⟩))) fun bw dB2 H10 hB2 b10 P10 dbw => ?_)
    have dS := dS.butP (by decide +kernel) P8 b10
    have dF := dF.butP (by decide +kernel) P8 b10
    have dhv := dhv.butP smH P8 b10
    have T10 := Tabs.but T8 P8 b10
    obtain ⟨r1, r2⟩ := rows_at hB hB2
    have smB2 : smD dB2 = true := smDA_mem (ds := [dB, asT dB]) (by simp [smDA, smB, smT smB]) hB2
    clear P8 T8 b10 dbv hB hB2 smB
    refine q_asg (l_pickD rfl P10 (by omega) (ds := oddD) (by decide +kernel) (by decide) (by decide) (em_lsd (by repeat (first | exact MkA.nil | refine MkA.cons ?_ ?_ | exact Mkd.non | exact Mkd.int _ | exact Mkd.neg _ | exact Mkd.str _ | exact Mkd.bl _ | exact Mkd.dic (.inl _) _ | exact Mkd.rep3 _ | refine Mkd.lst ?_ (by decide) | refine Mkd.tup ?_ (by decide))) (by decide) _ _) fun ov dO H11 hO b11 P11 dov => ?_)
    obtain ⟨o1, o2⟩ := odd_at hO
    have dS := (dS.butP (by decide +kernel) P10 b11).bare
    have dF := (dF.butP (by decide +kernel) P10 b11).bare
    have dhv := (dhv.butP smH P10 b11).bare
    have dbw := (dbw.butP smB2 P10 b11).bare
    have T11 := Tabs.but T10 P10 b11
    have dov := dov.bare
    have P11 := P11.bare
    have nt := bare_no H11
    have sb := bare_in H11
    clear P10 T10 b11 hO smB2
    revert dS dF dhv dbw dov P11 nt sb
    generalize bareH H11 = S
    intro dS dF dhv dbw dov P11 nt sb
    refine t_unless (fault_ne (i := 5) (J := fun H' => L2.Same S H' ∧ LamX.Tabs Tb H') rfl nt sb T11 r2 (fun j s => ⟨j.1.trans s, j.2.ext s⟩) (fun H' j => Dh.same j.1 _ _ dbw) (fun H3 E3 Q3 s3 T3 bwr => ?_) fun H12 ⟨s12, T12⟩ => ⟨false, rfl, iteF ?_⟩)
    · refine mk_in (ta_two ((val_var rfl) _ ((val_var rfl) _ ?_)))
      exact room_1 (d := dB2) (e := .none) (Dh.same s3 _ _ dbw) r1 (bwr H3 bw ⟨s3, T3⟩ (Dh.same s3 _ _ dbw))
    refine t_unless (fault_ne (i := 7) (J := fun H' => L2.Same S H' ∧ LamX.Tabs Tb H') rfl nt s12 T12 o2 (fun j s => ⟨j.1.trans s, j.2.ext s⟩) (fun H' j => Dh.same j.1 _ _ dov) (fun H3 E3 Q3 s3 T3 bwr => ?_) fun H13 ⟨s13, T13⟩ => ⟨false, rfl, iteF ?_⟩)
    · refine mk_in (ta_two ((val_var rfl) _ ((val_var rfl) _ ?_)))
      exact room_2 (e := dO) (Dh.same s3 _ _ dS) (Dh.same s3 _ _ dov) o1 (bwr H3 ov ⟨s3, T3⟩ (Dh.same s3 _ _ dov))
    obtain ⟨h1, h2⟩ := hole_at hH
    refine t_unless (fault_ne (i := 6) (J := fun H' => L2.Same S H' ∧ LamX.Tabs Tb H') rfl nt s13 T13 h2 (fun j s => ⟨j.1.trans s, j.2.ext s⟩) (fun H' j => Dh.same j.1 _ _ dhv) (fun H3 E3 Q3 s3 T3 bwr => ?_) fun H14 ⟨s14, T14⟩ => ⟨false, rfl, iteF ?_⟩)
    · refine q_room2 (val_var rfl) (em_mkv (.lst (.cons (.var rfl (Dh.same s3 _ _ dF)) (.cons (.var rfl (Dh.same s3 _ _ dhv)) .nil)) (by show 2 ≤ 1000; decide)) _ (Same.refl _)) fun u H4 s4 du => ?_
      exact room_3 (i := 1) (r := dH) (Dh.same (s3.trans s4) _ _ dS) rfl (HoV.of du rfl) h1 rfl fun w dw => bwr H4 w ⟨s3.trans s4, T3.ext s4⟩ dw
    have dS := Dh.same s14 _ _ dS
    have dF := Dh.same s14 _ _ dF
    have dhv := Dh.same s14 _ _ dhv
    have P14 := P11.same s14
    clear P11 T11 T12 T13 s12 s13 s14 nt sb dbw dov r1 r2 o1 o2
    refine q_asg (l_pickD rfl P14 (by omega) sms.2.2 (by decide) (by decide) em_data fun ov2 dO2 H15 hO2 b15 P15 dov2 => ?_)
    have smO := smDA_mem sms.2.2 hO2
    have dS := (dS.butP (by decide +kernel) P14 b15).bare
    have dF := (dF.butP (by decide +kernel) P14 b15).bare
    have dhv := (dhv.butP smH P14 b15).bare
    have T15 := Tabs.but T14 P14 b15
    have dov2 := dov2.bare
    have P15 := P15.bare
    have nt := bare_no H15
    have sb := bare_in H15
    clear P14 T14 b15
    revert dS dF dhv dov2 P15 nt sb
    generalize bareH H15 = S
    intro dS dF dhv dov2 P15 nt sb
    refine t_unless1 (fault_ne (i := 6) (J := fun H' => (PenAt H' p c (20 * n + 7) ∧ Dh H' sv (.list sqL)) ∧ (Dh H' fv (.list fiL) ∧ Dh H' hv dH) ∧ LamX.Tabs Tb H') rfl nt sb T15 h2 (fun j s => ⟨⟨j.1.1.same s, Dh.same s _ _ j.1.2⟩, ⟨Dh.same s _ _ j.2.1.1, Dh.same s _ _ j.2.1.2⟩, j.2.2.ext s⟩) (fun H' j => j.2.1.2) (fun H3 E3 Q3 s3 T3 bwr => ?_) fun H16 j => ⟨false, rfl, iteF ?_⟩)
    · have dS := Dh.same s3 _ _ dS
      have dF := Dh.same s3 _ _ dF
      have dhv := Dh.same s3 _ _ dhv
      have dov2 := Dh.same s3 _ _ dov2
      have P3 := P15.same s3
      refine mk_in (ta_two (call_two ((val_var rfl) _ ((val_var rfl) _ (l_turn P3 (by omega) dS (by decide +kernel) (by decide) (by decide) fun tv H4 kk bb hk b4 P4 dt => ?_)))))
      have T4 := Tabs.but T3 P3 b4
      have dS := dS.butP (by decide +kernel) P3 b4
      have dF := dF.butP (by decide +kernel) P3 b4
      have dhv := dhv.butP smH P3 b4
      have dov2 := dov2.butP smO P3 b4
      refine tup_3 (em_rev (val_var rfl) dF _ fun rv H5 s5 dr => (val_var rfl) _ ((val_var rfl) _ ⟨by show 3 ≤ sizeLine; decide, fun q hq => ?_⟩))
      have s6 := Same.new' (o := .tup [rv, hv, ov2]) hq
      have u6 := s5.trans s6
      have du : Dh _ (.ref q) (.tuple [.list fiL.reverse, dH, dO2]) := .tup upd_same (.cons (Dh.same s6 _ _ dr) (.cons (Dh.same u6 _ _ dhv) (.cons (Dh.same u6 _ _ dov2) .nil)))
      exact room_3 (i := 1) (r := dH) (Dh.same u6 _ _ dt) rfl (HoV.of du rfl) (turned_at hk hH hO2) rfl fun w dw => bwr _ w ⟨⟨(P4.same u6).le (by omega), Dh.same u6 _ _ dS⟩, ⟨Dh.same u6 _ _ dF, Dh.same u6 _ _ dhv⟩, T4.ext u6⟩ dw
    · exact ⟨⟨_, _, _, _, _, _, _, _, _, rfl⟩, j.1.1.le (by omega), j.2.2, j.1.2, j.2.1.1⟩
  obtain ⟨⟨z4, z5, z6, z7, z8, z9, z10, z11, z12, rfl⟩, P5, T5, dS, dF⟩ := z
  clear P4 T4
  refine q_seqIf (not_in (b_in (c_call (va_cons (val_var rfl) (va_cons (val_var rfl) (va_cons (val_var rfl) va_nil))) ⟨p, c, 20 * 6, sv, fv, rfl, P5, by omega, T5, dS, dF, fun H6 dS dF P6 T6 => ⟨true, rfl, iteF ?_⟩⟩)))
  clear P6 T6
  have vp : ∀ H', Val (tOp (rI CPow fun i j => .int (i ^ j.toNat)) (tC (.int 10)) (tC (.int 9))) [some (.ref a), some (.ref p), some sv, some fv, z4, z5, z6, z7, z8, z9, z10, z11, z12] H' (.int 1000000000) := fun H' => v_pow val_c val_c (by decide)
  refine q_asg (em_mkv (H := H6) (.tup (.cons (.val (i := 2000000001) fun H' => v_add (i := 2000000000) (v_mul (i := 2) (j := 1000000000) val_c (vp H') (.inl ⟨by decide, by decide⟩)) val_c) (.cons (.val (i := 1000000000) vp) .nil)) (by decide)) H6 (Same.refl _) _ fun nv H7 s7 dn => ?_)
  have dS := Dh.same s7 _ _ dS
  have dF := Dh.same s7 _ _ dF
  clear s7 vp
  refine q_asg (call_two (l_tup (va_cons val_c (va_cons val_c va_nil)) (by show 2 ≤ 100000; decide) fun t1 ht1 => call_two (l_tup (va_cons val_c (va_cons val_c va_nil)) (by show 2 ≤ 100000; decide) fun t2 ht2 => l_tup (va_cons val_c (va_cons (v_mul (i := 2) (j := 1000000000) val_c (v_pow val_c val_c (by decide)) (.inl ⟨by decide, by decide⟩)) va_nil)) (by show 2 ≤ 100000; decide) fun t3 ht3 => ?_)))
  have w1 := Same.new' (o := .tup [.int 35, .int 1]) ht1
  have w2 := Same.new' (o := .tup [.int 1, .int 2]) ht2
  have w3 := Same.new' (o := .tup [.int 1, .int 2000000000]) ht3
  refine ⟨t2, t3, 1, 2, 1, 2000000000, rfl, w3 _ _ upd_same, upd_same, ⟨by decide +kernel, by decide +kernel⟩, ⟨by decide +kernel, by decide +kernel⟩, by decide, by decide, fun t4 H8 s8 e4 => ?_⟩
  have e4' : H8 t4 = some (.tup [.int 999999999, .int 2000000000]) := e4
  refine ⟨t1, t4, 35, 1, 999999999, 2000000000, rfl, s8 _ _ (w3 _ _ (w2 _ _ upd_same)), e4', ⟨by decide +kernel, by decide +kernel⟩, ⟨by decide +kernel, by decide +kernel⟩, by decide, by decide, fun t5 H9 s9 e5 => ?_⟩
  have e5 : H9 t5 = some (.tup [.int 69000000001, .int 2000000000]) := e5
  have u9 := w1.trans (w2.trans (w3.trans (s8.trans s9)))
  have dS := Dh.same u9 _ _ dS
  have dF := Dh.same u9 _ _ dF
  have dn := Dh.same u9 _ _ dn
  clear w1 w2 w3 s8 s9 u9 e4 e4' ht1 ht2 ht3
  have na : (areaM sqD [fiD, neD]).num = 69000000001 ∧ (areaM sqD [fiD, neD]).den = 2000000000 := by decide +kernel
  refine t_unless (op_in (mth_in (q_room2 (e := .list [.list fiL, .list neL]) (val_var rfl) (em_mkv (H := H9) (by repeat (first | exact MkvA.nil | refine MkvA.cons ?_ ?_ | exact Mkv.of (.int _) | exact Mkv.var rfl (by assumption) | refine Mkv.lst ?_ (by decide) | refine Mkv.tup ?_ (by decide))) _ (Same.refl _)) fun u H10 s10 du => room_0 (n := 32) (Dh.same s10 _ _ dS) rfl (HoV.of du rfl) f_nearly.1 f_both.2.2 f_nearly.2 fun x H11 s11 ra => area_k ra g_area.2.2.2.1 na fun ap H12 s12 ea => (val_var rfl) _ (ne_data (dp_pair ea) (dp_pair (s12 _ _ (s11 _ _ (s10 _ _ e5)))) (by decide +kernel) (by decide +kernel) ⟨false, rfl, iteF ?_⟩))))
  clear dS dF dn e5 s10 du s11 ra s12 ea
  have vp : ∀ H', Val (tOp (rI CPow fun i j => .int (i ^ j.toNat)) (tC (.int 10)) (tC (.int 9))) [some (.ref a), some (.ref p), some sv, some fv, z4, z5, z6, z7, z8, some nv, some (.ref t5), z11, z12] H' (.int 1000000000) := fun H' => v_pow val_c val_c (by decide)
  refine q_asg (q_roomD (d := .list clL) (em_mkv (H := H12) (by repeat (first | exact MkvA.nil | refine MkvA.cons ?_ ?_ | exact Mkv.of (.int _) | exact Mkv.val vp | refine Mkv.lst ?_ (by decide) | refine Mkv.tup ?_ (by decide))) _ (Same.refl _)) fun v H13 s13 dv => room_0 (n := 32) (e := .tuple []) dv rfl (hov0 TR _) f_close.1 f_close.2 rfl fun xc H14 s14 rc => ?_)
  clear dv s13 s14 vp
  refine q_asg (q_roomD (d := .list coL) (em_mkd (Mkd.lst (by repeat (first | exact MkA.nil | refine MkA.cons ?_ ?_ | exact Mkd.non | exact Mkd.int _ | exact Mkd.neg _ | exact Mkd.str _ | exact Mkd.bl _ | exact Mkd.dic (.inl _) _ | exact Mkd.rep3 _ | refine Mkd.lst ?_ (by decide) | refine Mkd.tup ?_ (by decide))) (by decide)) _ _) fun v H15 s15 dv => room_0 (e := .tuple []) dv rfl (hov0 TR _) f_comb.1 f_comb.2 rfl fun xb H16 s16 rb => ?_)
  have rc := rc.same (s15.trans s16)
  clear dv s15 s16
  have na : (areaM coD []).num = 8 ∧ (areaM coD []).den = 1 := by decide +kernel
  refine q_seqIf (l_or (t_op (mth_in ((val_var rfl) _ (area_k rb g_area.2.2.2.2 na fun ap H17 s17 ea => l_tup (va_cons val_c (va_cons val_c va_nil)) (by show 2 ≤ 100000; decide) fun t6 ht6 => ne_data (dp_pair ((Same.new' (o := .tup [.int 8, .int 1]) ht6) _ _ ea)) (dp_pair upd_same) (by decide +kernel) (by decide +kernel) ⟨false, rfl, iteF ?_⟩)))))
  have u18 := s17.trans (Same.new' (o := .tup [.int 8, .int 1]) ht6)
  have rb := rb.same u18
  have rc := rc.same u18
  clear ea u18 s17
  refine l_or (b_in (mth_in ((val_var rfl) _ (has_k rb (em_mkd (d := pq (pt 3 2) (.int 0)) (Mkd.tup (by repeat (first | exact MkA.nil | refine MkA.cons ?_ ?_ | exact Mkd.non | exact Mkd.int _ | exact Mkd.neg _ | exact Mkd.str _ | exact Mkd.bl _ | exact Mkd.dic (.inl _) _ | exact Mkd.rep3 _ | refine Mkd.lst ?_ (by decide) | refine Mkd.tup ?_ (by decide))) (by decide)) _ _) (by decide +kernel) g_has.2.2.2.2.2.2.1 comb_ok.2.2.1 fun H19 s19 => ⟨false, rfl, iteF ?_⟩))))
  have rb := rb.same s19
  have rc := rc.same s19
  refine not_in (b_in (mth_in ((val_var rfl) _ (has_k rb (em_mkd (d := pq (pt 3 2) (.int 1)) (Mkd.tup (by repeat (first | exact MkA.nil | refine MkA.cons ?_ ?_ | exact Mkd.non | exact Mkd.int _ | exact Mkd.neg _ | exact Mkd.str _ | exact Mkd.bl _ | exact Mkd.dic (.inl _) _ | exact Mkd.rep3 _ | refine Mkd.lst ?_ (by decide) | refine Mkd.tup ?_ (by decide))) (by decide)) _ _) (by decide +kernel) g_has.2.2.2.2.2.2.2 comb_ok.2.2.2 fun H20 s20 => ⟨true, rfl, iteF ?_⟩))))
  have rc := rc.same s20
  clear rb s19 s20 ht6
  obtain ⟨dx0, cc, hh, ss, ts, zs, eA, _, _, _, es, lz⟩ := id rc
  have le : zs.length = 5 := by rw [lz]; decide +kernel
  refine r_ret (andv_in (op_in (v_len (v_rfld (val_var rfl) eA TR.cls TR.ns lk_s) (.inr (SqT.of es)) _ (val_c _ ⟨rfl, _, rfl, ?_⟩))))
  rw [le]
  refine iteT (andv_in (mth_in ((val_var rfl) _ (has_k rc (em_mkd (d := pt 2 0) (Mkd.tup (by repeat (first | exact MkA.nil | refine MkA.cons ?_ ?_ | exact Mkd.non | exact Mkd.int _ | exact Mkd.neg _ | exact Mkd.str _ | exact Mkd.bl _ | exact Mkd.dic (.inl _) _ | exact Mkd.rep3 _ | refine Mkd.lst ?_ (by decide) | refine Mkd.tup ?_ (by decide))) (by decide)) _ _) (by decide +kernel) g_has.2.2.2.2.1 close_ok.2.1 fun H21 s21 => ⟨true, rfl, iteT ?_⟩))))
  have vp : ∀ H', Val (tOp (rI CPow fun i j => .int (i ^ j.toNat)) (tC (.int 10)) (tC (.int 9))) [some (.ref a), some (.ref p), some sv, some fv, z4, z5, z6, z7, z8, some nv, some (.ref t5), some (.ref xc), some (.ref xb)] H' (.int 1000000000) := fun H' => v_pow val_c val_c (by decide)
  refine notv_in (mth_in ((val_var rfl) _ (has_k (rc.same s21) (em_mkv (H := H21) (d := pq (.int 2) (pt 2 1000000000)) (by repeat (first | exact MkvA.nil | refine MkvA.cons ?_ ?_ | exact Mkv.of (.int _) | exact Mkv.val vp | refine Mkv.lst ?_ (by decide) | refine Mkv.tup ?_ (by decide))) _ (Same.refl _)) (by decide +kernel) g_has.2.2.2.2.2.1 close_ok.2.2 fun H22 s22 => ⟨false, rfl, k _⟩)))
end
end LW

namespace LW
open PySem PySem.Spec PyProof.Rows L2 GL
theorem fin_law {P : Program} {w : World} {K : PySem.W.Frag} {mg : Str → Option Value} {h : Heap} {cC cD : Addr} (T : Txt K mg) (TR : RoomT K mg) (TM : RoomM K mg) (xE : dE K = true) (ne0 : He.tabOf K (He.codeOf K ("law", none)) ≠ He.tabOf K (He.codeOf K ("_law_crossings_right", none))) (qC : cC = He.codeOf K ("law", none)) (qD : cD = He.codeOf K ("_law_crossings_right", none)) (h1 : (fDat K (fA mg "law")).code = .ref cC) (h2 : (fDat K (fA mg "_law_crossings_right")).code = .ref cD)
    (tc : h.get? (He.tabOf K cC) = some { cls := .none, data := .fields #[] }) (nc : K.lookup (He.tabOf K cC) = none) (kc : PySem.W.codeHdIn K cC (He.tabOf K cC) = true) (td : h.get? (He.tabOf K cD) = some { cls := .none, data := .fields #[] }) (nd : K.lookup (He.tabOf K cD) = none) (kd : PySem.W.codeHdIn K cD (He.tabOf K cD) = true) :
    GL.LawT P w K 17 63 "_law_script" mg (fA mg "law") h := by
  have ne : He.tabOf K cC ≠ He.tabOf K cD := by rw [qC, qD]; exact ne0
  generalize He.tabOf K cC = cP at *
  generalize He.tabOf K cD = dP at *
  let Tb : List (Addr × Str) := [(cP, (("law" : Str) ++ (".<locals>." : Str)) ++ ("<lambda>" : Str)), (dP, (("_law_crossings_right" : Str) ++ (".<locals>." : Str)) ++ ("<lambda>" : Str))]
  refine ⟨_, [(cC, cP), (cD, dP)], spLaw K Tb, fun p hp => ?_, T.lb, fun H a ns hl hH hS => ⟨a, ns, rfl, hS, hl, fun p hp => ?_, fun _ => rfl⟩, fun base _ _ TB => ?_⟩
  · rcases List.mem_cons.mp hp with rfl | hp
    · exact ⟨tc, nc, kc⟩
    · rw [List.mem_singleton.mp hp]
      exact ⟨td, nd, kd⟩
  · rcases List.mem_cons.mp hp with rfl | hp
    · exact LamX.TabS.nil (hH (cC, cP) (List.mem_cons_self ..))
    · rw [List.mem_singleton.mp hp]
      exact LamX.TabS.nil (hH (cD, dP) (List.mem_cons_of_mem _ (List.mem_singleton.mpr rfl)))
  · refine ok_law (cC := cC) (cP := cP) (Tb := Tb) T TR TM (TB (cC, cP) (List.mem_cons_self ..)) h1 (List.mem_cons_self ..) (fun p hp e => ?_) (ok_law_crossings_right (cC := cD) (cP := dP) (Tb := Tb) T TR TM (TB (cD, dP) (List.mem_cons_of_mem _ (List.mem_singleton.mpr rfl))) h2 (List.mem_cons_of_mem _ (List.mem_singleton.mpr rfl)) (fun p hp e => ?_))
    · rcases List.mem_cons.mp hp with rfl | hp
      · rfl
      · rw [List.mem_singleton.mp hp] at e
        exact (ne e.symm).elim
    · rcases List.mem_cons.mp hp with rfl | hp
      · exact (ne e).elim
      · rw [List.mem_singleton.mp hp]
end LW

namespace LW
open PySem PySem.Spec PyProof.Rows L2 GL
theorem dE_of {K : PySem.W.Frag} (h : dE K = true) : ∀ H : Hp, SqT K H (He.dflAt ("Room", some "__init__") 0 K) [] := fun H => by
  unfold dE at h
  split at h
  · rename_i c od its n sl e
    simp only [Bool.and_eq_true, decide_eq_true_eq] at h
    have e2 : its = #[] := Array.toList_inj.mp h.2
    subst e2
    refine .inr ⟨_, #[], n, e, by rw [h.1], rfl, by decide, ?_⟩
    exact .nil
  · cases h
theorem dfl_eq {K : PySem.W.Frag} {f : Addr} (h : He.fAd K ("Room", some "__init__") = f) : He.dflAt ("Room", some "__init__") 0 K = dfl0 K f := by
  unfold He.dflAt dfl0
  rw [h]
  simp only [List.head?_eq_getElem?]
  rfl
theorem roomT_of {K : PySem.W.Frag} {mg : Str → Option Value} {fdR : FuncData} (g : mg "Room" = some (.ref (He.ga K "Room"))) (cls : Cls K (He.ga K "Room")) (mk : Mk K (He.ga K "Room") (He.ma K (He.ga K "Room") "__init__")) (nc : NoAttr K (He.ga K "Room") "corners") (nh : NoAttr K (He.ga K "Room") "holes") (ns : NoAttr K (He.ga K "Room") "sides")
    (F : FunD K "__init__" "Room.__init__" (defArgs sRoom_init) (defBody sRoom_init) (defScope sRoom_init) [.ref (He.dflAt ("Room", some "__init__") 0 K)] [] (He.ma K (He.ga K "Room") "__init__") fdR) (e0 : dE K = true) : RoomT K mg := by
  have eC : rmA mg = He.ga K "Room" := fA_of g
  have e : mA K (rmA mg) "__init__" = He.ma K (He.ga K "Room") "__init__" := by rw [eC]; exact mA_of mk.init
  have ed : dfl0 K (mA K (rmA mg) "__init__") = He.dflAt ("Room", some "__init__") 0 K := by rw [e]; exact (dfl_eq rfl).symm
  exact { g := (by rw [eC]; exact g), cls := (by rw [eC]; exact cls), mkc := (by rw [e, eC]; exact mk), nc := (by rw [eC]; exact nc), nh := (by rw [eC]; exact nh), ns := (by rw [eC]; exact ns), F := (by rw [ed, e]; exact GE.funD_dat F), e0 := (by rw [ed]; exact dE_of e0) }
theorem roomM_of {K : PySem.W.Frag} {mg : Str → Option Value} (g : mg "Room" = some (.ref (He.ga K "Room"))) (m1 : Me K (He.ga K "Room") "has" "Room.has" (inClass (top 36) 1) ["self", "place"]) (m2 : Me K (He.ga K "Room") "area" "Room.area" (inClass (top 36) 2) ["self"]) : RoomM K mg := by
  have eC : rmA mg = He.ga K "Room" := fA_of g
  exact ⟨by rw [eC]; exact m1, by rw [eC]; exact m2⟩
theorem Me.mk' {K : PySem.W.Frag} {C f : Addr} {m q : Str} {st : Stmt} {ps : List Str} {oc : Value} {od an : Option Addr} {osl : Array (Option Value)} {kV doc pm cdv ct : Value} (i : PySem.W.findIn K (.ref C) m = some (some (.ref f))) (n : PySem.W.isFn K (.ref f) = true)
    (l : K.lookup f = some ⟨oc, od, .func (PySem.W.fnOf m q (defArgs st) (defBody st) (defScope st) .none kV doc pm an cdv ct), osl⟩) (c : PySem.W.codeIn K cdv q = true) (k : PySem.W.keepIn K (.ref f) = true)
    (bi : ∀ (kV doc pm : Value) (an : Option Addr) (cdv ct : Value) (us : List Value), us.length = ps.length → bindArgs (PySem.W.fnOf m q (defArgs st) (defBody st) (defScope st) .none kV doc pm an cdv ct) ⟨us, []⟩ = pure (ps.zip us)) : Me K C m q st ps := by
  have c2 : mA K C m = f := mA_of i
  have c3 := fDat_of l
  have F := fun_mk (st := st) l c k
  exact ⟨by rw [c2]; exact i, by rw [c2]; exact n, by rw [c2, c3]; exact F, by rw [c2, c3]; exact F.binds bi⟩
theorem Me.ofX {fa : List He.Fa} {fn : List He.DefD} {K : PySem.W.Frag} {C m q : Str} {st : Stmt} {ps : List Str} (c : He.SaysD fa fn K) (i : PySem.W.findIn K (.ref (He.ga K C)) m = some (some (.ref (He.ma K (He.ga K C) m)))) (n : PySem.W.isFn K (.ref (He.ma K (He.ga K C) m)) = true)
    (k : Nat) (e : fn[k]? = some (GL.mDef C m q st))
    (bi : ∀ (kV doc pm : Value) (an : Option Addr) (cdv ct : Value) (us : List Value), us.length = ps.length → bindArgs (PySem.W.fnOf m q (defArgs st) (defBody st) (defScope st) .none kV doc pm an cdv ct) ⟨us, []⟩ = pure (ps.zip us)) : Me K (He.ga K C) m q st ps := by
  obtain ⟨_, _, _, _, _, _, _, _, _, l, cd, kp⟩ := GL.defM c k e
  exact Me.mk' i n l cd kp bi
theorem ClI.ofX {fa : List He.Fa} {fn : List He.DefD} {K : PySem.W.Frag} {mg : Str → Option Value} {x qual : Str} {st : Stmt} {ps fs : List Str} {h : Heap} (X : K.In h) (G : h.Ns mainGlobals mg) (cd : He.SaysD fa fn K)
    (a : PySem.W.nsIn K mainGlobals x = some (some (.ref (He.ga K x)))) (e : ExcC K (He.ga K x)) (o : OexC K (He.ga K x)) (i : PySem.W.findIn K (.ref (He.ga K x)) "__init__" = some (some (.ref (He.ma K (He.ga K x) "__init__")))) (t : PySem.W.typeIn K (.ref (He.ma K (He.ga K x) "__init__")) = some (.type "function"))
    (k : Nat) (hk : fn[k]? = some (GL.mDef x "__init__" qual st))
    (bi : ∀ (kV doc pm : Value) (an : Option Addr) (cdv ct : Value) (us : List Value), us.length = ps.length → bindArgs (PySem.W.fnOf "__init__" qual (defArgs st) (defBody st) (defScope st) .none kV doc pm an cdv ct) ⟨us, []⟩ = pure (ps.zip us))
    (n : ∀ f ∈ fs, PySem.W.findIn K (.ref (He.ga K x)) f = some none) : ClI K mg x qual st ps fs := by
  obtain ⟨_, _, _, _, _, _, _, _, _, l, cdi, kp⟩ := GL.defM cd k hk
  exact ClI.mk' X G a e o i t l cdi kp bi n
set_option maxHeartbeats 0 in
theorem factsX {w : World} {K : PySem.W.Frag} {h : Heap} {mg : Str → Option Value} {Z : Prop} (X : K.In h) (G : h.Ns mainGlobals mg) (c : He.SaysX [] fn [] tf ex w h K)
    (fin : Txt K mg → RoomT K mg → RoomM K mg → dE K = true → He.tabOf K (He.codeOf K ("law", none)) ≠ He.tabOf K (He.codeOf K ("_law_crossings_right", none)) → ∀ cC : Addr, cC = He.codeOf K ("law", none) → (fDat K (fA mg "law")).code = .ref cC → ∀ cD : Addr, cD = He.codeOf K ("_law_crossings_right", none) → (fDat K (fA mg "_law_crossings_right")).code = .ref cD → Z) : Z := by
  have cd := c.t.d
  have m0 : ex K = true := c.more
  obtain ⟨e0, m1⟩ := He.ba m0
  obtain ⟨e1, m2⟩ := He.ba m1
  obtain ⟨e2, m3⟩ := He.ba m2
  obtain ⟨e3, m4⟩ := He.ba m3
  have e4 := m4
  have qxL_BadNumber : GL.xcB K (He.ga K "BadNumber") = true := GL.chk e0 0 rfl
  have qxL_BadRow : GL.xcB K (He.ga K "BadRow") = true := GL.chk e0 1 rfl
  have qxL_Shared : GL.xcB K (He.ga K "Shared") = true := GL.chk e0 2 rfl
  have z_int : PySem.W.nsIn K mainGlobals "int" = some none := GL.chk e0 3 rfl
  have z_bool : PySem.W.nsIn K mainGlobals "bool" = some none := GL.chk e0 4 rfl
  have z_list : PySem.W.nsIn K mainGlobals "list" = some none := GL.chk e0 5 rfl
  have z_tuple : PySem.W.nsIn K mainGlobals "tuple" = some none := GL.chk e0 6 rfl
  have z_len : PySem.W.nsIn K mainGlobals "len" = some none := GL.chk e0 7 rfl
  have z_range : PySem.W.nsIn K mainGlobals "range" = some none := GL.chk e0 8 rfl
  have z_isinstance : PySem.W.nsIn K mainGlobals "isinstance" = some none := GL.chk e0 9 rfl
  have z_repr : PySem.W.nsIn K mainGlobals "repr" = some none := GL.chk e0 10 rfl
  have z_abs : PySem.W.nsIn K mainGlobals "abs" = some none := GL.chk e0 11 rfl
  have z_all : PySem.W.nsIn K mainGlobals "all" = some none := GL.chk e0 12 rfl
  have z_zip : PySem.W.nsIn K mainGlobals "zip" = some none := GL.chk e0 13 rfl
  have z_any : PySem.W.nsIn K mainGlobals "any" = some none := GL.chk e0 14 rfl
  have z_sum : PySem.W.nsIn K mainGlobals "sum" = some none := GL.chk e0 15 rfl
  have z_enumerate : PySem.W.nsIn K mainGlobals "enumerate" = some none := GL.chk e0 16 rfl
  have g_gcd : PySem.W.nsIn K mainGlobals "gcd" = some (some (.builtin "math.gcd")) := GL.chk e0 17 rfl
  have g_lcm : PySem.W.nsIn K mainGlobals "lcm" = some (some (.builtin "math.lcm")) := GL.chk e0 18 rfl
  have a_is_ratio : PySem.W.nsIn K mainGlobals "is_ratio" = some (some (.ref (He.ga K "is_ratio"))) := GL.chk e0 19 rfl
  have a_told : PySem.W.nsIn K mainGlobals "told" = some (some (.ref (He.ga K "told"))) := GL.chk e0 20 rfl
  have a_minus : PySem.W.nsIn K mainGlobals "minus" = some (some (.ref (He.ga K "minus"))) := GL.chk e0 21 rfl
  have a_is_integer : PySem.W.nsIn K mainGlobals "is_integer" = some (some (.ref (He.ga K "is_integer"))) := GL.chk e0 22 rfl
  have a_parts : PySem.W.nsIn K mainGlobals "_parts" = some (some (.ref (He.ga K "_parts"))) := GL.chk e0 23 rfl
  have a_lowest : PySem.W.nsIn K mainGlobals "_lowest" = some (some (.ref (He.ga K "_lowest"))) := GL.chk e0 24 rfl
  have a_is_row : PySem.W.nsIn K mainGlobals "is_row" = some (some (.ref (He.ga K "is_row"))) := GL.chk e1 0 rfl
  have a_is_row_of : PySem.W.nsIn K mainGlobals "is_row_of" = some (some (.ref (He.ga K "is_row_of"))) := GL.chk e1 1 rfl
  have a_is_place : PySem.W.nsIn K mainGlobals "is_place" = some (some (.ref (He.ga K "is_place"))) := GL.chk e1 2 rfl
  have a_pair_of : PySem.W.nsIn K mainGlobals "pair_of" = some (some (.ref (He.ga K "pair_of"))) := GL.chk e1 3 rfl
  have a_place_of : PySem.W.nsIn K mainGlobals "place_of" = some (some (.ref (He.ga K "place_of"))) := GL.chk e1 4 rfl
  have a_bottom_of : PySem.W.nsIn K mainGlobals "bottom_of" = some (some (.ref (He.ga K "bottom_of"))) := GL.chk e1 5 rfl
  have a_whole_row : PySem.W.nsIn K mainGlobals "whole_row" = some (some (.ref (He.ga K "whole_row"))) := GL.chk e1 6 rfl
  have a_border_of : PySem.W.nsIn K mainGlobals "border_of" = some (some (.ref (He.ga K "border_of"))) := GL.chk e1 7 rfl
  have a_grid_of : PySem.W.nsIn K mainGlobals "grid_of" = some (some (.ref (He.ga K "grid_of"))) := GL.chk e1 8 rfl
  have a_sides_of : PySem.W.nsIn K mainGlobals "sides_of" = some (some (.ref (He.ga K "sides_of"))) := GL.chk e1 9 rfl
  have a_turned_sides : PySem.W.nsIn K mainGlobals "turned_sides" = some (some (.ref (He.ga K "turned_sides"))) := GL.chk e1 10 rfl
  have a_area_of : PySem.W.nsIn K mainGlobals "area_of" = some (some (.ref (He.ga K "area_of"))) := GL.chk e1 11 rfl
  have a_where : PySem.W.nsIn K mainGlobals "where" = some (some (.ref (He.ga K "where"))) := GL.chk e1 12 rfl
  have a_has_apart : PySem.W.nsIn K mainGlobals "has_apart" = some (some (.ref (He.ga K "has_apart"))) := GL.chk e1 13 rfl
  have a_goes_once : PySem.W.nsIn K mainGlobals "_goes_once" = some (some (.ref (He.ga K "_goes_once"))) := GL.chk e1 14 rfl
  have a_edges : PySem.W.nsIn K mainGlobals "_edges" = some (some (.ref (He.ga K "_edges"))) := GL.chk e1 15 rfl
  have a_have_meeting : PySem.W.nsIn K mainGlobals "_have_meeting" = some (some (.ref (He.ga K "_have_meeting"))) := GL.chk e1 16 rfl
  have a_turn : PySem.W.nsIn K mainGlobals "_turn" = some (some (.ref (He.ga K "_turn"))) := GL.chk e1 17 rfl
  have a_twice_area : PySem.W.nsIn K mainGlobals "_twice_area" = some (some (.ref (He.ga K "_twice_area"))) := GL.chk e1 18 rfl
  have a_told_holes : PySem.W.nsIn K mainGlobals "_told_holes" = some (some (.ref (He.ga K "_told_holes"))) := GL.chk e1 19 rfl
  have a_law_pen : PySem.W.nsIn K mainGlobals "_law_pen" = some (some (.ref (He.ga K "_law_pen"))) := GL.chk e1 20 rfl
  have a_law_draw : PySem.W.nsIn K mainGlobals "_law_draw" = some (some (.ref (He.ga K "_law_draw"))) := GL.chk e1 21 rfl
  have a_law_pick : PySem.W.nsIn K mainGlobals "_law_pick" = some (some (.ref (He.ga K "_law_pick"))) := GL.chk e1 22 rfl
  have a_law_gcd : PySem.W.nsIn K mainGlobals "_law_gcd" = some (some (.ref (He.ga K "_law_gcd"))) := GL.chk e1 23 rfl
  have a_law_q : PySem.W.nsIn K mainGlobals "_law_q" = some (some (.ref (He.ga K "_law_q"))) := GL.chk e1 24 rfl
  have a_law_minus : PySem.W.nsIn K mainGlobals "_law_minus" = some (some (.ref (He.ga K "_law_minus"))) := GL.chk e2 0 rfl
  have a_law_turned_row : PySem.W.nsIn K mainGlobals "_law_turned_row" = some (some (.ref (He.ga K "_law_turned_row"))) := GL.chk e2 1 rfl
  have a_law_fault : PySem.W.nsIn K mainGlobals "_law_fault" = some (some (.ref (He.ga K "_law_fault"))) := GL.chk e2 2 rfl
  have a_law_bad_rows : PySem.W.nsIn K mainGlobals "_law_bad_rows" = some (some (.ref (He.ga K "_law_bad_rows"))) := GL.chk e2 3 rfl
  have a_law_bad_holes : PySem.W.nsIn K mainGlobals "_law_bad_holes" = some (some (.ref (He.ga K "_law_bad_holes"))) := GL.chk e2 4 rfl
  have a_law_crossed_rows : PySem.W.nsIn K mainGlobals "_law_crossed_rows" = some (some (.ref (He.ga K "_law_crossed_rows"))) := GL.chk e2 5 rfl
  have a_law_long_rows : PySem.W.nsIn K mainGlobals "_law_long_rows" = some (some (.ref (He.ga K "_law_long_rows"))) := GL.chk e2 6 rfl
  have a_law_crossings_right : PySem.W.nsIn K mainGlobals "_law_crossings_right" = some (some (.ref (He.ga K "_law_crossings_right"))) := GL.chk e2 7 rfl
  have a_law : PySem.W.nsIn K mainGlobals "law" = some (some (.ref (He.ga K "law"))) := GL.chk e2 8 rfl
  have hn_ : PySem.W.specialIn K (.builtin "object.__class__") "__get__" = some (some (.builtin "getset_descriptor.__get__")) := GL.chk e2 9 rfl
  have ht_ : PySem.W.takesIn K (.builtin "object.__class__") = some true := GL.chk e2 10 rfl
  have a_BadNumber : PySem.W.nsIn K mainGlobals "BadNumber" = some (some (.ref (He.ga K "BadNumber"))) := GL.chk e2 11 rfl
  have ga_BadNumber : PySem.W.findIn K (.ref (He.ga K "BadNumber")) "__getattribute__" = some (some (.builtin "BaseException.__getattribute__")) := GL.chk e2 12 rfl
  have gg_BadNumber : PySem.W.findIn K (.ref (He.ga K "BadNumber")) "__getattr__" = some none := GL.chk e2 13 rfl
  have sb_BadNumber : PySem.W.subIn K (.ref (He.ga K "BadNumber")) (.type "BaseException") = some true := GL.chk e2 14 rfl
  have hd_BadNumber : PySem.W.hasDictIn K (He.ga K "BadNumber") = true := GL.chk e2 15 rfl
  have ca_BadNumber : PySem.W.findIn K (.ref (He.ga K "BadNumber")) "__class__" = some (some (.builtin "object.__class__")) := GL.chk e2 16 rfl
  have mo_BadNumber : PySem.W.mroIn K (He.ga K "BadNumber") (.type "object") = some true := GL.chk e2 17 rfl
  have kp_BadNumber : PySem.W.keepIn K (.ref (He.ga K "BadNumber")) = true := GL.chk e2 18 rfl
  have sa_BadNumber : PySem.W.findIn K (.ref (He.ga K "BadNumber")) "__setattr__" = some (some (.builtin "object.__setattr__")) := GL.chk e2 19 rfl
  have ty_BadNumber : PySem.W.typeIn K (.ref (He.ga K "BadNumber")) = some (.type "type") := GL.chk e2 20 rfl
  have i_BadNumber : PySem.W.findIn K (.ref (He.ga K "BadNumber")) "__init__" = some (some (.ref (He.ma K (He.ga K "BadNumber") "__init__"))) := GL.chk e2 21 rfl
  have t_BadNumber : PySem.W.typeIn K (.ref (He.ma K (He.ga K "BadNumber") "__init__")) = some (.type "function") := GL.chk e2 22 rfl
  have n_BadNumber_what : PySem.W.findIn K (.ref (He.ga K "BadNumber")) "what" = some none := GL.chk e2 23 rfl
  have n_BadNumber_number : PySem.W.findIn K (.ref (He.ga K "BadNumber")) "number" = some none := GL.chk e2 24 rfl
  have a_BadRow : PySem.W.nsIn K mainGlobals "BadRow" = some (some (.ref (He.ga K "BadRow"))) := GL.chk e3 0 rfl
  have ga_BadRow : PySem.W.findIn K (.ref (He.ga K "BadRow")) "__getattribute__" = some (some (.builtin "BaseException.__getattribute__")) := GL.chk e3 1 rfl
  have gg_BadRow : PySem.W.findIn K (.ref (He.ga K "BadRow")) "__getattr__" = some none := GL.chk e3 2 rfl
  have sb_BadRow : PySem.W.subIn K (.ref (He.ga K "BadRow")) (.type "BaseException") = some true := GL.chk e3 3 rfl
  have hd_BadRow : PySem.W.hasDictIn K (He.ga K "BadRow") = true := GL.chk e3 4 rfl
  have ca_BadRow : PySem.W.findIn K (.ref (He.ga K "BadRow")) "__class__" = some (some (.builtin "object.__class__")) := GL.chk e3 5 rfl
  have mo_BadRow : PySem.W.mroIn K (He.ga K "BadRow") (.type "object") = some true := GL.chk e3 6 rfl
  have kp_BadRow : PySem.W.keepIn K (.ref (He.ga K "BadRow")) = true := GL.chk e3 7 rfl
  have sa_BadRow : PySem.W.findIn K (.ref (He.ga K "BadRow")) "__setattr__" = some (some (.builtin "object.__setattr__")) := GL.chk e3 8 rfl
  have ty_BadRow : PySem.W.typeIn K (.ref (He.ga K "BadRow")) = some (.type "type") := GL.chk e3 9 rfl
  have i_BadRow : PySem.W.findIn K (.ref (He.ga K "BadRow")) "__init__" = some (some (.ref (He.ma K (He.ga K "BadRow") "__init__"))) := GL.chk e3 10 rfl
  have t_BadRow : PySem.W.typeIn K (.ref (He.ma K (He.ga K "BadRow") "__init__")) = some (.type "function") := GL.chk e3 11 rfl
  have n_BadRow_row : PySem.W.findIn K (.ref (He.ga K "BadRow")) "row" = some none := GL.chk e3 12 rfl
  have a_Shared : PySem.W.nsIn K mainGlobals "Shared" = some (some (.ref (He.ga K "Shared"))) := GL.chk e3 13 rfl
  have ga_Shared : PySem.W.findIn K (.ref (He.ga K "Shared")) "__getattribute__" = some (some (.builtin "BaseException.__getattribute__")) := GL.chk e3 14 rfl
  have gg_Shared : PySem.W.findIn K (.ref (He.ga K "Shared")) "__getattr__" = some none := GL.chk e3 15 rfl
  have sb_Shared : PySem.W.subIn K (.ref (He.ga K "Shared")) (.type "BaseException") = some true := GL.chk e3 16 rfl
  have hd_Shared : PySem.W.hasDictIn K (He.ga K "Shared") = true := GL.chk e3 17 rfl
  have ca_Shared : PySem.W.findIn K (.ref (He.ga K "Shared")) "__class__" = some (some (.builtin "object.__class__")) := GL.chk e3 18 rfl
  have mo_Shared : PySem.W.mroIn K (He.ga K "Shared") (.type "object") = some true := GL.chk e3 19 rfl
  have kp_Shared : PySem.W.keepIn K (.ref (He.ga K "Shared")) = true := GL.chk e3 20 rfl
  have sa_Shared : PySem.W.findIn K (.ref (He.ga K "Shared")) "__setattr__" = some (some (.builtin "object.__setattr__")) := GL.chk e3 21 rfl
  have ty_Shared : PySem.W.typeIn K (.ref (He.ga K "Shared")) = some (.type "type") := GL.chk e3 22 rfl
  have i_Shared : PySem.W.findIn K (.ref (He.ga K "Shared")) "__init__" = some (some (.ref (He.ma K (He.ga K "Shared") "__init__"))) := GL.chk e3 23 rfl
  have t_Shared : PySem.W.typeIn K (.ref (He.ma K (He.ga K "Shared") "__init__")) = some (.type "function") := GL.chk e3 24 rfl
  have n_Shared_plane : PySem.W.findIn K (.ref (He.ga K "Shared")) "plane" = some none := GL.chk e4 0 rfl
  have e_xBadRowBadNumber : PySem.W.exmOne K (.ref (He.ga K "BadRow")) (.ref (He.ga K "BadNumber")) = some false := GL.chk e4 1 rfl
  have e_xBadRowBadRow : PySem.W.exmOne K (.ref (He.ga K "BadRow")) (.ref (He.ga K "BadRow")) = some true := GL.chk e4 2 rfl
  have a_Room : PySem.W.nsIn K mainGlobals "Room" = some (some (.ref (He.ga K "Room"))) := GL.chk e4 3 rfl
  have r_pg : PySem.W.plainGet K (He.ga K "Room") Str.empty = true := GL.chk e4 4 rfl
  have r_hd : PySem.W.hasDictIn K (He.ga K "Room") = true := GL.chk e4 5 rfl
  have r_po : PySem.W.plainOver K (He.ga K "Room") = true := GL.chk e4 6 rfl
  have r_sa : PySem.W.findIn K (.ref (He.ga K "Room")) "__setattr__" = some (some (.builtin "object.__setattr__")) := GL.chk e4 7 rfl
  have r_mk : PySem.W.makesIn K (He.ga K "Room") = true := GL.chk e4 8 rfl
  have r_kp : PySem.W.keepIn K (.ref (He.ga K "Room")) = true := GL.chk e4 9 rfl
  have r_nocorners : PySem.W.findIn K (.ref (He.ga K "Room")) "corners" = some none := GL.chk e4 10 rfl
  have r_noholes : PySem.W.findIn K (.ref (He.ga K "Room")) "holes" = some none := GL.chk e4 11 rfl
  have r_nosides : PySem.W.findIn K (.ref (He.ga K "Room")) "sides" = some none := GL.chk e4 12 rfl
  have ir_init : PySem.W.findIn K (.ref (He.ga K "Room")) "__init__" = some (some (.ref (He.ma K (He.ga K "Room") "__init__"))) := GL.chk e4 13 rfl
  have nr_init : PySem.W.isFn K (.ref (He.ma K (He.ga K "Room") "__init__")) = true := GL.chk e4 14 rfl
  have ir_has : PySem.W.findIn K (.ref (He.ga K "Room")) "has" = some (some (.ref (He.ma K (He.ga K "Room") "has"))) := GL.chk e4 15 rfl
  have nr_has : PySem.W.isFn K (.ref (He.ma K (He.ga K "Room") "has")) = true := GL.chk e4 16 rfl
  have ir_area : PySem.W.findIn K (.ref (He.ga K "Room")) "area" = some (some (.ref (He.ma K (He.ga K "Room") "area"))) := GL.chk e4 17 rfl
  have nr_area : PySem.W.isFn K (.ref (He.ma K (He.ga K "Room") "area")) = true := GL.chk e4 18 rfl
  have x_dE : dE K = true := GL.chk e4 19 rfl
  have x_ne : He.tabOf K (He.codeOf K ("law", none)) ≠ He.tabOf K (He.codeOf K ("_law_crossings_right", none)) := GL.chk e4 20 rfl
  obtain ⟨_, _, _, _, bm_xL_BadNumber, _, _, _, _, _, _, _, _, _, _, xL_BadNumber, rb_BadNumber⟩ := GL.xcB_ok qxL_BadNumber
  obtain ⟨_, _, _, _, bm_xL_BadRow, _, _, _, _, _, _, _, _, _, _, xL_BadRow, rb_BadRow⟩ := GL.xcB_ok qxL_BadRow
  obtain ⟨_, _, _, _, bm_xL_Shared, _, _, _, _, _, _, _, _, _, _, xL_Shared, rb_Shared⟩ := GL.xcB_ok qxL_Shared
  obtain ⟨cC, ecC, hcC⟩ := GL.lawX X G cd a_law 39 rfl
  obtain ⟨cD, ecD, hcD⟩ := GL.lawX X G cd a_law_crossings_right 38 rfl
  obtain ⟨fdR, FR⟩ := He.SaysD.def_ cd 43 (d := ⟨("Room", some "__init__"), "__init__", "Room.__init__", defArgs (inClass (top 36) 0), defBody (inClass (top 36) 0), defScope (inClass (top 36) 0), [.adr (He.dflAt ("Room", some "__init__") 0)], []⟩) rfl
  exact fin {
  int := PySem.W.mg_none_of X G z_int
  bool := PySem.W.mg_none_of X G z_bool
  list := PySem.W.mg_none_of X G z_list
  tuple := PySem.W.mg_none_of X G z_tuple
  len := PySem.W.mg_none_of X G z_len
  range := PySem.W.mg_none_of X G z_range
  isinstance := PySem.W.mg_none_of X G z_isinstance
  repr := PySem.W.mg_none_of X G z_repr
  abs := PySem.W.mg_none_of X G z_abs
  all := PySem.W.mg_none_of X G z_all
  zip := PySem.W.mg_none_of X G z_zip
  any := PySem.W.mg_none_of X G z_any
  sum := PySem.W.mg_none_of X G z_sum
  enumerate := PySem.W.mg_none_of X G z_enumerate
  gcd := PySem.W.mg_of X G g_gcd
  lcm := PySem.W.mg_of X G g_lcm
  is_ratio := GL.dfX X G cd a_is_ratio 0 rfl fun _ _ _ _ _ _ us hl => match us, hl with | [_], _ => rfl
  told := GL.dfX X G cd a_told 1 rfl fun _ _ _ _ _ _ us hl => match us, hl with | [_, _], _ => rfl
  minus := GL.dfX X G cd a_minus 2 rfl fun _ _ _ _ _ _ us hl => match us, hl with | [_, _], _ => rfl
  is_integer := GL.dfX X G cd a_is_integer 3 rfl fun _ _ _ _ _ _ us hl => match us, hl with | [_], _ => rfl
  _parts := GL.dfX X G cd a_parts 4 rfl fun _ _ _ _ _ _ us hl => match us, hl with | [_, _], _ => rfl
  _lowest := GL.dfX X G cd a_lowest 5 rfl fun _ _ _ _ _ _ us hl => match us, hl with | [_, _], _ => rfl
  is_row := GL.dfX X G cd a_is_row 6 rfl fun _ _ _ _ _ _ us hl => match us, hl with | [_], _ => rfl
  is_row_of := GL.dfX X G cd a_is_row_of 7 rfl fun _ _ _ _ _ _ us hl => match us, hl with | [_, _], _ => rfl
  is_place := GL.dfX X G cd a_is_place 8 rfl fun _ _ _ _ _ _ us hl => match us, hl with | [_], _ => rfl
  pair_of := GL.dfX X G cd a_pair_of 9 rfl fun _ _ _ _ _ _ us hl => match us, hl with | [_], _ => rfl
  place_of := GL.dfX X G cd a_place_of 10 rfl fun _ _ _ _ _ _ us hl => match us, hl with | [_], _ => rfl
  bottom_of := GL.dfX X G cd a_bottom_of 11 rfl fun _ _ _ _ _ _ us hl => match us, hl with | [_], _ => rfl
  whole_row := GL.dfX X G cd a_whole_row 12 rfl fun _ _ _ _ _ _ us hl => match us, hl with | [_], _ => rfl
  border_of := GL.dfX X G cd a_border_of 13 rfl fun _ _ _ _ _ _ us hl => match us, hl with | [_], _ => rfl
  grid_of := GL.dfX X G cd a_grid_of 14 rfl fun _ _ _ _ _ _ us hl => match us, hl with | [_], _ => rfl
  sides_of := GL.dfX X G cd a_sides_of 15 rfl fun _ _ _ _ _ _ us hl => match us, hl with | [_], _ => rfl
  turned_sides := GL.dfX X G cd a_turned_sides 16 rfl fun _ _ _ _ _ _ us hl => match us, hl with | [_, _], _ => rfl
  area_of := GL.dfX X G cd a_area_of 17 rfl fun _ _ _ _ _ _ us hl => match us, hl with | [_], _ => rfl
  «where» := GL.dfX X G cd a_where 18 rfl fun _ _ _ _ _ _ us hl => match us, hl with | [_, _], _ => rfl
  has_apart := GL.dfX X G cd a_has_apart 19 rfl fun _ _ _ _ _ _ us hl => match us, hl with | [_], _ => rfl
  _goes_once := GL.dfX X G cd a_goes_once 20 rfl fun _ _ _ _ _ _ us hl => match us, hl with | [_], _ => rfl
  _edges := GL.dfX X G cd a_edges 21 rfl fun _ _ _ _ _ _ us hl => match us, hl with | [_], _ => rfl
  _have_meeting := GL.dfX X G cd a_have_meeting 22 rfl fun _ _ _ _ _ _ us hl => match us, hl with | [_, _], _ => rfl
  _turn := GL.dfX X G cd a_turn 23 rfl fun _ _ _ _ _ _ us hl => match us, hl with | [_, _, _], _ => rfl
  _twice_area := GL.dfX X G cd a_twice_area 24 rfl fun _ _ _ _ _ _ us hl => match us, hl with | [_], _ => rfl
  _told_holes := GL.dfX X G cd a_told_holes 25 rfl fun _ _ _ _ _ _ us hl => match us, hl with | [_, _], _ => rfl
  _law_pen := GL.dfX X G cd a_law_pen 26 rfl fun _ _ _ _ _ _ us hl => match us, hl with | [_], _ => rfl
  _law_draw := GL.dfX X G cd a_law_draw 27 rfl fun _ _ _ _ _ _ us hl => match us, hl with | [_, _], _ => rfl
  _law_pick := GL.dfX X G cd a_law_pick 28 rfl fun _ _ _ _ _ _ us hl => match us, hl with | [_, _], _ => rfl
  _law_gcd := GL.dfX X G cd a_law_gcd 29 rfl fun _ _ _ _ _ _ us hl => match us, hl with | [_, _], _ => rfl
  _law_q := GL.dfX X G cd a_law_q 30 rfl fun _ _ _ _ _ _ us hl => match us, hl with | [_, _], _ => rfl
  _law_minus := GL.dfX X G cd a_law_minus 31 rfl fun _ _ _ _ _ _ us hl => match us, hl with | [_, _], _ => rfl
  _law_turned_row := GL.dfX X G cd a_law_turned_row 32 rfl fun _ _ _ _ _ _ us hl => match us, hl with | [_, _], _ => rfl
  _law_fault := GL.dfX X G cd a_law_fault 33 rfl fun _ _ _ _ _ _ us hl => match us, hl with | [_], _ => rfl
  _law_bad_rows := GL.dfX X G cd a_law_bad_rows 34 rfl fun _ _ _ _ _ _ us hl => match us, hl with | [], _ => rfl
  _law_bad_holes := GL.dfX X G cd a_law_bad_holes 35 rfl fun _ _ _ _ _ _ us hl => match us, hl with | [], _ => rfl
  _law_crossed_rows := GL.dfX X G cd a_law_crossed_rows 36 rfl fun _ _ _ _ _ _ us hl => match us, hl with | [], _ => rfl
  _law_long_rows := GL.dfX X G cd a_law_long_rows 37 rfl fun _ _ _ _ _ _ us hl => match us, hl with | [], _ => rfl
  _law_crossings_right := GL.dfX X G cd a_law_crossings_right 38 rfl fun _ _ _ _ _ _ us hl => match us, hl with | [_, _, _], _ => rfl
  law := GL.dfX X G cd a_law 39 rfl fun _ _ _ _ _ _ us hl => match us, hl with | [_], _ => rfl
  BadNumber := ClI.ofX X G cd a_BadNumber ⟨ga_BadNumber, gg_BadNumber, sb_BadNumber, hd_BadNumber, ca_BadNumber, hn_, ht_, mo_BadNumber⟩ ⟨⟨_, _, _, _, _, _, _, _, _, _, _, _, _, _, _, xL_BadNumber, rb_BadNumber⟩, sa_BadNumber, sb_BadNumber, ty_BadNumber, kp_BadNumber⟩ i_BadNumber t_BadNumber 40 rfl (fun _ _ _ _ _ _ us hl => match us, hl with | [_, _, _], _ => rfl) (List.forall_mem_cons.mpr ⟨n_BadNumber_what, List.forall_mem_cons.mpr ⟨n_BadNumber_number, List.forall_mem_nil _⟩⟩)
  BadRow := ClI.ofX X G cd a_BadRow ⟨ga_BadRow, gg_BadRow, sb_BadRow, hd_BadRow, ca_BadRow, hn_, ht_, mo_BadRow⟩ ⟨⟨_, _, _, _, _, _, _, _, _, _, _, _, _, _, _, xL_BadRow, rb_BadRow⟩, sa_BadRow, sb_BadRow, ty_BadRow, kp_BadRow⟩ i_BadRow t_BadRow 41 rfl (fun _ _ _ _ _ _ us hl => match us, hl with | [_, _], _ => rfl) (List.forall_mem_cons.mpr ⟨n_BadRow_row, List.forall_mem_nil _⟩)
  Shared := ClI.ofX X G cd a_Shared ⟨ga_Shared, gg_Shared, sb_Shared, hd_Shared, ca_Shared, hn_, ht_, mo_Shared⟩ ⟨⟨_, _, _, _, _, _, _, _, _, _, _, _, _, _, _, xL_Shared, rb_Shared⟩, sa_Shared, sb_Shared, ty_Shared, kp_Shared⟩ i_Shared t_Shared 42 rfl (fun _ _ _ _ _ _ us hl => match us, hl with | [_, _], _ => rfl) (List.forall_mem_cons.mpr ⟨n_Shared_plane, List.forall_mem_nil _⟩)
  xBadRowBadNumber := by rw [fA_of (PySem.W.mg_of X G a_BadRow), fA_of (PySem.W.mg_of X G a_BadNumber)]; exact e_xBadRowBadNumber
  xBadRowBadRow := by rw [fA_of (PySem.W.mg_of X G a_BadRow)]; exact e_xBadRowBadRow
  lb := GL.lbX X G cd a_law 39 rfl fun _ _ _ _ _ _ _ => rfl } (roomT_of (PySem.W.mg_of X G a_Room) ⟨r_pg, r_hd, r_po, r_sa⟩ ⟨r_mk, ir_init, nr_init, r_kp⟩ r_nocorners r_noholes r_nosides FR x_dE) (roomM_of (PySem.W.mg_of X G a_Room) (Me.ofX cd ir_has nr_has 44 rfl (fun _ _ _ _ _ _ us hl => match us, hl with | [_, _], _ => rfl)) (Me.ofX cd ir_area nr_area 45 rfl (fun _ _ _ _ _ _ us hl => match us, hl with | [_], _ => rfl))) x_dE x_ne cC ecC hcC cD ecD hcD
end LW

namespace LW
open PySem PySem.Spec PyProof.Rows L2 GL
end LW
open PySem PySem.W PyProof.Rows
set_option maxRecDepth 100000 in
set_option maxHeartbeats 0 in
theorem PySem.Challenge.cw_flowpapers_k22_rooms_refused_holds : PySem.Challenge.rw_flowpapers_k22_rooms_refused.Holds := by
  w_on; o_law
  refine HandSHeadRun.head_imp (r := OpenLaw.row PySem.Challenge.rw_flowpapers_k22_rooms_refused) (q := view (OpenLaw.row PySem.Challenge.rw_flowpapers_k22_rooms_refused).prog [0, 52]) (H := LW.hk) (ob := LW.ob) (M := 20000) (loose := LW.names) (d := HandSHeadRun.topDef (OpenLaw.row PySem.Challenge.rw_flowpapers_k22_rooms_refused).prog 52) (kwd := []) LW.ob_eq
    LW.run (by kernel_rfl) (by kernel_rfl) (by kernel_rfl) (by rfl) (by first | assumption | decide +kernel) (by decide +kernel) ⟨rfl, rfl, rfl, rfl, rfl, by decide +kernel⟩ ?hw ?hc
  case hw => w_witness2
  case hc =>
    refine GL.walk_GTE (l := PySem.Challenge.rw_flowpapers_k22_rooms_refused) (n := 63) (k := 17) (x := "_law_script") rfl (by decide) (by kernel_rfl) ⟨rfl, by decide, by decide⟩ ?F
    intro w mg fa h Y G hmg0
    obtain ⟨K, KX, c⟩ := Y
    have hmg : mg ("law" : PySem.Str) = some (.ref fa) := by
      have e : (HandSHeadRun.topDef (OpenLaw.row PySem.Challenge.rw_flowpapers_k22_rooms_refused).prog 52).name = ("law" : PySem.Str) := by kernel_rfl
      rw [← e]
      exact hmg0
    refine ⟨K, KX, LW.factsX KX G c ?_⟩
    intro T0 T1 T2 x_dE x_ne cC ecC h1 cD ecD h2
    have e : fa = GL.fA mg "law" := by
      have q := hmg.symm.trans T0.law.g
      exact Value.ref.inj (Option.some.inj q)
    subst e
    have hp0 : (("law", none) : He.Defn) ∈ LW.tf := by repeat (first | exact List.mem_cons_self .. | apply List.mem_cons_of_mem)
    have hd0 : PySem.W.codeHdIn K cC (He.tabOf K cC) = true := by
      rw [ecC]
      exact c.hd _ hp0
    have hp1 : (("_law_crossings_right", none) : He.Defn) ∈ LW.tf := by repeat (first | exact List.mem_cons_self .. | apply List.mem_cons_of_mem)
    have hd1 : PySem.W.codeHdIn K cD (He.tabOf K cD) = true := by
      rw [ecD]
      exact c.hd _ hp1

    exact LW.fin_law T0 T1 T2 x_dE x_ne ecC ecD h1 h2 (by rw [ecC]; exact c.empty _ hp0) (by rw [ecC]; exact c.out _ hp0) hd0 (by rw [ecD]; exact c.empty _ hp1) (by rw [ecD]; exact c.out _ hp1) hd1 
