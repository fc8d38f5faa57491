import PyProof.Rows.All
import Wide.All
import OpenK.AllK
import Wide.FinOn
import HandS.ForMost
import HandS.ExcInit
import HandS.IsInst
import HandS.RaiseMore
import HandS.Wide
import HandS.Codes
import HandS.Steps
import HandS.Zip
import HandS.Evl
import HandS.ExcIs
import KE.KExcIs
import HandS.ExcValue
import HandS.Exc
import HandS.TryMany
import HandS.Gcd
import HandS.ExcField
import HandS.Lambda
import HandS.CallLocal
import HandS.Style
import HandS.StrMore
import HandS.WordsExc
import HandS.WideBits
import KE.KOpsOwn
import HandS.OwnEq
import KE.KDictZip
import HandS.GenList
import KE.KMathG
import HandS.TryOnly
import HandS.TupAny
import HandS.List
import HandS.SortKw
import KE.DataMinMax
import HandS.NoneIn
import KE.KDictOf
import KE.KDictCopyH
import KE.KDictKeyed
import HandS.Conv
import HandS.More
import KE.KDictDisplayH
import HandS.Iter
import KE.GoesMore
import PyProof.EnumMake
import PyProof.Draws
import HandS.Sort
import HandS.EndTab
import HandS.RevRange
import HandS.Star
import HandS.DictComp
import KE.KEqDict
import PyProof.DictFindH
import KE.KNestM
import PySem.Challenge.RW_flowpapers_k05_whole_lines_and_moved_pol
set_option Elab.async false
set_option linter.all false
set_option maxRecDepth 100000
set_option maxHeartbeats 4000000
/-! Defs that are run where no repr is under way: what repr and == of data ask. -/
namespace GL
open PySem PySem.Spec PyProof.Rows L2

/-- nothing is being shown -/
abbrev Quiet (A : Around) : Prop := A.guards = some []

/-- as FnOk, asked only where nothing is being shown -/
structure OkG (P : Program) (w : World) (K : PySem.W.Frag) (mg : Str → Option Value) (base : Heap) (CX : CXT) (k : Nat) (f : Addr) (fd : FuncData) (ps : List Str) (sp : Sp) : Prop where
  len : ∀ vs H Q E, sp vs H Q E → vs.length = ps.length
  run : ∀ (A : Around) (outer : List Env) (s : Shared) (H : Hp) (args : Args) (us : List Value) (vs : List V) (Q : VK) (E : XK), Room k A → Quiet A → Env0 P w K mg base A outer s H →
    BindsTo s fd args (ps.zip us) → Vals vs us → sp vs H Q E → codeAny (model P w) A (.call (.ref f) args) (CR CX outer P w H s Q E) s

section
variable {P : Program} {w : World} {K : PySem.W.Frag} {mg : Str → Option Value} {base : Heap} {CX : CXT} {k : Nat} {f : Addr} {fd : FuncData} {ps : List Str} {sp : Sp}
end

section
variable {X : Cx} {CX : CXT} {k : Nat} {f : Addr} {fd : FuncData} {ps : List Str} {sp : Sp} {dvs : List V} {ds : List Value} {E : XK}
variable {x : Str} {p pos : Pos} {e : Expr} {es : List Expr} {t : TA}
end

/-! ### repr -/
/-! ### values at a heap that stays -/
section
variable {σ : L2.St} {H : Hp} {i : Nat} {v x y z : V} {ta tb te tv : TE} {b : Bool} {K : PySem.W.Frag} {D : Ends} {p : Addr} {kvs : List (Key × V)} {k : Key}
theorem v_I0 {g : Int → Int → V} {i j : Int} (ha : Val ta σ H (.int i)) (hb : Val tb σ H (.int j)) : Val (tOp (rI0 g) ta tb) σ H (g i j) := val_op ha hb fun Q q => ⟨i, j, rfl, rfl, q⟩
theorem v_I {C : Int → Int → Prop} {g : Int → Int → V} {i j : Int} (ha : Val ta σ H (.int i)) (hb : Val tb σ H (.int j)) (hc : C i j) : Val (tOp (rI C g) ta tb) σ H (g i j) := val_op ha hb fun Q q => ⟨i, j, rfl, rfl, hc, q⟩
theorem v_add {i j : Int} (ha : Val ta σ H (.int i)) (hb : Val tb σ H (.int j)) : Val (tOp (rI0 fun i j => .int (i + j)) ta tb) σ H (.int (i + j)) := v_I0 ha hb
theorem v_sub {i j : Int} (ha : Val ta σ H (.int i)) (hb : Val tb σ H (.int j)) : Val (tOp (rI0 fun i j => .int (i - j)) ta tb) σ H (.int (i - j)) := v_I0 ha hb
theorem v_mul {C : Int → Int → Prop} {i j : Int} (ha : Val ta σ H (.int i)) (hb : Val tb σ H (.int j)) (hc : C i j) : Val (tOp (rI C fun i j => .int (i * j)) ta tb) σ H (.int (i * j)) := v_I ha hb hc
theorem v_pow {i j : Int} (ha : Val ta σ H (.int i)) (hb : Val tb σ H (.int j)) (hc : 0 ≤ j ∧ j ≤ 1000000 ∧ i.natAbs < 2 ^ 64) : Val (tOp (rI CPow fun i j => .int (i ^ j.toNat)) ta tb) σ H (.int (i ^ j.toNat)) := v_I ha hb hc
theorem v_mod {C : Int → Int → Prop} {i j : Int} (ha : Val ta σ H (.int i)) (hb : Val tb σ H (.int j)) (hc : C i j) : Val (tOp (rI C fun i j => .int (i % j)) ta tb) σ H (.int (i % j)) := v_I ha hb hc
theorem v_div {C : Int → Int → Prop} {i j : Int} (ha : Val ta σ H (.int i)) (hb : Val tb σ H (.int j)) (hc : C i j) : Val (tOp (rI C fun i j => .int (i / j)) ta tb) σ H (.int (i / j)) := v_I ha hb hc
theorem v_fmod {C : Int → Int → Prop} {i j : Int} (ha : Val ta σ H (.int i)) (hb : Val tb σ H (.int j)) (hc : C i j) : Val (tOp (rI C fun i j => .int (i.fmod j)) ta tb) σ H (.int (i.fmod j)) := v_I ha hb hc
theorem v_fdiv {C : Int → Int → Prop} {i j : Int} (ha : Val ta σ H (.int i)) (hb : Val tb σ H (.int j)) (hc : C i j) : Val (tOp (rI C fun i j => .int (i.fdiv j)) ta tb) σ H (.int (i.fdiv j)) := v_I ha hb hc
theorem v_get (h : Val te σ H (.ref p)) (hp : H p = some (.dK kvs)) (hv : valV kvs k = some v) : Val (tDGet te (tC (kV k))) σ H v := fun Q q => h _ ⟨p, v, rfl, .inl ⟨kvs, k, .inl hp, rfl, hv.symm⟩, q⟩
theorem v_int1 {i : Int} (h : Val te σ H (.int i)) : Val (tCB (fun xs H Q => (∃ i, xs = [.int i] ∧ Q (.int i) H) ∨ ∃ k, xs = [.bl k] ∧ Q (.int (if k then 1 else 0)) H) (tCons te tNil)) σ H (.int i) :=
  fun Q q => h _ (.inl ⟨i, rfl, q⟩)
theorem v_len {xs : List V} (h : Val te σ H (.ref p)) (hx : SqL K H p xs ∨ SqT K H p xs) : Val (tCB (fun xs H Q => ∃ p ys, xs = [.ref p] ∧ (SqL K H p ys ∨ SqT K H p ys) ∧ Q (.int ys.length) H) (tCons te tNil)) σ H (.int (xs.length : Int)) :=
  fun Q q => h _ ⟨p, xs, rfl, hx, q⟩
theorem v_ixL {xs : List V} {n : Nat} (h : Val te σ H (.ref p)) (hi : Val tb σ H (.int (n : Int))) (hx : SqL K H p xs) (he : xs[n]? = some v) : Val (tOp (rIxL K) te tb) σ H v :=
  val_op h hi fun Q q => ⟨p, xs, n, v, rfl, rfl, hx, atI_nat he, q⟩
theorem v_ixT {xs : List V} {n : Nat} (h : Val te σ H (.ref p)) (hi : Val tb σ H (.int (n : Int))) (hx : SqT K H p xs) (he : xs[n]? = some v) : Val (tOp (rIxT K) te tb) σ H v :=
  val_op h hi fun Q q => ⟨p, xs, n, v, rfl, rfl, hx, atI_nat he, q⟩
/-- values of an argument list -/
def VA (ta : TA) (σ : L2.St) (H : Hp) (vs : List V) : Prop := ∀ Q : List V → Hp → Prop, Q vs H → ta σ H Q
theorem va_nil : VA tNil σ H [] := fun _ q => q
theorem va_cons {tr : TA} {vs : List V} (h : Val te σ H v) (hr : VA tr σ H vs) : VA (tCons te tr) σ H (v :: vs) := fun Q q => h _ (hr _ q)
theorem l_lst {ta : TA} {vs : List V} {Q : VK} (h : VA ta σ H vs) (hl : vs.length ≤ 100000) (q : ∀ p, H p = none → Q (.ref p) (upd H p (.lst vs))) : tLst ta σ H Q := h _ ⟨Nat.le_trans hl (by decide), q⟩
theorem l_tup {ta : TA} {vs : List V} {Q : VK} (h : VA ta σ H vs) (hl : vs.length ≤ 100000) (q : ∀ p, H p = none → Q (.ref p) (upd H p (.tup vs))) : tTup ta σ H Q := h _ ⟨Nat.le_trans hl (by decide), q⟩
theorem v_cb {r : List V → Hp → VK → Prop} {ta : TA} {vs : List V} {z : V} (h : VA ta σ H vs) (hr : ∀ Q : VK, Q z H → r vs H Q) : Val (tCB r ta) σ H z := fun Q q => h _ (hr Q q)
theorem c_call {sp : Sp} {E : XK} {ta : TA} {vs : List V} {Q : VK} (h : VA ta σ H vs) (q : sp vs H Q E) : tCall sp [] E ta σ H Q := h _ (by rw [List.append_nil]; exact q)
theorem s_put (h0 : Val te σ H (.ref p)) (h : Val tv σ H v) (hp : H p = some (.dK kvs)) (hl : kvs.length ≤ 100) (q : D.nx σ (upd H p (.dK (putK kvs k v)))) : sDPut te (tC (kV k)) tv D σ H :=
  h _ (h0 _ ⟨p, _, rfl, DPut.k hp (Nat.lt_of_le_of_lt hl (by decide)), q⟩)
theorem a_I {g : Int → Int → Bool} {i j : Int} (ha : Val ta σ H (.int i)) (hb : Val tb σ H (.int j)) : Ans (tTest (tOp (rI0 fun i j => .bl (g i j)) ta tb)) σ H (g i j) := ans_cmp ha hb fun Q q => ⟨i, j, rfl, rfl, q⟩
theorem st_if {t : TT} {t1 t2 : TS} (h : Ans t σ H b) (h1 : b = true → t1 D σ H) (h2 : b = false → t2 D σ H) : tIfS t t1 t2 D σ H := by
  cases b with
  | true => exact st_yes h (h1 rfl)
  | false => exact st_no h (h2 rfl)
end

theorem Same.new' {H : Hp} {p : Addr} {o : HO} (h : H p = none) : Same H (upd H p o) := fun b u e => by
  rw [upd_ne (ne_of_none e h)]
  exact e
section
variable {σ : L2.St} {H : Hp} {i : Nat} {ta : TE} {tb : TA} {D : Ends} {l : Addr} {xs ys : List V}
end
/-! ### statements in a row: what follows stays as it is written -/
section
variable {σ : L2.St} {H : Hp} {i : Nat} {ta te tv : TE} {tb : TA} {D : Ends} {l p : Addr} {xs ys : List V} {tz t1 t2 : TS} {v : V} {kvs : List (Key × V)} {k : Key} {t : TT} {b : Bool}
theorem q_set (h : Val te σ H v) (q : tz D (σ.set i (some v)) H) : tSeq (tAsg te (gName i)) tz D σ H := h _ q
/-- any expression that is stored: its own reading, then what follows -/
theorem q_asg (h : te σ H fun v H' => tz D (σ.set i (some v)) H') : tSeq (tAsg te (gName i)) tz D σ H := h
/-- an if without else -/
theorem q_when (h : Ans t σ H b) (h1 : b = true → t1 { D with nx := tz D } σ H) (h2 : b = false → tz D σ H) : tSeq (tIfS t t1 tNext) tz D σ H := st_if (D := { D with nx := tz D }) h h1 h2
theorem q_unless (h : Ans t σ H false) (q : tz D σ H) : tSeq (tIfS t t1 tNext) tz D σ H := st_no (D := { D with nx := tz D }) h q
theorem r_ret (h : te σ H D.rt) : tRet te D σ H := h
end
/-! ### expressions that make things -/
def EM (te : TE) (σ : L2.St) (H : Hp) (P : V → Hp → Prop) : Prop := ∀ Q : VK, (∀ v H', Same H H' → P v H' → Q v H') → te σ H Q
def VM (tb : TA) (σ : L2.St) (H : Hp) (R : List V → Hp → Prop) : Prop := ∀ Q : List V → Hp → Prop, (∀ vs H', Same H H' → R vs H' → Q vs H') → tb σ H Q
def Stays {α : Type} (R : α → Hp → Prop) : Prop := ∀ x H1 H2, Same H1 H2 → R x H1 → R x H2
/-- a row whose items are of one kind each, by their places from k on -/
def Run (P : Nat → V → Hp → Prop) : Nat → List V → Hp → Prop
  | _, [], _ => True
  | k, v :: r, H => P k v H ∧ Run P (k + 1) r H
theorem Run.keep {P : Nat → V → Hp → Prop} (st : ∀ k, Stays (P k)) : ∀ {k : Nat} {xs : List V} {H1 H2 : Hp}, Same H1 H2 → Run P k xs H1 → Run P k xs H2
  | _, [], _, _, _, _ => trivial
  | _, _ :: _, _, _, s, ⟨a, b⟩ => ⟨st _ _ _ _ s a, Run.keep st s b⟩
theorem Run.app {P : Nat → V → Hp → Prop} {H : Hp} : ∀ {k : Nat} {xs ys : List V}, Run P k xs H → Run P (k + xs.length) ys H → Run P k (xs ++ ys) H
  | _, [], _, _, b => b
  | k, v :: r, ys, ⟨a, c⟩, b => ⟨a, Run.app c (by rw [List.length_cons] at b; rw [show k + 1 + r.length = k + (r.length + 1) by omega]; exact b)⟩
theorem Run.get {P : Nat → V → Hp → Prop} {H : Hp} : ∀ {k : Nat} {xs : List V} {i : Nat} {v : V}, Run P k xs H → xs[i]? = some v → P (k + i) v H
  | _, [], _, _, _, e => by simp at e
  | _, _ :: _, 0, _, ⟨a, _⟩, e => by simp at e; subst e; exact a
  | k, _ :: r, i + 1, v, ⟨_, b⟩, e => by
    have q := Run.get (i := i) (v := v) b (by simpa using e)
    rw [show k + (i + 1) = k + 1 + i by omega]
    exact q
/-- the row's kinds, and how many -/
def Rows (P : Nat → V → Hp → Prop) (k n : Nat) (xs : List V) (H : Hp) : Prop := Run P k xs H ∧ xs.length = n
theorem Rows.stays {P : Nat → V → Hp → Prop} (st : ∀ k, Stays (P k)) {k n : Nat} : Stays (Rows P k n) := fun _ _ _ s h => ⟨Run.keep st s h.1, h.2⟩
section
variable {σ : L2.St} {H : Hp} {i : Nat} {ta te : TE} {tb tr : TA} {D : Ends} {l p : Addr} {xs ys ws : List V} {tz : TS} {P : Nat → V → Hp → Prop} {k n : Nat} {R : List V → Hp → Prop}
theorem q_lstM (st : Stays R) (h : VM tb σ H R) (hl : ∀ vs H', R vs H' → vs.length ≤ 1000) (q : ∀ p vs H', Same H H' → H' p = some (.lst vs) → R vs H' → tz D (σ.set i (some (.ref p))) H') : tSeq (tAsg (tLst tb) (gName i)) tz D σ H :=
  h _ fun vs H1 s1 r1 => ⟨Nat.le_trans (hl vs H1 r1) (by decide), fun a ha => q a vs _ (s1.trans (Same.new' ha)) upd_same (st _ _ _ (Same.new' ha) r1)⟩
theorem l_catM {Q : VK} (st : Stays R) (ha : Val ta σ H (.ref l)) (hl : H l = some (.lst xs)) (h1 : xs.length ≤ 1000) (h : VM tb σ H R) (h2 : ∀ vs H', R vs H' → vs.length ≤ 1000)
    (q : ∀ p vs H', Same H H' → H' p = some (.lst (xs ++ vs)) → R vs H' → Q (.ref p) H') : tOp rCat ta (tLst tb) σ H Q :=
  ha _ (h _ fun vs H1 s1 r1 => ⟨Nat.le_trans (h2 vs H1 r1) (by decide), fun b nb => ⟨l, b, xs, vs, rfl, rfl, (Same.new' nb) _ _ (s1 _ _ hl), upd_same, Nat.le_trans (Nat.add_le_add h1 (h2 vs H1 r1)) (by decide),
    fun p np => q p vs _ (s1.trans ((Same.new' nb).trans (Same.new' np))) upd_same (st _ _ _ ((Same.new' nb).trans (Same.new' np)) r1)⟩⟩)
end
/-! ### walks, what follows stays as it is written -/
section
variable {K : PySem.W.Frag} {σ : L2.St} {H : Hp} {g : TG} {ta : TA} {te : TE} {tb tz : TS} {D : Ends} {a b : Addr} {xs ys : List V}
theorem q_forR1 {n : Nat} (h : VA ta σ H [.int (n : Int)]) (hn : n ≤ 100000) (Pv : Nat → L2.St → Hp → Prop) (h0 : Pv 0 σ H)
    (hs : ∀ i σ H, i < n → Pv i σ H → g (.int (i : Int)) σ H fun σ2 H2 => tb { D with nx := Pv (i + 1), ct := Pv (i + 1), bk := tz D } σ2 H2) (hd : ∀ σ H, Pv n σ H → tz D σ H) : tSeq (tFor (iRng1 ta) g tb) tz D σ H :=
  h _ ⟨(n : Int), rfl, by omega, by omega, for_range (lo := 0) (n := (n : Int).toNat) (D := { D with nx := tz D }) Pv h0 (fun i σ H hi p => by rw [Int.zero_add]; exact hs i σ H (by omega) p) (fun σ H p => hd σ H (by rw [Int.toNat_natCast] at p; exact p))⟩
/-- two names from a pair -/
theorem g_two {i j : Nat} {x y : V} {T : Addr} {K' : L2.St → Hp → Prop} (hT : SqT K H T [x, y]) (q : K' ((σ.set i (some x)).set j (some y)) H) : gTup K 2 (gCons (gName i) (gCons (gName j) gNil)) (.ref T) σ H K' :=
  ⟨T, _, rfl, hT, rfl, x, _, rfl, y, _, rfl, rfl, q⟩
end
section
variable {K : PySem.W.Frag} {σ : L2.St} {H : Hp} {t1 te to : TE} {tb : TA} {D : Ends} {l : Addr} {xs : List V} {v x : V} {i : Nat} {R : List V → Hp → Prop}
theorem g_name {K' : L2.St → Hp → Prop} (q : K' (σ.set i (some v)) H) : gName i v σ H K' := q
theorem s_appC (h : Val to σ H (.ref l)) (hl : H l = some (.lst xs)) (he : te σ H fun v H1 => rAppend (.ref l) [v] H1 fun _ H2 => D.nx σ H2) : tDrop (tBM K "list" rAppend to (tCons te tNil)) D σ H := h _ ⟨.inl ⟨rfl, _, SqL.of hl⟩, he⟩
theorem v_neg {n : Int} (h : Val te σ H (.int n)) : Val (tUn (rU fun i => .int (-i)) te) σ H (.int (-n)) := fun Q q => h _ ⟨n, rfl, q⟩
end
section
variable {K : PySem.W.Frag} {σ : L2.St} {H : Hp} {t1 t2 te to : TE} {ta tb : TA} {tu tw tz : TS} {D : Ends} {a b l : Addr} {xs ys : List V} {x y v w : V} {i j : Nat} {r : R2} {Q : VK}
theorem q_lst0 (h : VA tb σ H ys) (hl : ys.length ≤ 100000) (q : ∀ p, H p = none → tz D (σ.set i (some (.ref p))) (upd H p (.lst ys))) : tSeq (tAsg (tLst tb) (gName i)) tz D σ H := h _ ⟨Nat.le_trans hl (by decide), q⟩
theorem Val.is (h : Val te σ H v) (e : v = w) : Val te σ H w := e ▸ h
theorem ta_two {Q : List V → Hp → Prop} (h : t1 σ H fun v H1 => t2 σ H1 fun w H2 => Q [v, w] H2) : tCons t1 (tCons t2 tNil) σ H Q := h
theorem cb_one {r : List V → Hp → VK → Prop} (h : te σ H fun v H1 => r [v] H1 Q) : tCB r (tCons te tNil) σ H Q := h
theorem l_slHi (h : Val te σ H (.ref a)) (hx : SqL K H a xs) {n : Int} (hi : Val t1 σ H (.int n)) (q : ∀ p H', Same H H' → H' p = some (.lst (cutV xs none (some n))) → Q (.ref p) H') : tSl (rSlL K) te tNoPart (tPart t1) σ H Q :=
  h _ (hi _ ⟨n, rfl, a, xs, rfl, hx, fun p hp => q p _ (Same.new' hp) upd_same⟩)
theorem v_eq (h1 : Val t1 σ H x) (h2 : Val t2 σ H y) (hs : scal x y = true) : Val (tOp rEq t1 t2) σ H (.bl (decide (x = y))) := val_op h1 h2 fun Q q => ⟨hs, q⟩
end
/-! ### what the top has written, by names -/
@[irreducible] def fA (mg : Str → Option Value) (x : Str) : Addr := match mg x with
  | some (.ref a) => a
  | _ => 0
@[irreducible] def fDat (K : PySem.W.Frag) (f : Addr) : FuncData := match K.lookup f with
  | some ⟨_, _, .func fd, _⟩ => fd
  | _ => default
/-- the def x of the text -/
structure Df (K : PySem.W.Frag) (mg : Str → Option Value) (x : Str) (st : Stmt) (ps : List Str) : Prop where
  g : mg x = some (.ref (fA mg x))
  F : Fun K x x st (fA mg x) (fDat K (fA mg x))
  b : Binds K (fDat K (fA mg x)) ps []
theorem fA_of {mg : Str → Option Value} {x : Str} {a : Addr} (h : mg x = some (.ref a)) : fA mg x = a := by
  unfold fA
  rw [h]
theorem fDat_of {K : PySem.W.Frag} {f : Addr} {oc : Value} {od : Option Addr} {fd : FuncData} {sl : Array (Option Value)} (h : K.lookup f = some ⟨oc, od, .func fd, sl⟩) : fDat K f = fd := by
  unfold fDat
  rw [h]
theorem Df.mk' {K : PySem.W.Frag} {mg : Str → Option Value} {x : Str} {st : Stmt} {ps : List Str} {h : Heap} {f : Addr} {oc : Value} {od an : Option Addr} {osl : Array (Option Value)} {kV doc pm cdv ct : Value} (X : K.In h) (G : h.Ns mainGlobals mg)
    (a : PySem.W.nsIn K mainGlobals x = some (some (.ref f))) (l : K.lookup f = some ⟨oc, od, .func (PySem.W.fnOf x x (defArgs st) (defBody st) (defScope st) .none kV doc pm an cdv ct), osl⟩)
    (c : PySem.W.codeIn K cdv x = true) (k : PySem.W.keepIn K (.ref f) = true)
    (bi : ∀ (kV doc pm : Value) (an : Option Addr) (cdv ct : Value) (us : List Value), us.length = ps.length → bindArgs (PySem.W.fnOf x x (defArgs st) (defBody st) (defScope st) .none kV doc pm an cdv ct) ⟨us, []⟩ = pure (ps.zip us)) : Df K mg x st ps := by
  have e := PySem.W.mg_of X G a
  have F := fun_mk (st := st) l c k
  have e1 := fA_of e
  have e2 := fDat_of l
  refine ⟨by rw [e1]; exact e, ?_, ?_⟩
  · rw [e1, e2]; exact F
  · rw [e1, e2]; exact F.binds bi
section
variable {X : Cx} {k : Nat} {x : Str} {st : Stmt} {ps : List Str} {sp : Sp} {p pos : Pos} {e : Expr} {es : List Expr} {t : TA}
/-- a call of the def x -/
theorem pe_c (d : Df X.K X.mg x st ps) (G : FnOk X.prog X.w X.K X.mg X.base CX0 k (fA X.mg x) (fDat X.K (fA X.mg x)) ps sp) (hr : Room k X.A) (ha : PA X (e :: es) t) (hg : Gl X x := by rfl) (hdb : (x == ("__debug__" : Str)) = false := by decide)
    (he : starEach (e :: es) X.env = (false, eval e X.env) :: starEach es X.env := by rfl) (hpl : (backTo pos (starEach es X.env)).any (·.1) = false := by rfl) : PE X (.Call (.Name x p) (e :: es) [] pos) (tCall sp [] E0 t) :=
  pe_call G hr hg d.g d.F.kp d.b .nil pass0 ha hdb he hpl
/-- a class's name as a value -/
theorem pe_cls {C : Addr} (hm : X.mg x = some (.ref C)) (hg : Gl X x := by rfl) (hd : (x == ("__debug__" : Str)) = false := by decide) : PE X (.Name x pos) (tC (.ref C)) := pe_glob hg hm rfl hd
end
theorem hu64 {A : Around} {k : Nat} (hr : Room k A) : A.units + 64 < cLine := hr.units

/-! ### the law's end, where nothing is being shown -/
section
variable {P : Program} {w : World} {K : PySem.W.Frag} {mg mb : Str → Option Value} {k : Nat} {fa a : Addr} {fd : FuncData} {x : Str} {sp : Sp} {s₁ : Shared} {vs : List Value} {ns : List Int}
/-- what the law's call must do -/
abbrev Law (P : Program) (w : World) (fa a : Addr) (s₁ : Shared) : Prop :=
  codeAny (model P w) callerA (.call (.ref fa) ⟨[.ref a], []⟩) (fun r s' => r = .ok (.ret (.bool true)) ∧ OldK s₁.heap s'.heap ∧ s'.os = s₁.os ∧ AllBare s'.gens) s₁
end
end GL

/-! Exceptions of the program's own as values: made, asked for their class, their fields read. -/
namespace GL
open PySem PySem.Spec PyProof.Rows L2

/-- an exception of the class at C stands at a, with these fields (none: it has no dict of its own) -/
inductive IsEx (H : Hp) (a C : Addr) : List (Str × V) → Prop
  | bare (e : H a = some (ExO (.ref C) a)) : IsEx H a C []
  | full {dx : Addr} {fs : List (Str × V)} (e : H a = some (exo a C (some dx))) (ed : H dx = some (exd dx fs)) : IsEx H a C fs
section
variable {X : Cx} {pins : List (Addr × Obj)} {σ : L2.St} {H : Hp} {s : Shared} {a C : Addr} {fs : List (Str × V)}
/-! ### isinstance -/
/-! ### a field -/
/-! ### made: by an __init__ of its own, by none -/
end

/-! ### the classes, by names -/
@[irreducible] def iA (K : PySem.W.Frag) (C : Addr) : Addr := match PySem.W.findIn K (.ref C) "__init__" with
  | some (some (.ref f)) => f
  | _ => 0
/-- what is asked of a class without an __init__ -/
structure Cl0 (K : PySem.W.Frag) (mg : Str → Option Value) (x : Str) : Prop where
  g : mg x = some (.ref (fA mg x))
  k : PySem.W.keepIn K (.ref (fA mg x)) = true
  e : ExcC K (fA mg x)
  q : PySem.W.excIn K (fA mg x) [.type "ValueError", .type "Exception", .type "BaseException", .type "object"] "ValueError.__new__" = true
/-- .. of one with an __init__ that stores the fields fs -/
structure ClI (K : PySem.W.Frag) (mg : Str → Option Value) (x qual : Str) (st : Stmt) (ps fs : List Str) : Prop where
  g : mg x = some (.ref (fA mg x))
  e : ExcC K (fA mg x)
  o : OexC K (fA mg x)
  i : PySem.W.findIn K (.ref (fA mg x)) "__init__" = some (some (.ref (iA K (fA mg x))))
  t : PySem.W.typeIn K (.ref (iA K (fA mg x))) = some (.type "function")
  F : Fun K "__init__" qual st (iA K (fA mg x)) (fDat K (iA K (fA mg x)))
  b : Binds K (fDat K (iA K (fA mg x))) ps []
  n : ∀ f ∈ fs, PySem.W.findIn K (.ref (fA mg x)) f = some none
theorem iA_of {K : PySem.W.Frag} {C f : Addr} (h : PySem.W.findIn K (.ref C) "__init__" = some (some (.ref f))) : iA K C = f := by
  unfold iA
  rw [h]
theorem ClI.mk' {K : PySem.W.Frag} {mg : Str → Option Value} {x qual : Str} {st : Stmt} {ps fs : List Str} {h : Heap} {C f : Addr} {oc : Value} {od an : Option Addr} {osl : Array (Option Value)} {kV doc pm cdv ct : Value} (X : K.In h) (G : h.Ns mainGlobals mg)
    (a : PySem.W.nsIn K mainGlobals x = some (some (.ref C))) (e : ExcC K C) (o : OexC K C) (i : PySem.W.findIn K (.ref C) "__init__" = some (some (.ref f))) (t : PySem.W.typeIn K (.ref f) = some (.type "function"))
    (l : K.lookup f = some ⟨oc, od, .func (PySem.W.fnOf "__init__" qual (defArgs st) (defBody st) (defScope st) .none kV doc pm an cdv ct), osl⟩) (c : PySem.W.codeIn K cdv qual = true) (k : PySem.W.keepIn K (.ref f) = true)
    (bi : ∀ (kV doc pm : Value) (an : Option Addr) (cdv ct : Value) (us : List Value), us.length = ps.length → bindArgs (PySem.W.fnOf "__init__" qual (defArgs st) (defBody st) (defScope st) .none kV doc pm an cdv ct) ⟨us, []⟩ = pure (ps.zip us))
    (n : ∀ f ∈ fs, PySem.W.findIn K (.ref C) f = some none) : ClI K mg x qual st ps fs := by
  have m := PySem.W.mg_of X G a
  have c1 := fA_of m
  have c2 : iA K (fA mg x) = f := by rw [c1]; exact iA_of i
  have c3 := fDat_of l
  have F := fun_mk (st := st) l c k
  refine ⟨by rw [c1]; exact m, by rw [c1]; exact e, by rw [c1]; exact o, by rw [c2, c1]; exact i, by rw [c2]; exact t, by rw [c2, c3]; exact F, by rw [c2, c3]; exact F.binds bi, by rw [c1]; exact n⟩
def spI1 (C : Addr) (f : Str) : Sp := fun vs H Q _ => ∃ a v, vs = [.ref a, v] ∧ H a = some (exo a C none) ∧ ∀ dx, H dx = none → dx ≠ a → Q .non (upd (upd H dx (exd dx [(f, v)])) a (exo a C (some dx)))
def spI2 (C : Addr) (f g : Str) : Sp := fun vs H Q _ => ∃ a v u, vs = [.ref a, v, u] ∧ H a = some (exo a C none) ∧ ∀ dx, H dx = none → dx ≠ a → Q .non (upd (upd (upd H dx (exd dx [(f, v)])) a (exo a C (some dx))) dx (exd dx [(g, u), (f, v)]))
section
variable {K : PySem.W.Frag} {σ : L2.St} {H : Hp} {D : Ends} {a C dx : Addr} {f g : Str} {v u : V} {ta : TA} {Q : VK}
theorem s_ost1 (T : OexC K C) (n : PySem.W.findIn K (.ref C) f = some none) (h : H a = some (exo a C none)) (h0 : σ[0]? = some (some (.ref a))) {i : Nat} (h1 : σ[i]? = some (some v))
    (q : ∀ dx, H dx = none → dx ≠ a → D.nx σ (upd (upd H dx (exd dx [(f, v)])) a (exo a C (some dx)))) : tOst K f (tVar 0) (tVar i) D σ H := ⟨v, h1, _, h0, a, C, rfl, T, n, .inl ⟨h, q⟩⟩
theorem s_ost2 (T : OexC K C) (n : PySem.W.findIn K (.ref C) g = some none) (h : H a = some (exo a C (some dx))) (hd : H dx = some (exd dx [(f, v)])) (h0 : σ[0]? = some (some (.ref a))) {i : Nat} (h1 : σ[i]? = some (some u))
    (q : D.nx σ (upd H dx (exd dx [(g, u), (f, v)]))) : tOst K g (tVar 0) (tVar i) D σ H := ⟨u, h1, _, h0, a, C, rfl, T, n, .inr ⟨dx, _, h, hd, by show 1 ≤ 900; decide, q⟩⟩
end
end GL

/-! What data the heap holds, dicts among it, and what repr tells of it. -/
namespace GL
open PySem PySem.Spec PyProof.Rows L2

def keyD : Key → PyData
  | .inl i => .int i
  | .inr x => .str x
mutual
/-- the data of a value: as Dp, dicts too -/
inductive Dd (K : PySem.W.Frag) (H : Hp) : V → PyData → Prop
  | non : Dd K H .non .none
  | bl (b : Bool) : Dd K H (.bl b) (.bool b)
  | int (i : Int) : Dd K H (.int i) (.int i)
  | str (x : Str) : Dd K H (.str x) (.str x)
  | lst {a : Addr} {xs : List V} {ds : List PyData} : SqL K H a xs → DdAll K H xs ds → Dd K H (.ref a) (.list ds)
  | tup {a : Addr} {xs : List V} {ds : List PyData} : SqT K H a xs → DdAll K H xs ds → Dd K H (.ref a) (.tuple ds)
  | dic {a : Addr} {kvs : List (Key × V)} {ps : List (PyData × PyData)} : H a = some (.dK kvs) → DdKv K H kvs ps → Dd K H (.ref a) (.dict ps)
inductive DdAll (K : PySem.W.Frag) (H : Hp) : List V → List PyData → Prop
  | nil : DdAll K H [] []
  | cons {v : V} {vs : List V} {d : PyData} {ds : List PyData} : Dd K H v d → DdAll K H vs ds → DdAll K H (v :: vs) (d :: ds)
inductive DdKv (K : PySem.W.Frag) (H : Hp) : List (Key × V) → List (PyData × PyData) → Prop
  | nil : DdKv K H [] []
  | cons {k : Key} {v : V} {r : List (Key × V)} {d : PyData} {ps : List (PyData × PyData)} : Dd K H v d → DdKv K H r ps → DdKv K H ((k, v) :: r) ((keyD k, d) :: ps)
end
theorem sqt_same {K : PySem.W.Frag} {H H' : Hp} {a : Addr} {xs : List V} (e : Same H H') (h : SqT K H a xs) : SqT K H' a xs := by
  rcases h with (h | ⟨o, h⟩) | h
  · exact .inl (.inl (e _ _ h))
  · exact .inl (.inr ⟨o, e _ _ h⟩)
  · exact .inr h
mutual
theorem Dd.same {K : PySem.W.Frag} {H H' : Hp} (s : Same H H') : ∀ (d : PyData) (v : V), Dd K H v d → Dd K H' v d
  | .none, _, h => by cases h; exact .non
  | .bool _, _, h => by cases h; exact .bl _
  | .int _, _, h => by cases h; exact .int _
  | .str _, _, h => by cases h; exact .str _
  | .list ds, _, h => by
    cases h with
    | lst a b => exact .lst (s.seq a) (Dd.sameAll s ds _ b)
  | .tuple ds, _, h => by
    cases h with
    | tup a b => exact .tup (sqt_same s a) (Dd.sameAll s ds _ b)
  | .dict ps, _, h => by
    cases h with
    | dic a b => exact .dic (s _ _ a) (Dd.sameKv s ps _ b)
theorem Dd.sameAll {K : PySem.W.Frag} {H H' : Hp} (s : Same H H') : ∀ (ds : List PyData) (vs : List V), DdAll K H vs ds → DdAll K H' vs ds
  | [], _, h => by cases h; exact .nil
  | d :: ds, _, h => by
    cases h with
    | cons a b => exact .cons (Dd.same s d _ a) (Dd.sameAll s ds _ b)
theorem Dd.sameKv {K : PySem.W.Frag} {H H' : Hp} (s : Same H H') : ∀ (ps : List (PyData × PyData)) (kvs : List (Key × V)), DdKv K H kvs ps → DdKv K H' kvs ps
  | [], _, h => by cases h; exact .nil
  | (_, d) :: ps, _, h => by
    cases h with
    | cons a b => exact .cons (Dd.same s d _ a) (Dd.sameKv s ps _ b)
end
section
variable {X : Cx} {pins : List (Addr × Obj)} {σ : L2.St} {H : Hp} {s : Shared}
/-- what repr tells of a value whose data are known -/
def Shows (X : Cx) (h : Heap) (d : PyData) (u : Value) : Prop := (∃ as, Reads h u d as) ∧ ∃ bs, ReadAtMost h d.depth bs ∧ ReprK X.prog X.w bs h d.depth u d.shown
def ShowsAll (X : Cx) (h : Heap) (ds : List PyData) (us : List Value) : Prop := (∃ as, ReadsAll h us ds as) ∧ ∃ bs, ReadAtMost h (PyData.depthAll ds) bs ∧ ReprAllK X.prog X.w bs h (PyData.depthAll ds) us (PyData.shownAll ds)
theorem ShowsAll.nil {h : Heap} : ShowsAll X h [] [] := ⟨⟨_, .nil⟩, [], (fun _ z => nomatch z), .nil⟩
theorem ShowsAll.cons {h : Heap} {d : PyData} {ds : List PyData} {u : Value} {us : List Value} (a : Shows X h d u) (b : ShowsAll X h ds us) : ShowsAll X h (d :: ds) (u :: us) := by
  obtain ⟨⟨as1, r1⟩, b1, h1, k1⟩ := a
  obtain ⟨⟨as2, r2⟩, b2, h2, k2⟩ := b
  have m1 : d.depth ≤ PyData.depthAll (d :: ds) := Nat.le_max_left _ _
  have m2 : PyData.depthAll ds ≤ PyData.depthAll (d :: ds) := Nat.le_max_right _ _
  exact ⟨⟨_, .cons r1 r2⟩, b1 ++ b2, (h1.mono m1).append (h2.mono m2), .cons ((k1.more fun _ z => List.mem_append_left _ z).level_le m1) (k2.more_le (fun _ z => List.mem_append_right _ z) m2)⟩
theorem Shows.lst {h : Heap} {ds : List PyData} {us : List Value} {a : Addr} {o : Obj} {n : Nat} (ha : h.get? a = some o) (hc : o.cls = .type "list") (hd : o.data = .seq us.toArray n) (b : ShowsAll X h ds us) : Shows X h (.list ds) (.ref a) := by
  obtain ⟨⟨as, r⟩, bs, hb, k⟩ := b
  have R : Reads h (.ref a) (.list ds) _ := .list ha hc hd r
  have off : a ∉ bs := not_mem_of_deeper R (by simp only [PyData.depth]; omega) hb
  refine ⟨⟨_, R⟩, a :: bs, ReadAtMost.cons R (by simp only [PyData.depth]; omega) hb, ?_⟩
  cases us with
  | nil =>
    cases r
    exact ReprK.listEmpty ha hc hd
  | cons u us => exact ReprK.list ha hc hd off (by simpa using k.length_eq) fun i y e => k.item i y (by simpa using e)
theorem Shows.tup {h : Heap} {ds : List PyData} {us : List Value} {a : Addr} (ha : IsTup h a us.toArray) (b : ShowsAll X h ds us) : Shows X h (.tuple ds) (.ref a) := by
  obtain ⟨⟨as, r⟩, bs, hb, k⟩ := b
  obtain ⟨o, ho, hc, n, hd⟩ := ha
  have R : Reads h (.ref a) (.tuple ds) _ := .tuple ho hc hd r
  exact ⟨⟨_, R⟩, a :: bs, ReadAtMost.cons R (by simp only [PyData.depth]; omega) hb, ReprK.tuple ho hc hd (not_mem_of_deeper R (by simp only [PyData.depth]; omega) hb) k⟩
theorem shows_key {h : Heap} {k : Key} {u : Value} (e : keyIs k u = true) (hs : (keyD k).showable = true) (hz : (keyD k).shown.length ≤ sizeLine) : Shows X h (keyD k) u := by
  rcases keyIs_shape e with ⟨i, t, rfl, rfl⟩ | ⟨x, t, rfl, rfl⟩
  · exact ⟨⟨_, .int i t⟩, [], (fun _ z => nomatch z), .of_is (ReprIs.int t (of_decide_eq_true hs)) _ _ _⟩
  · exact ⟨⟨_, .str x t⟩, [], (fun _ z => nomatch z), .of_is (ReprIs.str x t hz) _ _ _⟩
theorem Shows.dic {h : Heap} {ps : List (PyData × PyData)} {es : Array DictEntry} {a : Addr} {o : Obj} {n : Nat} (ho : h.get? a = some o) (hc : o.cls = .type "dict") (hd : o.data = .dict es n) (hsys : (a == sysModules) = false)
    (b1 : ShowsAll X h (ps.map (·.1)) (es.toList.map (·.key))) (b2 : ShowsAll X h (ps.map (·.2)) (es.toList.map (·.val))) : Shows X h (.dict ps) (.ref a) := by
  obtain ⟨⟨as1, r1⟩, c1, h1, k1⟩ := b1
  obtain ⟨⟨as2, r2⟩, c2, h2, k2⟩ := b2
  have R : Reads h (.ref a) (.dict ps) _ := .dict ho hc hd r1 r2
  have hb : ReadAtMost h (PyData.depthKv ps) (c1 ++ c2) := (h1.mono (PyData.depthAll_keys_le ps)).append (h2.mono (PyData.depthAll_vals_le ps))
  refine ⟨⟨_, R⟩, a :: (c1 ++ c2), ReadAtMost.cons R (by simp only [PyData.depth]; omega) hb, ?_⟩
  simp only [PyData.depth, PyData.shown, PyData.shownKv_eq]
  exact ReprK.dict ho hc hd hsys (not_mem_of_deeper R (by simp only [PyData.depth]; omega) hb) (ReprEntriesK.of_two es.toList _ _
    (k1.more_le (fun _ z => List.mem_append_left _ z) (PyData.depthAll_keys_le ps)) (k2.more_le (fun _ z => List.mem_append_right _ z) (PyData.depthAll_vals_le ps)))
theorem all_le {ds : List PyData} {d : PyData} (hd : d ∈ ds) : d.shown ∈ PyData.shownAll ds := by
  induction ds with
  | nil => cases hd
  | cons x xs ih =>
    simp only [PyData.shownAll]
    rcases List.mem_cons.mp hd with e | e
    · rw [e]; exact List.mem_cons_self ..
    · exact List.mem_cons_of_mem _ (ih e)
mutual
theorem Dd.shows (I : Inv X pins σ H s) : ∀ (d : PyData) (v : V) (u : Value), Dd X.K H v d → RelV v u → d.showable = true → d.shown.length ≤ sizeLine → Shows X s.heap d u
  | .none, _, _, h, r, _, _ => by
    cases h; cases r
    exact ⟨⟨_, .none⟩, [], (fun _ z => nomatch z), .of_is ReprIs.none _ _ _⟩
  | .bool b, _, _, h, r, _, _ => by
    cases h; cases r
    exact ⟨⟨_, .bool b⟩, [], (fun _ z => nomatch z), .of_is (ReprIs.bool b) _ _ _⟩
  | .int i, _, _, h, r, hs, _ => by
    cases h
    obtain ⟨t, rfl⟩ := r
    exact ⟨⟨_, .int i t⟩, [], (fun _ z => nomatch z), .of_is (ReprIs.int t (of_decide_eq_true hs)) _ _ _⟩
  | .str x, _, _, h, r, _, hz => by
    cases h
    obtain ⟨t, rfl⟩ := r
    exact ⟨⟨_, .str x t⟩, [], (fun _ z => nomatch z), .of_is (ReprIs.str x t hz) _ _ _⟩
  | .list ds, _, _, h, r, hs, hz => by
    cases h with
    | lst hq ha =>
      cases r
      obtain ⟨its, rv, ⟨o, n, ho, hc, _, hd⟩, _⟩ := I.list hq
      have hz' : (listText (PyData.shownAll ds)).length ≤ sizeLine := by simpa only [PyData.shown] using hz
      exact Shows.lst ho hc hd (Dd.showsAll I ds _ its ha rv (by simpa [PyData.showable] using hs) fun t ht => Nat.le_trans (listText_mem_le ht) hz')
  | .tuple ds, _, _, h, r, hs, hz => by
    cases h with
    | tup hq ha =>
      cases r
      obtain ⟨its, rv, ⟨o, ho, hc, n, hd⟩, _⟩ := I.tuple hq
      have hz' : (tupleText (PyData.shownAll ds)).length ≤ sizeLine := by simpa only [PyData.shown] using hz
      exact Shows.tup ⟨o, ho, hc, n, hd⟩ (Dd.showsAll I ds _ its ha rv (by simpa [PyData.showable] using hs) fun t ht => Nat.le_trans (tupleText_mem_le ht) hz')
  | .dict ps, _, _, h, r, hs, hz => by
    cases h with
    | dic hq ha =>
      cases r
      obtain ⟨_, hsys, vs, kv, o, es, ep, ho, ⟨hc, _, _⟩, hd, _, pr, _⟩ := I.hok _ _ hq
      have hz' : (dictText (PyData.shownKv ps)).length ≤ sizeLine := by simpa only [PyData.shown] using hz
      obtain ⟨b1, b2⟩ := Dd.showsKv I ps _ vs es.toList ha kv pr (by simpa [PyData.showable] using hs) (fun t ht => Nat.le_trans (dictText_mem_le ht) hz')
      exact Shows.dic ho hc hd hsys b1 b2
theorem Dd.showsAll (I : Inv X pins σ H s) : ∀ (ds : List PyData) (vs : List V) (us : List Value), DdAll X.K H vs ds → Vals vs us → PyData.showableAll ds = true → (∀ t ∈ PyData.shownAll ds, t.length ≤ sizeLine) → ShowsAll X s.heap ds us
  | [], _, _, h, r, _, _ => by
    cases h; cases r
    exact .nil
  | d :: ds, _, _, h, r, hs, hz => by
    cases h with
    | cons h1 h2 => cases r with
      | cons r1 r2 =>
        have hs' : d.showable = true ∧ PyData.showableAll ds = true := by simpa [PyData.showableAll] using hs
        exact .cons (Dd.shows I d _ _ h1 r1 hs'.1 (hz _ (by simp only [PyData.shownAll]; exact List.mem_cons_self ..))) (Dd.showsAll I ds _ _ h2 r2 hs'.2 fun t ht => hz t (by simp only [PyData.shownAll]; exact List.mem_cons_of_mem _ ht))
theorem Dd.showsKv (I : Inv X pins σ H s) : ∀ (ps : List (PyData × PyData)) (kvs : List (Key × V)) (vs : List (Key × Value)) (es : List DictEntry), DdKv X.K H kvs ps → KV kvs vs → Pairs (mixKind X.prog X.w) es vs → PyData.showableKv ps = true →
    (∀ t ∈ PyData.shownKv ps, t.length ≤ sizeLine) → ShowsAll X s.heap (ps.map (·.1)) (es.map (·.key)) ∧ ShowsAll X s.heap (ps.map (·.2)) (es.map (·.val))
  | [], _, _, _, h, kv, pr, _, _ => by
    cases h; cases kv; cases pr
    exact ⟨.nil, .nil⟩
  | (k, d) :: ps, _, _, _, h, kv, pr, hs, hz => by
    cases h with
    | cons h1 h2 => cases kv with
      | cons e kv2 => cases pr with
        | cons p1 p2 p3 =>
          rename_i k0 v0 _ q _ en _
          have hs' : ((keyD k0).showable = true ∧ d.showable = true) ∧ PyData.showableKv ps = true := by simpa [PyData.showableKv] using hs
          have z0 := hz _ (by simp only [PyData.shownKv]; exact List.mem_cons_self ..)
          obtain ⟨e1, e2⟩ := e
          have z1 : (keyD k0).shown.length ≤ sizeLine := Nat.le_trans (by simp only [Str.length_append]; omega) z0
          have z2 : d.shown.length ≤ sizeLine := Nat.le_trans (by simp only [Str.length_append]; omega) z0
          obtain ⟨i1, i2⟩ := Dd.showsKv I ps _ _ _ h2 kv2 p3 hs'.2 fun t ht => hz t (by simp only [PyData.shownKv]; exact List.mem_cons_of_mem _ ht)
          have q1 : k0 = q.1 := e1
          have ky : keyIs k0 en.key = true := by rw [q1]; exact p1
          refine ⟨.cons (shows_key ky hs'.1.1 z1) i1, .cons (Dd.shows I d v0 _ h1 ?_ hs'.1.2 z2) i2⟩
          show RelV v0 en.val
          rw [p2]; exact e2
end
/-- repr of any such data -/
def rShow (K : PySem.W.Frag) : List V → Hp → VK → Prop := fun xs H Q => ∃ (v : V) (d : PyData), xs = [v] ∧ Dd K H v d ∧ d.showable = true ∧ d.depth ≤ 40 ∧ d.shown.length ≤ sizeLine ∧ Q (.str d.shown) H
theorem call_show (hq : Quiet X.A) (hu : X.A.units + 64 < cLine) : CallR X (.builtin "repr") (rShow X.K) := by
  intro pins s σ H xs us Q I r h
  obtain ⟨v, d, rfl, hd, hs, hp, hz, q⟩ := h
  cases r with
  | cons rv rn =>
    rename_i u us'
    cases rn
    have done : ∀ h' tk, (∀ b o, s.heap.get? b = some o → h'.get? b = some o) → ∀ z, EP X pins σ Q (.str d.shown z) { s with heap := h', toks := tk } := fun h' tk hk z => ⟨.str _, H, I.kept hk, ⟨z, rfl⟩, q⟩
    cases hd with
    | non => cases rv; exact PySem.P.repr_of_none ⟨.str _, H, I.tok _, ⟨_, rfl⟩, q⟩
    | bl b => cases rv; exact PySem.P.repr_of_bool ⟨.str _, H, I.tok _, ⟨_, rfl⟩, q⟩
    | int i =>
      obtain ⟨t, rfl⟩ := rv
      exact PySem.P.repr_of_int (of_decide_eq_true hs) ⟨.str _, H, I.tok _, ⟨_, rfl⟩, q⟩
    | str x =>
      obtain ⟨t, rfl⟩ := rv
      exact PySem.P.repr_of_str ⟨.str _, H, I.tok _, ⟨_, rfl⟩, q⟩
    | @lst a xs ds hq2 ha =>
      cases rv
      obtain ⟨its, rv2, ⟨o, n, ho, hc, _, hd2⟩, _⟩ := I.list hq2
      have hz' : (listText (PyData.shownAll ds)).length ≤ sizeLine := by simpa only [PyData.shown] using hz
      have hp' : PyData.depthAll ds + 1 ≤ 40 := by simpa only [PyData.depth] using hp
      obtain ⟨⟨as, r⟩, bs, hb, k⟩ := Dd.showsAll I ds _ its ha rv2 (by simpa [PyData.showable] using hs) fun t ht => Nat.le_trans (listText_mem_le ht) hz'
      have R : Reads s.heap (.ref a) (.list ds) _ := .list ho hc hd2 r
      have off : a ∉ bs := not_mem_of_deeper R (by simp only [PyData.depth]; omega) hb
      refine call_repr_slot (by omega) ⟨o, ho, hc⟩ F.slot_list_repr.toG ?_
      simp only [PyData.shown] at done
      cases its with
      | nil =>
        cases r
        simp only [PyData.shownAll, listText_nil] at done
        exact call_list_repr_empty ⟨o, ho, hc⟩ ho hd2 ⟨_, _, rfl, done s.heap _ (fun _ _ e => e) _⟩
      | cons u us => exact call_list_reprK ho hc hd2 off (by simpa using k.length_eq) (fun i y e => k.item i y (by simpa using e)) hq (fun b _ => Clear.nil b) (by show X.A.units + 1 + (PyData.depthAll ds + 1) < cLine; omega) (fun _ _ e => e) (fun h' u tk hk => ⟨_, _, rfl, done h' tk hk u⟩) hz'
    | @tup a xs ds hq2 ha =>
      cases rv
      obtain ⟨its, rv2, ⟨o, ho, hc, n, hd2⟩, _⟩ := I.tuple hq2
      have hz' : (tupleText (PyData.shownAll ds)).length ≤ sizeLine := by simpa only [PyData.shown] using hz
      have hp' : PyData.depthAll ds + 1 ≤ 40 := by simpa only [PyData.depth] using hp
      obtain ⟨⟨as, r⟩, bs, hb, k⟩ := Dd.showsAll I ds _ its ha rv2 (by simpa [PyData.showable] using hs) fun t ht => Nat.le_trans (tupleText_mem_le ht) hz'
      have R : Reads s.heap (.ref a) (.tuple ds) _ := .tuple ho hc hd2 r
      have off : a ∉ bs := not_mem_of_deeper R (by simp only [PyData.depth]; omega) hb
      simp only [PyData.shown] at done
      exact call_repr_slot (by omega) ⟨o, ho, hc⟩ F.slot_tuple_repr (call_tuple_reprK ho hc hd2 off k hq (fun b _ => Clear.nil b) (by show X.A.units + 1 + (PyData.depthAll ds + 1) < cLine; omega) (fun _ _ e => e) (fun h' u tk hk => ⟨_, _, rfl, done h' tk hk u⟩) hz')
    | @dic a kvs ps hq2 ha =>
      cases rv
      obtain ⟨_, hsys, vs, kv, o, es, ep, ho, ⟨hc, _, _⟩, hd2, _, pr, _⟩ := I.hok _ _ hq2
      have hz' : (dictText (PyData.shownKv ps)).length ≤ sizeLine := by simpa only [PyData.shown] using hz
      have hp' : PyData.depthKv ps + 1 ≤ 40 := by simpa only [PyData.depth] using hp
      obtain ⟨⟨⟨as1, r1⟩, c1, h1, k1⟩, ⟨as2, r2⟩, c2, h2, k2⟩ := Dd.showsKv I ps _ vs es.toList ha kv pr (by simpa [PyData.showable] using hs) (fun t ht => Nat.le_trans (dictText_mem_le ht) hz')
      have R : Reads s.heap (.ref a) (.dict ps) _ := .dict ho hc hd2 r1 r2
      have hb : ReadAtMost s.heap (PyData.depthKv ps) (c1 ++ c2) := (h1.mono (PyData.depthAll_keys_le ps)).append (h2.mono (PyData.depthAll_vals_le ps))
      have off : a ∉ c1 ++ c2 := not_mem_of_deeper R (by simp only [PyData.depth]; omega) hb
      simp only [PyData.shown] at done
      exact call_repr_slot (by omega) ⟨o, ho, hc⟩ F.slot_dict_repr (call_dict_reprK ho hc hd2 hsys off (ReprEntriesK.of_two es.toList _ _
        (k1.more_le (fun _ z => List.mem_append_left _ z) (PyData.depthAll_keys_le ps)) (k2.more_le (fun _ z => List.mem_append_right _ z) (PyData.depthAll_vals_le ps)) |> fun z => by rw [← PyData.shownKv_eq] at z; exact z)
        hq (fun b _ => Clear.nil b) (by show X.A.units + 1 + (PyData.depthKv ps + 1) < cLine; omega) (fun _ _ e => e) (fun h' u tk hk => ⟨_, _, rfl, done h' tk hk u⟩) hz')
end
section
variable {K : PySem.W.Frag} {σ : L2.St} {H : Hp} {te : TE} {v : V} {d : PyData}
theorem v_show (h : Val te σ H v) (hd : Dd K H v d) (hs : d.showable = true) (hp : d.depth ≤ 40) (hz : d.shown.length ≤ 100000) : Val (tCB (rShow K) (tCons te tNil)) σ H (.str d.shown) := v_cb (va_cons h va_nil) fun Q q => ⟨v, d, rfl, hd, hs, hp, Nat.le_trans hz (by decide), q⟩
end
end GL

/-! several clauses 'except X as e' in one try -/
namespace TM
open PySem PySem.Spec PyProof.Rows L2
abbrev Cl := Value × Nat × (Addr → Value → Option Addr → TS)
/-- what the clauses wish of an exception, the first one first -/
def wNames (K : PySem.W.Frag) (Wout : WX) (D : Ends) (l : List Cl) : WX := l.foldr (fun q W => wAs K q.1 q.2.1 q.2.2 W D) Wout
/-- asked only of states that hold every name -/
def wLen (n : Nat) (W : WX) : WX := fun cls d σ H => σ.length = n → W cls d σ H
inductive Clauses (X : Cx) : List ExceptHandler → List Cl → Prop
  | nil : Clauses X [] []
  | cons {x n : Str} {c : Value} {i : Nat} {ts : Addr → Value → Option Addr → TS} {b : Stmt} {r : List Stmt} {np hp : Pos} {hds : List ExceptHandler} {l : List Cl} (hi : X.N[i]? = some n) (hn : X.env.kindOf n = some .local) (hc : Names X x c)
      (suite : ∀ (a : Addr) (oe : Obj) (cls : Value) (d : Option Addr) (pn : List (Addr × Obj)), Zc cls d oe → (∃ vs, oe.data = .fields vs) → PSs (X.suite a ((a, oe) :: pn)) (b :: r) (ts a cls d)) (more : Clauses X hds l) :
      Clauses X (.ExceptHandler (some (.Name x np)) (some n) (b :: r) hp :: hds) ((c, i, ts) :: l)
section
variable {X : Cx} {body : List Stmt} {h₀ : ExceptHandler} {hds : List ExceptHandler} {l : List Cl} {pos : Pos} {tb : WX → TS} {Wout : WX}
theorem ps_try_names (hs : X.stack = X.env :: X.outer) (hf : X.env.frame = some X.env.locals) (hN : X.N.Nodup) (tk : Takes X Wout)
    (hb : ∀ (W : WX) (pn : List (Addr × Obj)) (xe : Value → Shared → Prop), Takes (X.tr pn xe) W → PassesOwn (model X.prog X.w) X.A X.env xe → PSs (X.tr pn xe) body (tb W))
    (cl : Clauses X (h₀ :: hds) l) : PS X (.Try body (h₀ :: hds) [] [] pos) (fun D σ H => tb (wLen X.N.length (wNames X.K Wout D l)) D σ H) := by
  refine ⟨fun pins s σ H D I h => ?_⟩
  have ok := I.ok
  have frames : X.A.frames = some (X.env :: X.outer) := by rw [ok.frames, hs]
  refine wpAny_Try_except ?_
  have run := (hb (wLen X.N.length (wNames X.K Wout D l)) (X.pn ++ pins) (fun e t => wpAny (model X.prog X.w) X.A (noteFrame e X.env) (fun _ t2 => wpAny (model X.prog X.w) X.A (setFlight e none) (fun _ t3 =>
    wpAny (model X.prog X.w) X.A (handleBy e X.env (h₀ :: hds)) (SP X pins D) X.xe t3) X.xe t2) X.xe t) (fun u s' xx => ?_) PassesOwn.looking).run [] s σ H D (I.toTry _) h
  · refine wpAny_mono run (fun f s1 e => ?_) (fun e s1 he => he)
    cases f with
    | next =>
      obtain ⟨σ', H', J', q⟩ := e
      exact wpAny_execs_nil ⟨σ', H', J'.ofTry ok, q⟩
    | brk =>
      obtain ⟨σ', H', J', q⟩ := e
      exact ⟨σ', H', J'.ofTry ok, q⟩
    | cont =>
      obtain ⟨σ', H', J', q⟩ := e
      exact ⟨σ', H', J'.ofTry ok, q⟩
    | ret u =>
      obtain ⟨v, σ', H', J', r, q⟩ := e
      exact ⟨v, σ', H', J'.ofTry ok, r, q⟩
  · obtain ⟨a, B, sI, pins', σ', H', cls, d, rfl, J', nb, up, sky, na, os, ag, w⟩ := xx
    have J : Inv X pins σ' H' sI := J'.ofTry ok
    have sky' : Sky B (X.env :: X.outer) a (Zc cls d) X.env.locals s'.heap := by rw [← hs]; exact sky
    show wpAny (model X.prog X.w) X.A (noteFrame (.ref a) X.env) _ _ _
    refine Sky.land Zc.steady frames hf sky' fun h3 fl3 up3 => ?_
    have J3 : Inv X pins σ' H' { s' with heap := h3 } := J.landed nb fl3.1 (up.trans up3) os ag
    obtain ⟨oe, vs, he, hz, hd⟩ := fl3.there
    have away : a ∉ frs (X.env :: X.outer) := fun hm => by
      obtain ⟨_, o', e', no⟩ := fl3.2.2.1.mem hm
      rw [he] at e'; cases e'
      exact no _ hd
    have nL : a ≠ X.env.locals := fun z => away (List.mem_filterMap.mpr ⟨X.env, List.mem_cons_self, by rw [hf, z]⟩)
    have nF : a ∉ X.fs := fun hm => by
      obtain ⟨e, m, q⟩ := List.mem_filterMap.mp hm
      exact away (List.mem_filterMap.mpr ⟨e, List.mem_cons_of_mem _ m, q⟩)
    have S3 := J3.suite he hd na nL nF
    have looks : PySem.W.Looks (model X.prog X.w) h3 (typeOf (.ref a)) cls := fun A Q E s k q => wpAny_typeOf_ref (k _ _ he) (by rw [hz.1]; exact q)
    suffices go : ∀ {hs' : List ExceptHandler} {l' : List Cl}, Clauses X hs' l' → wNames X.K Wout D l' cls d σ' H' → wpAny (model X.prog X.w) X.A (handleBy (.ref a) X.env hs') (SP X pins D) X.xe { s' with heap := h3 } from go cl (w J.len)
    intro hs' l' k
    induction k with
    | nil =>
      intro w
      refine wpAny_handleBy_nil ?_
      obtain ⟨k1, k2, k3, oe2, vs2, T, oT, ts', he2, hz2, hd2, h1, hr⟩ := id fl3
      unfold PySem.passOn
      refine wpAny_bind (wpAny_field he2 hd2 h1 ?_)
      rw [if_neg (show ¬ ((Value.ref T == Value.none) = true) from by simp)]
      have out : wpAny (model X.prog X.w) X.A (setFlight (.ref a) X.env.frame) (fun _ s4 => wpAny (model X.prog X.w) X.A (throw (.ref a) : Sem Flow) (SP X pins D) X.xe s4) X.xe { s' with heap := h3 } := by
        rw [hf]
        refine HandSPX.setFlight_upZ fl3 fun h4 hh4 up4 => wpAny_throw (tk _ _ ?_)
        exact ⟨a, B, sI, pins, σ', H', cls, d, rfl, J, nb, (up.trans up3).trans up4, .inr (.inr (by rw [hs]; exact hh4)), na, os, ag, w⟩
      first
        | exact wpAny_bind (wpAny_pure (wpAny_bind out))
        | exact wpAny_bind out
    | @cons x n c i ts b r np hp hds2 l2 hi hn hc suite more ih =>
      intro w
      obtain ⟨t, ht, yes, no⟩ := w
      refine wpAny_handleBy_cons (codeAny_handlers_test ?_) (by intro q; cases q)
      have LM := PySem.W.exm_one (M := model X.prog X.w) (J3.kIn) looks ht
      have test : ∀ {Q : Value → Shared → Prop} {E : Value → Shared → Prop}, Q c { s' with heap := h3 } → wpAny (model X.prog X.w) (X.A.mark (some (.ref a))) (eval (.Name x np) X.env) Q E { s' with heap := h3 } := fun {Q E} q => by
        obtain ⟨g, db, hm | ⟨hm, hv, nn⟩⟩ := hc
        · exact ld_glob (X := X.suite a ((a, oe) :: (X.pn ++ pins))) S3 g hm q db
        · exact ld_blt (X := X.suite a ((a, oe) :: (X.pn ++ pins))) S3 g hm hv q nn db
      refine test (LM.here ?_)
      cases t with
      | false => exact ih (no rfl)
      | true =>
        refine codeAny_handlers_suite_as ?_
        refine HandSPX.lands_againZ fl3 fun h4 fl4 up4 => ?_
        have J4 : Inv X pins σ' H' { s' with heap := h4 } := J.landed nb fl4.1 ((up.trans up3).trans up4) os ag
        obtain ⟨oe4, vs4, he4, hz4, hd4⟩ := fl4.there
        have S4 := J4.suite he4 hd4 na nL nF
        refine store_ok (X := X.suite a ((a, oe4) :: (X.pn ++ pins))) (v := .ref a) S4 hN hi (.inl hn) rfl (fun s5 S5 => ?_) (.inr hn)
        refine wpAny_mono ((suite a oe4 cls d (X.pn ++ pins) hz4 ⟨_, hd4⟩).run [] s5 _ H' _ S5 (yes rfl a na)) (fun f s6 e => ?_) (fun _ _ z => False.elim z)
        cases f with
        | next =>
          obtain ⟨σ6, H6, S6, q6⟩ := e
          exact gone_ok (S6.unsuite ok) hN hi hn fun s7 J7 => ⟨_, _, J7, q6⟩
        | brk =>
          obtain ⟨σ6, H6, S6, q6⟩ := e
          exact gone_ok (S6.unsuite ok) hN hi hn fun s7 J7 => ⟨_, _, J7, q6⟩
        | cont =>
          obtain ⟨σ6, H6, S6, q6⟩ := e
          exact gone_ok (S6.unsuite ok) hN hi hn fun s7 J7 => ⟨_, _, J7, q6⟩
        | ret u =>
          obtain ⟨v6, σ6, H6, S6, r6, q6⟩ := e
          exact gone_ok (S6.unsuite ok) hN hi hn fun s7 J7 => ⟨_, _, _, J7, r6, q6⟩
end
end TM

namespace LW
open PySem PySem.Spec PyProof.Rows L2 GL
def top (i : Nat) : Stmt := PySem.Challenge.pw_flowpapers_k05_whole_lines_and_moved_pol.main.body.getD i (.Pass ⟨0, 0, 0, 0⟩)
abbrev tBadText : Stmt := top 4
abbrev tBadNumber : Stmt := top 5
abbrev tBadRow : Stmt := top 6
abbrev tPoly : Stmt := top 30
abbrev tPlane : Stmt := top 36
abbrev s_wall : Stmt := top 1
abbrev sis_ratio : Stmt := top 8
theorem scis_ratio : FnScope ["value"] ["value"] (defScope sis_ratio) := ⟨rfl, rfl, rfl, by decide +kernel, rfl, by decide +kernel, by decide +kernel⟩
abbrev stold : Stmt := top 9
theorem sctold : FnScope ["value", "what", "top", "bottom"] ["value", "what"] (defScope stold) := ⟨rfl, rfl, rfl, by decide +kernel, rfl, by decide +kernel, by decide +kernel⟩
abbrev splus : Stmt := top 10
abbrev sis_integer : Stmt := top 11
theorem scis_integer : FnScope ["value"] ["value"] (defScope sis_integer) := ⟨rfl, rfl, rfl, by decide +kernel, rfl, by decide +kernel, by decide +kernel⟩
abbrev s_parts : Stmt := top 12
theorem sc_parts : FnScope ["value", "what"] ["value", "what"] (defScope s_parts) := ⟨rfl, rfl, rfl, by decide +kernel, rfl, by decide +kernel, by decide +kernel⟩
abbrev s_lowest : Stmt := top 13
theorem sc_lowest : FnScope ["top", "bottom", "divisor"] ["top", "bottom"] (defScope s_lowest) := ⟨rfl, rfl, rfl, by decide +kernel, rfl, by decide +kernel, by decide +kernel⟩
abbrev sis_row : Stmt := top 15
theorem scis_row : FnScope ["value", "number"] ["value"] (defScope sis_row) := ⟨rfl, rfl, rfl, by decide +kernel, rfl, by decide +kernel, by decide +kernel⟩
abbrev sis_row_of : Stmt := top 16
theorem scis_row_of : FnScope ["value", "many"] ["value", "many"] (defScope sis_row_of) := ⟨rfl, rfl, rfl, by decide +kernel, rfl, by decide +kernel, by decide +kernel⟩
abbrev sis_place : Stmt := top 17
theorem scis_place : FnScope ["value"] ["value"] (defScope sis_place) := ⟨rfl, rfl, rfl, by decide +kernel, rfl, by decide +kernel, by decide +kernel⟩
abbrev spair_of : Stmt := top 18
theorem scpair_of : FnScope ["value"] ["value"] (defScope spair_of) := ⟨rfl, rfl, rfl, by decide +kernel, rfl, by decide +kernel, by decide +kernel⟩
abbrev splace_of : Stmt := top 19
theorem scplace_of : FnScope ["value"] ["value"] (defScope splace_of) := ⟨rfl, rfl, rfl, by decide +kernel, rfl, by decide +kernel, by decide +kernel⟩
abbrev sis_strict_ratio : Stmt := top 20
abbrev sbottom_of : Stmt := top 22
theorem scbottom_of : FnScope ["pairs", "below", "_", "bottom"] ["pairs"] (defScope sbottom_of) := ⟨rfl, rfl, rfl, by decide +kernel, rfl, by decide +kernel, by decide +kernel⟩
abbrev swhole_row : Stmt := top 23
theorem scwhole_row : FnScope ["pairs", "below", "top", "bottom"] ["pairs"] (defScope swhole_row) := ⟨rfl, rfl, rfl, by decide +kernel, rfl, by decide +kernel, by decide +kernel⟩
abbrev swhole_rows : Stmt := top 24
theorem scwhole_rows : FnScope ["rows", "below", "row", "pair", "top", "bottom"] ["rows"] (defScope swhole_rows) := ⟨rfl, rfl, rfl, by decide +kernel, rfl, by decide +kernel, by decide +kernel⟩
abbrev stop_power : Stmt := top 25
theorem sctop_power : FnScope ["tops", "power"] ["tops"] (defScope stop_power) := ⟨rfl, rfl, rfl, by decide +kernel, rfl, by decide +kernel, by decide +kernel⟩
abbrev stotal : Stmt := top 26
abbrev s_joined : Stmt := top 27
abbrev srow_product : Stmt := top 28
abbrev s_beside : Stmt := top 31
abbrev s_number : Stmt := top 32
abbrev s_sum : Stmt := top 33
abbrev s_product : Stmt := top 34
abbrev s_are_rows : Stmt := top 37
theorem sc_are_rows : FnScope ["value", "row"] ["value"] (defScope s_are_rows) := ⟨rfl, rfl, rfl, by decide +kernel, rfl, by decide +kernel, by decide +kernel⟩
abbrev s_shortened : Stmt := top 38
theorem sc_shortened : FnScope ["pairs", "top", "_"] ["pairs"] (defScope s_shortened) := ⟨rfl, rfl, rfl, by decide +kernel, rfl, by decide +kernel, by decide +kernel⟩
abbrev s_plane_beside : Stmt := top 39
abbrev s_row : Stmt := top 40
abbrev s_plane_sum : Stmt := top 41
abbrev s_row_sum : Stmt := top 42
abbrev s_plane_product : Stmt := top 43
abbrev s_facing : Stmt := top 44
abbrev s_product_row : Stmt := top 45
abbrev s_crossed_pairs : Stmt := top 46
abbrev s_value_at : Stmt := top 47
theorem sc_value_at : FnScope ["tops", "top", "bottom", "value", "power", "number"] ["tops", "top", "bottom"] (defScope s_value_at) := ⟨rfl, rfl, rfl, by decide +kernel, rfl, by decide +kernel, by decide +kernel⟩
abbrev s_scaled : Stmt := top 48
theorem sc_scaled : FnScope ["number", "bottom", "many", "_"] ["number", "bottom", "many"] (defScope s_scaled) := ⟨rfl, rfl, rfl, by decide +kernel, rfl, by decide +kernel, by decide +kernel⟩
abbrev smoved_whole : Stmt := top 49
theorem scmoved_whole : FnScope ["rows", "over", "up", "bottom", "many", "scales", "_", "found", "i", "inner", "j", "place"] ["rows", "over", "up", "bottom", "many"] (defScope smoved_whole) := ⟨rfl, rfl, rfl, by decide +kernel, rfl, by decide +kernel, by decide +kernel⟩
abbrev s_times_line : Stmt := top 50
theorem sc_times_line : FnScope ["numbers", "line", "a", "b", "e", "found", "i", "j", "number", "place", "factor"] ["numbers", "line"] (defScope s_times_line) := ⟨rfl, rfl, rfl, by decide +kernel, rfl, by decide +kernel, by decide +kernel⟩
abbrev s_plane_of_numbers : Stmt := top 51
theorem sc_plane_of_numbers : FnScope ["numbers", "below", "high", "i", "_", "wide", "j"] ["numbers", "below"] (defScope s_plane_of_numbers) := ⟨rfl, rfl, rfl, by decide +kernel, rfl, by decide +kernel, by decide +kernel⟩
abbrev s_law_pen : Stmt := top 53
theorem sc_law_pen : FnScope ["_law_script", "_law_fold", "_law_cell"] ["_law_script"] (defScope s_law_pen) := ⟨rfl, rfl, rfl, by decide +kernel, rfl, by decide +kernel, by decide +kernel⟩
abbrev s_law_draw : Stmt := top 54
theorem sc_law_draw : FnScope ["_law_pen_here", "_law_many", "_law_cell", "_law_digit", "_law_mixed"] ["_law_pen_here", "_law_many"] (defScope s_law_draw) := ⟨rfl, rfl, rfl, by decide +kernel, rfl, by decide +kernel, by decide +kernel⟩
abbrev s_law_pick : Stmt := top 55
theorem sc_law_pick : FnScope ["_law_pen_here", "_law_some"] ["_law_pen_here", "_law_some"] (defScope s_law_pick) := ⟨rfl, rfl, rfl, by decide +kernel, rfl, by decide +kernel, by decide +kernel⟩
abbrev s_law_gcd : Stmt := top 56
theorem sc_law_gcd : FnScope ["_law_one", "_law_two", "_law_lap"] ["_law_one", "_law_two"] (defScope s_law_gcd) := ⟨rfl, rfl, rfl, by decide +kernel, rfl, by decide +kernel, by decide +kernel⟩
abbrev s_law_q : Stmt := top 57
theorem sc_law_q : FnScope ["_law_top", "_law_bottom", "_law_by"] ["_law_top", "_law_bottom"] (defScope s_law_q) := ⟨rfl, rfl, rfl, by decide +kernel, rfl, by decide +kernel, by decide +kernel⟩
abbrev s_law_plus : Stmt := top 58
theorem sc_law_plus : FnScope ["_law_one", "_law_two"] ["_law_one", "_law_two"] (defScope s_law_plus) := ⟨rfl, rfl, rfl, by decide +kernel, rfl, by decide +kernel, by decide +kernel⟩
abbrev s_law_times : Stmt := top 59
theorem sc_law_times : FnScope ["_law_one", "_law_two"] ["_law_one", "_law_two"] (defScope s_law_times) := ⟨rfl, rfl, rfl, by decide +kernel, rfl, by decide +kernel, by decide +kernel⟩
abbrev s_law_passed : Stmt := top 60
theorem sc_law_passed : FnScope ["_law_pen_here", "_law_ratio_here", "_law_by"] ["_law_pen_here", "_law_ratio_here"] (defScope s_law_passed) := ⟨rfl, rfl, rfl, by decide +kernel, rfl, by decide +kernel, by decide +kernel⟩
abbrev s_law_ratio : Stmt := top 61
theorem sc_law_ratio : FnScope ["_law_pen_here", "_law_most", "_law_bottom"] ["_law_pen_here", "_law_most"] (defScope s_law_ratio) := ⟨rfl, rfl, rfl, by decide +kernel, rfl, by decide +kernel, by decide +kernel⟩
abbrev s_law_poly : Stmt := top 62
theorem sc_law_poly : FnScope ["_law_numbers", "_law_found", "_law_lap"] ["_law_numbers"] (defScope s_law_poly) := ⟨rfl, rfl, rfl, by decide +kernel, rfl, by decide +kernel, by decide +kernel⟩
abbrev s_law_p_plus : Stmt := top 63
theorem sc_law_p_plus : FnScope ["_law_one", "_law_two", "_law_many", "_law_first", "_law_second", "_law_a", "_law_b"] ["_law_one", "_law_two"] (defScope s_law_p_plus) := ⟨rfl, rfl, rfl, by decide +kernel, rfl, by decide +kernel, by decide +kernel⟩
abbrev s_law_p_times : Stmt := top 64
theorem sc_law_p_times : FnScope ["_law_one", "_law_two", "_law_found", "_law_i", "_law_k"] ["_law_one", "_law_two"] (defScope s_law_p_times) := ⟨rfl, rfl, rfl, by decide +kernel, rfl, by decide +kernel, by decide +kernel⟩
abbrev s_law_v_plain : Stmt := top 65
theorem sc_law_v_plain : FnScope ["_law_plane", "_law_found", "_law_spot"] ["_law_plane"] (defScope s_law_v_plain) := ⟨rfl, rfl, rfl, by decide +kernel, rfl, by decide +kernel, by decide +kernel⟩
abbrev s_law_v_plus : Stmt := top 66
theorem sc_law_v_plus : FnScope ["_law_one", "_law_two", "_law_found", "_law_spot"] ["_law_one", "_law_two"] (defScope s_law_v_plus) := ⟨rfl, rfl, rfl, by decide +kernel, rfl, by decide +kernel, by decide +kernel⟩
abbrev s_law_v_scaled : Stmt := top 67
theorem sc_law_v_scaled : FnScope ["_law_one", "_law_by", "_law_found", "_law_spot"] ["_law_one", "_law_by"] (defScope s_law_v_scaled) := ⟨rfl, rfl, rfl, by decide +kernel, rfl, by decide +kernel, by decide +kernel⟩
abbrev s_law_v_times : Stmt := top 68
theorem sc_law_v_times : FnScope ["_law_one", "_law_two", "_law_found", "_law_a", "_law_b", "_law_spot"] ["_law_one", "_law_two"] (defScope s_law_v_times) := ⟨rfl, rfl, rfl, by decide +kernel, rfl, by decide +kernel, by decide +kernel⟩
abbrev s_law_v_power : Stmt := top 69
theorem sc_law_v_power : FnScope ["_law_one", "_law_many", "_law_found", "_law_lap"] ["_law_one", "_law_many"] (defScope s_law_v_power) := ⟨rfl, rfl, rfl, by decide +kernel, rfl, by decide +kernel, by decide +kernel⟩
abbrev s_law_v_along : Stmt := top 70
theorem sc_law_v_along : FnScope ["_law_one", "_law_place_here", "_law_step", "_law_found", "_law_lines", "_law_k", "_law_spot", "_law_term", "_law_lap"] ["_law_one", "_law_place_here", "_law_step"] (defScope s_law_v_along) := ⟨rfl, rfl, rfl, by decide +kernel, rfl, by decide +kernel, by decide +kernel⟩
abbrev s_law_v_put : Stmt := top 71
theorem sc_law_v_put : FnScope ["_law_one", "_law_forms", "_law_found", "_law_spot", "_law_term"] ["_law_one", "_law_forms"] (defScope s_law_v_put) := ⟨rfl, rfl, rfl, by decide +kernel, rfl, by decide +kernel, by decide +kernel⟩
abbrev s_law_v_of : Stmt := top 72
theorem sc_law_v_of : FnScope ["_law_plane", "_law_found", "_law_i", "_law_j"] ["_law_plane"] (defScope s_law_v_of) := ⟨rfl, rfl, rfl, by decide +kernel, rfl, by decide +kernel, by decide +kernel⟩
abbrev s_law_v_rows : Stmt := top 73
theorem sc_law_v_rows : FnScope ["_law_one", "_law_wide", "_law_spot", "_law_high", "_law_j", "_law_i"] ["_law_one"] (defScope s_law_v_rows) := ⟨rfl, rfl, rfl, by decide +kernel, rfl, by decide +kernel, by decide +kernel⟩
abbrev s_law_made_plane : Stmt := top 74
theorem sc_law_made_plane : FnScope ["_law_pen_here", "_law_one", "_law_number", "_law_row"] ["_law_pen_here", "_law_one"] (defScope s_law_made_plane) := ⟨rfl, rfl, rfl, by decide +kernel, rfl, by decide +kernel, by decide +kernel⟩
abbrev s_law_v_drawn : Stmt := top 75
theorem sc_law_v_drawn : FnScope ["_law_pen_here", "_law_degree", "_law_most", "_law_found", "_law_i", "_law_j"] ["_law_pen_here", "_law_degree", "_law_most"] (defScope s_law_v_drawn) := ⟨rfl, rfl, rfl, by decide +kernel, rfl, by decide +kernel, by decide +kernel⟩
abbrev s_law_place : Stmt := top 76
theorem sc_law_place : FnScope ["_law_pen_here", "_law_most"] ["_law_pen_here", "_law_most"] (defScope s_law_place) := ⟨rfl, rfl, rfl, by decide +kernel, rfl, by decide +kernel, by decide +kernel⟩
abbrev s_law_why : Stmt := top 77
theorem sc_law_why : FnScope ["_law_call", "e"] ["_law_call"] (defScope s_law_why) := ⟨rfl, rfl, rfl, by decide +kernel, rfl, by decide +kernel, by decide +kernel⟩
abbrev s_law_any : Stmt := top 78
theorem sc_law_any : FnScope ["_law_pen_here", "_law_some"] ["_law_pen_here"] (defScope s_law_any) := ⟨rfl, rfl, rfl, by decide +kernel, rfl, by decide +kernel, by decide +kernel⟩
abbrev s_law_shown : Stmt := top 79
theorem sc_law_shown : FnScope ["_law_pen_here", "_law_row", "_law_passed_here", "_law_ratio_here"] ["_law_pen_here", "_law_row"] (defScope s_law_shown) := ⟨rfl, rfl, rfl, by decide +kernel, rfl, by decide +kernel, by decide +kernel⟩
abbrev s_law_matrix : Stmt := top 80
theorem sc_law_matrix : FnScope ["_law_pen_here", "_law_most", "_law_row", "_law_k"] ["_law_pen_here", "_law_most"] (defScope s_law_matrix) := ⟨rfl, rfl, rfl, by decide +kernel, rfl, by decide +kernel, by decide +kernel⟩
abbrev s_law_flow_at : Stmt := top 81
theorem sc_law_flow_at : FnScope ["_law_matrix_here", "_law_shift", "_law_place_here", "_law_a", "_law_b", "_law_c", "_law_d", "_law_across"] ["_law_matrix_here", "_law_shift", "_law_place_here"] (defScope s_law_flow_at) := ⟨rfl, rfl, rfl, by decide +kernel, rfl, by decide +kernel, by decide +kernel⟩
abbrev slaw : Stmt := top 82
theorem sclaw : FnScope ["_law_script", "_law_pen_here", "_law_lap", "_law_one", "_law_made", "_law_start", "_law_step", "_law_told", "_law_t", "_law_there", "_law_a", "_law_b", "_law_matrix_here", "_law_shift", "_law_place_here", "_law_forms", "_law_k", "_law_moved", "_law_odd", "_law_bad"] ["_law_script"] (defScope slaw) := ⟨rfl, rfl, rfl, by decide +kernel, rfl, by decide +kernel, by decide +kernel⟩
/-! ### the pen -/
abbrev kCe : Key := Sum.inr ("cells" : Str)
abbrev kAt : Key := Sum.inr ("at" : Str)
abbrev kDi : Key := Sum.inr ("digits" : Str)
abbrev kCo : Key := Sum.inr ("count" : Str)
abbrev kFo : Key := Sum.inr ("fold" : Str)
def penK (c : Addr) (a d n f : Int) : List (Key × V) := [(kCe, .ref c), (kAt, .int a), (kDi, .int d), (kCo, .int n), (kFo, .int f)]
theorem sneCeAt : ¬ (("cells" : Str) = "at") := by decide +kernel
theorem neCeAt : ¬ (kCe = kAt) := by decide +kernel
theorem sneCeDi : ¬ (("cells" : Str) = "digits") := by decide +kernel
theorem neCeDi : ¬ (kCe = kDi) := by decide +kernel
theorem sneCeCo : ¬ (("cells" : Str) = "count") := by decide +kernel
theorem neCeCo : ¬ (kCe = kCo) := by decide +kernel
theorem sneCeFo : ¬ (("cells" : Str) = "fold") := by decide +kernel
theorem neCeFo : ¬ (kCe = kFo) := by decide +kernel
theorem sneAtDi : ¬ (("at" : Str) = "digits") := by decide +kernel
theorem neAtDi : ¬ (kAt = kDi) := by decide +kernel
theorem sneAtCo : ¬ (("at" : Str) = "count") := by decide +kernel
theorem neAtCo : ¬ (kAt = kCo) := by decide +kernel
theorem sneAtFo : ¬ (("at" : Str) = "fold") := by decide +kernel
theorem neAtFo : ¬ (kAt = kFo) := by decide +kernel
theorem sneDiAt : ¬ (("digits" : Str) = "at") := by decide +kernel
theorem sneDiCo : ¬ (("digits" : Str) = "count") := by decide +kernel
theorem neDiCo : ¬ (kDi = kCo) := by decide +kernel
theorem sneDiFo : ¬ (("digits" : Str) = "fold") := by decide +kernel
theorem neDiFo : ¬ (kDi = kFo) := by decide +kernel
theorem sneCoAt : ¬ (("count" : Str) = "at") := by decide +kernel
theorem sneCoDi : ¬ (("count" : Str) = "digits") := by decide +kernel
theorem sneCoFo : ¬ (("count" : Str) = "fold") := by decide +kernel
theorem neCoFo : ¬ (kCo = kFo) := by decide +kernel
theorem sneFoAt : ¬ (("fold" : Str) = "at") := by decide +kernel
theorem sneFoDi : ¬ (("fold" : Str) = "digits") := by decide +kernel
theorem sneFoCo : ¬ (("fold" : Str) = "count") := by decide +kernel
theorem pen_cells {c : Addr} {a d n f : Int} : valV (penK c a d n f) kCe = some (.ref c) := by
  unfold penK
  rw [valV_pos rfl]
theorem pen_at {c : Addr} {a d n f : Int} : valV (penK c a d n f) kAt = some (.int a) := by
  unfold penK
  rw [valV_neg neCeAt, valV_pos rfl]
theorem pen_digits {c : Addr} {a d n f : Int} : valV (penK c a d n f) kDi = some (.int d) := by
  unfold penK
  rw [valV_neg neCeDi, valV_neg neAtDi, valV_pos rfl]
theorem pen_count {c : Addr} {a d n f : Int} : valV (penK c a d n f) kCo = some (.int n) := by
  unfold penK
  rw [valV_neg neCeCo, valV_neg neAtCo, valV_neg neDiCo, valV_pos rfl]
theorem pen_fold {c : Addr} {a d n f : Int} : valV (penK c a d n f) kFo = some (.int f) := by
  unfold penK
  rw [valV_neg neCeFo, valV_neg neAtFo, valV_neg neDiFo, valV_neg neCoFo, valV_pos rfl]
theorem put_at {c : Addr} {a d n f x : Int} : putK (penK c a d n f) kAt (.int x) = penK c x d n f := by
  simp [putK, penK, sneCeAt, sneDiAt, sneCoAt, sneFoAt]
theorem put_digits {c : Addr} {a d n f x : Int} : putK (penK c a d n f) kDi (.int x) = penK c a x n f := by
  simp [putK, penK, sneCeDi, sneAtDi, sneCoDi, sneFoDi]
theorem put_count {c : Addr} {a d n f x : Int} : putK (penK c a d n f) kCo (.int x) = penK c a d x f := by
  simp [putK, penK, sneCeCo, sneAtCo, sneDiCo, sneFoCo]
theorem put_fold {c : Addr} {a d n f x : Int} : putK (penK c a d n f) kFo (.int x) = penK c a d n x := by
  simp [putK, penK, sneCeFo, sneAtFo, sneDiFo, sneCoFo]
theorem merge_pen {c : Addr} {f : Int} : mergeK [] (penK c 0 0 0 f) = penK c 0 0 0 f := by
  simp [mergeK, putK, penK, sneCeAt, sneCeDi, sneCeCo, sneCeFo, sneAtDi, sneAtCo, sneAtFo, sneDiCo, sneDiFo, sneCoFo]
/-- a pen stands at p: at most m draws were made -/
def PenAt (H : Hp) (p c : Addr) (m : Nat) : Prop := ∃ (a d n f : Int) (ns : List Int), H p = some (.dK (penK c a d n f)) ∧ H c = some (.lst (ns.map V.int)) ∧
  0 ≤ a ∧ a ≤ ns.length ∧ 0 ≤ d ∧ 0 ≤ n ∧ n ≤ m ∧ 0 ≤ f ∧ f < 2147483587
theorem PenAt.le {H : Hp} {p c : Addr} {m m' : Nat} (h : PenAt H p c m) (l : m ≤ m') : PenAt H p c m' := by
  obtain ⟨a, d, n, f, ns, h1, h2, h3, h4, h5, h6, h7, h8⟩ := h
  exact ⟨a, d, n, f, ns, h1, h2, h3, h4, h5, h6, by omega, h8⟩
/-- all that stood stands, but what the pen's own dict holds -/
def But (p : Addr) (H H' : Hp) : Prop := ∀ b o, H b = some o → b ≠ p → H' b = some o
theorem But.refl {p : Addr} {H : Hp} : But p H H := fun _ _ h _ => h
theorem But.trans {p : Addr} {H H1 H2 : Hp} (a : But p H H1) (b : But p H1 H2) : But p H H2 := fun c o h n => b c o (a c o h n) n
theorem But.of {p : Addr} {H H' : Hp} (a : Same H H') : But p H H' := fun b o h _ => a b o h
/-- a list of its own may change -/
theorem PenAt.off {H H' : Hp} {p c : Addr} {m : Nat} (h : PenAt H p c m) (s1 : ∀ o, H p = some o → H' p = some o) (s2 : ∀ o, H c = some o → H' c = some o) : PenAt H' p c m := by
  obtain ⟨a, d, n, f, ns, h1, h2, h3⟩ := h
  exact ⟨a, d, n, f, ns, s1 _ h1, s2 _ h2, h3⟩
theorem Same.new {H : Hp} {p : Addr} {o : HO} (h : H p = none) : Same H (upd H p o) := fun b u e => by
  rw [upd_ne (ne_of_none e h)]
  exact e
theorem PenAt.same {H H' : Hp} {p c : Addr} {m : Nat} (h : PenAt H p c m) (s : Same H H') : PenAt H' p c m := by
  obtain ⟨a, d, n, f, ns, h1, h2, h3⟩ := h
  exact ⟨a, d, n, f, ns, s _ _ h1, s _ _ h2, h3⟩

/-! ### what they promise -/
def spPen (K : PySem.W.Frag) : Sp := fun vs H Q _ => ∃ (a : Addr) (ns : List Int), vs = [.ref a] ∧ SqL K H a (ns.map V.int) ∧ ns.length ≤ 63 ∧ ∀ (p c : Addr) (H' : Hp), Same H H' → PenAt H' p c 0 → Q (.ref p) H'
/-- the number of draws that may have been made -/
def most : Nat := 1000000000
def spDraw : Sp := fun vs H Q _ => ∃ (p c : Addr) (many : Int) (m : Nat), vs = [.ref p, .int many] ∧ PenAt H p c m ∧ m < most ∧ 0 < many ∧ many < 1000000000 ∧
  ∀ (r : Int) (H' : Hp), 0 ≤ r → r < many → But p H H' → PenAt H' p c (m + 1) → Q (.int r) H'

structure Txt (K : PySem.W.Frag) (mg : Str → Option Value) : Prop where
  int : mg "int" = none
  bool : mg "bool" = none
  list : mg "list" = none
  tuple : mg "tuple" = none
  len : mg "len" = none
  range : mg "range" = none
  isinstance : mg "isinstance" = none
  repr : mg "repr" = none
  abs : mg "abs" = none
  all : mg "all" = none
  max : mg "max" = none
  min : mg "min" = none
  reversed : mg "reversed" = none
  enumerate : mg "enumerate" = none
  sorted : mg "sorted" = none
  dict : mg "dict" = none
  zip : mg "zip" = none
  NotImplemented : mg "NotImplemented" = none
  gcd : mg "gcd" = some (.builtin "math.gcd")
  lcm : mg "lcm" = some (.builtin "math.lcm")
  _wall : Df K mg "_wall" s_wall ["k"]
  is_ratio : Df K mg "is_ratio" sis_ratio ["value"]
  told : Df K mg "told" stold ["value", "what"]
  plus : Df K mg "plus" splus ["one", "other"]
  is_integer : Df K mg "is_integer" sis_integer ["value"]
  _parts : Df K mg "_parts" s_parts ["value", "what"]
  _lowest : Df K mg "_lowest" s_lowest ["top", "bottom"]
  is_row : Df K mg "is_row" sis_row ["value"]
  is_row_of : Df K mg "is_row_of" sis_row_of ["value", "many"]
  is_place : Df K mg "is_place" sis_place ["value"]
  pair_of : Df K mg "pair_of" spair_of ["value"]
  place_of : Df K mg "place_of" splace_of ["value"]
  is_strict_ratio : Df K mg "is_strict_ratio" sis_strict_ratio ["value"]
  bottom_of : Df K mg "bottom_of" sbottom_of ["pairs"]
  whole_row : Df K mg "whole_row" swhole_row ["pairs"]
  whole_rows : Df K mg "whole_rows" swhole_rows ["rows"]
  top_power : Df K mg "top_power" stop_power ["tops"]
  total : Df K mg "total" stotal ["pairs"]
  _joined : Df K mg "_joined" s_joined ["parts"]
  row_product : Df K mg "row_product" srow_product ["one", "other"]
  _beside : Df K mg "_beside" s_beside ["value"]
  _number : Df K mg "_number" s_number ["poly", "power"]
  _sum : Df K mg "_sum" s_sum ["one", "other"]
  _product : Df K mg "_product" s_product ["one", "other"]
  _are_rows : Df K mg "_are_rows" s_are_rows ["value"]
  _shortened : Df K mg "_shortened" s_shortened ["pairs"]
  _plane_beside : Df K mg "_plane_beside" s_plane_beside ["value"]
  _row : Df K mg "_row" s_row ["plane", "i"]
  _plane_sum : Df K mg "_plane_sum" s_plane_sum ["one", "other"]
  _row_sum : Df K mg "_row_sum" s_row_sum ["row", "other"]
  _plane_product : Df K mg "_plane_product" s_plane_product ["one", "other"]
  _facing : Df K mg "_facing" s_facing ["rows", "others", "i"]
  _product_row : Df K mg "_product_row" s_product_row ["facing"]
  _crossed_pairs : Df K mg "_crossed_pairs" s_crossed_pairs ["facing", "j"]
  _value_at : Df K mg "_value_at" s_value_at ["tops", "top", "bottom"]
  _scaled : Df K mg "_scaled" s_scaled ["number", "bottom", "many"]
  moved_whole : Df K mg "moved_whole" smoved_whole ["rows", "over", "up", "bottom", "many"]
  _times_line : Df K mg "_times_line" s_times_line ["numbers", "line"]
  _plane_of_numbers : Df K mg "_plane_of_numbers" s_plane_of_numbers ["numbers", "below"]
  _law_pen : Df K mg "_law_pen" s_law_pen ["_law_script"]
  _law_draw : Df K mg "_law_draw" s_law_draw ["_law_pen_here", "_law_many"]
  _law_pick : Df K mg "_law_pick" s_law_pick ["_law_pen_here", "_law_some"]
  _law_gcd : Df K mg "_law_gcd" s_law_gcd ["_law_one", "_law_two"]
  _law_q : Df K mg "_law_q" s_law_q ["_law_top", "_law_bottom"]
  _law_plus : Df K mg "_law_plus" s_law_plus ["_law_one", "_law_two"]
  _law_times : Df K mg "_law_times" s_law_times ["_law_one", "_law_two"]
  _law_passed : Df K mg "_law_passed" s_law_passed ["_law_pen_here", "_law_ratio_here"]
  _law_ratio : Df K mg "_law_ratio" s_law_ratio ["_law_pen_here", "_law_most"]
  _law_poly : Df K mg "_law_poly" s_law_poly ["_law_numbers"]
  _law_p_plus : Df K mg "_law_p_plus" s_law_p_plus ["_law_one", "_law_two"]
  _law_p_times : Df K mg "_law_p_times" s_law_p_times ["_law_one", "_law_two"]
  _law_v_plain : Df K mg "_law_v_plain" s_law_v_plain ["_law_plane"]
  _law_v_plus : Df K mg "_law_v_plus" s_law_v_plus ["_law_one", "_law_two"]
  _law_v_scaled : Df K mg "_law_v_scaled" s_law_v_scaled ["_law_one", "_law_by"]
  _law_v_times : Df K mg "_law_v_times" s_law_v_times ["_law_one", "_law_two"]
  _law_v_power : Df K mg "_law_v_power" s_law_v_power ["_law_one", "_law_many"]
  _law_v_along : Df K mg "_law_v_along" s_law_v_along ["_law_one", "_law_place_here", "_law_step"]
  _law_v_put : Df K mg "_law_v_put" s_law_v_put ["_law_one", "_law_forms"]
  _law_v_of : Df K mg "_law_v_of" s_law_v_of ["_law_plane"]
  _law_v_rows : Df K mg "_law_v_rows" s_law_v_rows ["_law_one"]
  _law_made_plane : Df K mg "_law_made_plane" s_law_made_plane ["_law_pen_here", "_law_one"]
  _law_v_drawn : Df K mg "_law_v_drawn" s_law_v_drawn ["_law_pen_here", "_law_degree", "_law_most"]
  _law_place : Df K mg "_law_place" s_law_place ["_law_pen_here", "_law_most"]
  _law_why : Df K mg "_law_why" s_law_why ["_law_call"]
  _law_any : Df K mg "_law_any" s_law_any ["_law_pen_here"]
  _law_shown : Df K mg "_law_shown" s_law_shown ["_law_pen_here", "_law_row"]
  _law_matrix : Df K mg "_law_matrix" s_law_matrix ["_law_pen_here", "_law_most"]
  _law_flow_at : Df K mg "_law_flow_at" s_law_flow_at ["_law_matrix_here", "_law_shift", "_law_place_here"]
  law : Df K mg "law" slaw ["_law_script"]
  BadText : ClI K mg "BadText" "BadText.__init__" (inClass tBadText 0) ["self", "column"] ["column"]
  BadNumber : ClI K mg "BadNumber" "BadNumber.__init__" (inClass tBadNumber 0) ["self", "what", "number"] ["what", "number"]
  BadRow : ClI K mg "BadRow" "BadRow.__init__" (inClass tBadRow 0) ["self", "row"] ["row"]
  xBadNumberBadText : PySem.W.exmOne K (.ref (fA mg "BadNumber")) (.ref (fA mg "BadText")) = some false
  xBadNumberBadNumber : PySem.W.exmOne K (.ref (fA mg "BadNumber")) (.ref (fA mg "BadNumber")) = some true
  xBadRowBadText : PySem.W.exmOne K (.ref (fA mg "BadRow")) (.ref (fA mg "BadText")) = some false
  xBadRowBadNumber : PySem.W.exmOne K (.ref (fA mg "BadRow")) (.ref (fA mg "BadNumber")) = some false
  xBadRowBadRow : PySem.W.exmOne K (.ref (fA mg "BadRow")) (.ref (fA mg "BadRow")) = some true
  lb : ∀ (s : PySem.Shared) (u : PySem.Value), BindsTo s (fDat K (fA mg "law")) ⟨[u], []⟩ [("_law_script", u)]
section
variable {P : Program} {w : World} {K : PySem.W.Frag} {mg : Str → Option Value} {base : Heap}
theorem scI_BadNumber : FnScope ["self", "what", "number"] ["self", "what", "number"] (defScope (inClass tBadNumber 0)) := ⟨rfl, rfl, rfl, by decide +kernel, rfl, by decide +kernel, by decide +kernel⟩
theorem init_BadNumber (T : Txt K mg) : FnOk P w K mg base CX0 1 (iA K (fA mg "BadNumber")) (fDat K (iA K (fA mg "BadNumber"))) ["self", "what", "number"] (spI2 (fA mg "BadNumber") "what" "number") := by
  refine T.BadNumber.F.ok scI_BadNumber (fun vs H Q E h => ?_) (fun cdv A outer s H vs Q E hr h => ?_)
  · obtain ⟨a, v, u, rfl, _⟩ := h
    rfl
  · obtain ⟨a, v, u, rfl, ha, k⟩ := h
    refine ⟨_, pss_cons (ps_ost (pv 0) (pv 1)) (pss_one (ps_ost (pv 0) (pv 2))), s_ost1 T.BadNumber.o (T.BadNumber.n _ (by simp)) ha rfl rfl fun dx hd ne => ?_⟩
    exact s_ost2 T.BadNumber.o (T.BadNumber.n _ (by simp)) upd_same (by rw [upd_ne ne, upd_same]) rfl rfl (k dx hd ne)

/-! ### kinds of values -/
def kinds : List String := ["int", "bool", "str", "NoneType", "dict", "list", "tuple"]
theorem kit_int {n : String} (h : n ∈ kinds) : PySem.W.kitOne K (.type n) (.type "int") = some (decide (n = "int") || decide (n = "bool")) := by
  simp only [kinds, List.mem_cons, List.not_mem_nil, or_false] at h
  rcases h with rfl | rfl | rfl | rfl | rfl | rfl | rfl <;> exact kit_ty (by decide +kernel)
theorem kit_bool {n : String} (h : n ∈ kinds) : PySem.W.kitOne K (.type n) (.type "bool") = some (decide (n = "bool")) := by
  simp only [kinds, List.mem_cons, List.not_mem_nil, or_false] at h
  rcases h with rfl | rfl | rfl | rfl | rfl | rfl | rfl <;> exact kit_ty (by decide +kernel)
theorem kit_tuple {n : String} (h : n ∈ kinds) : PySem.W.kitOne K (.type n) (.type "tuple") = some (decide (n = "tuple")) := by
  simp only [kinds, List.mem_cons, List.not_mem_nil, or_false] at h
  rcases h with rfl | rfl | rfl | rfl | rfl | rfl | rfl <;> exact kit_ty (by decide +kernel)
theorem kit_list {n : String} (h : n ∈ kinds) : PySem.W.kitOne K (.type n) (.type "list") = some (decide (n = "list")) := by
  simp only [kinds, List.mem_cons, List.not_mem_nil, or_false] at h
  rcases h with rfl | rfl | rfl | rfl | rfl | rfl | rfl <;> exact kit_ty (by decide +kernel)
theorem kit_seq {n : String} (h : n ∈ kinds) : PySem.W.kitAny K (.type n) [.type "tuple", .type "list"] = some (decide (n = "tuple") || decide (n = "list")) := by
  refine kitAny_cons (kit_tuple h) (fun e => ?_) (fun e => by rw [e]; rfl)
  rw [e]
  exact kitAny_cons (kit_list h) (fun e2 => by rw [e2]; rfl) (fun e2 => by rw [e2]; rfl)
/-- a value's kind, by its name -/
inductive Is (H : Hp) : V → String → Prop
  | int (i : Int) : Is H (.int i) "int"
  | bl (b : Bool) : Is H (.bl b) "bool"
  | str (x : Str) : Is H (.str x) "str"
  | non : Is H .non "NoneType"
  | lst {a : Addr} {xs : List V} (e : H a = some (.lst xs)) : Is H (.ref a) "list"
  | tup {a : Addr} {xs : List V} (e : H a = some (.tup xs)) : Is H (.ref a) "tuple"
  | dic {a : Addr} {kvs : List (Key × V)} (e : H a = some (.dK kvs)) : Is H (.ref a) "dict"
theorem Is.ty {K : PySem.W.Frag} {H : Hp} {v : V} {n : String} (h : Is H v n) : TyX K H v (.type n) ∧ n ∈ kinds := by
  cases h with
  | int i => exact ⟨.base (.int i), by decide⟩
  | bl b => exact ⟨.base (.bl b), by decide⟩
  | str x => exact ⟨.base (.str x), by decide⟩
  | non => exact ⟨.base .non, by decide⟩
  | lst e => exact ⟨.base (.lst e), by decide⟩
  | tup e => exact ⟨.base (.tup e), by decide⟩
  | dic e => exact ⟨.base (.dK e), by decide⟩
theorem Is.same {H H' : Hp} {v : V} {n : String} (h : Is H v n) (s : Same H H') : Is H' v n := by
  cases h with
  | int i => exact .int i
  | bl b => exact .bl b
  | str x => exact .str x
  | non => exact .non
  | lst e => exact .lst (s _ _ e)
  | tup e => exact .tup (s _ _ e)
  | dic e => exact .dic (s _ _ e)
theorem v_isi {σ : L2.St} {H : Hp} {te : TE} {v : V} {n c : String} {b : Bool} (h : Val te σ H v) (ty : TyX K H v (.type n)) (k : PySem.W.kitOne K (.type n) (.type c) = some b) :
    Val (tCB (rIsi K) (tCons te (tCons (tC (.ty c)) tNil))) σ H (.bl b) := v_cb (va_cons h (va_cons val_c va_nil)) fun Q q => ⟨v, _, _, _, b, rfl, .ty c, ty, k, q⟩
def spInt : Sp := fun vs H Q _ => ∃ (v : V) (n : String), vs = [v] ∧ Is H v n ∧ Q (.bl (decide (n = "int"))) H
theorem ok_is_integer (T : Txt K mg) : FnOk P w K mg base CX0 1 (fA mg "is_integer") (fDat K (fA mg "is_integer")) ["value"] spInt := by
  refine T.is_integer.F.ok scis_integer (fun vs H Q E h => ?_) (fun cdv A outer s H vs Q E hr h => ?_)
  · obtain ⟨v, n, rfl, _⟩ := h
    rfl
  · obtain ⟨v, n, rfl, is, k⟩ := h
    obtain ⟨ty, hn⟩ := is.ty (K := K)
    refine ⟨_, (pss_one (ps_ret (pe_and (pe_callB call_isi (by rfl) T.isinstance (by decide +kernel) (pa_cons (pv 0) (pa_cons (pe_bltn (v := .ty "int") (by rfl) T.int (by decide +kernel) rfl) pa_nil))) (pe_one (pe_not (pe_callB call_isi (by rfl) T.isinstance (by decide +kernel) (pa_cons (pv 0) (pa_cons (pe_bltn (v := .ty "bool") (by rfl) T.bool (by decide +kernel) rfl) pa_nil)))))))), ?_⟩
    refine r_ret ?_
    refine (v_isi (val_var rfl) ty (kit_int hn)) _ ?_
    refine ⟨_, rfl, ?_⟩
    by_cases h1 : n = "int"
    · subst h1
      refine iteT ?_
      refine (v_isi (val_var rfl) ty (kit_bool hn)) _ ?_
      exact ⟨_, rfl, k⟩
    · by_cases h2 : n = "bool"
      · subst h2
        refine iteT ?_
        refine (v_isi (val_var rfl) ty (kit_bool hn)) _ ?_
        exact ⟨_, rfl, k⟩
      · have e : (decide (n = "int") || decide (n = "bool")) = false := by simp [h1, h2]
        rw [e]
        refine iteF ?_
        rw [decide_eq_false h1] at k
        exact k

/-! ### is_ratio -/
/-- a list or a tuple stands at a -/
def Sq (H : Hp) (a : Addr) (xs : List V) : Prop := H a = some (.lst xs) ∨ H a = some (.tup xs)
theorem Sq.same {H H' : Hp} {a : Addr} {xs : List V} (h : Sq H a xs) (s : Same H H') : Sq H' a xs := h.elim (fun z => .inl (s _ _ z)) fun z => .inr (s _ _ z)
theorem Sq.is {H : Hp} {a : Addr} {xs : List V} (h : Sq H a xs) : ∃ n, Is H (.ref a) n ∧ (n = "list" ∨ n = "tuple") := by
  rcases h with h | h
  · exact ⟨"list", .lst h, .inl rfl⟩
  · exact ⟨"tuple", .tup h, .inr rfl⟩
theorem Sq.sq {K : PySem.W.Frag} {H : Hp} {a : Addr} {xs : List V} (h : Sq H a xs) : SqL K H a xs ∨ SqT K H a xs := h.elim (fun z => .inl (SqL.of z)) fun z => .inr (SqT.of z)
theorem v_ixS {K : PySem.W.Frag} {σ : L2.St} {H : Hp} {te tb : TE} {a : Addr} {xs : List V} {n : Nat} {v : V} (h : Val te σ H (.ref a)) (hi : Val tb σ H (.int (n : Int))) (hx : Sq H a xs) (he : xs[n]? = some v) : Val (tOp (rIx K) te tb) σ H v :=
  val_op h hi fun Q q => hx.elim (fun z => .inl ⟨a, xs, n, v, rfl, rfl, SqL.of z, atI_nat he, q⟩) fun z => .inr (.inl ⟨a, xs, n, v, rfl, rfl, SqT.of z, atI_nat he, q⟩)
/-- what is_ratio answers -/
inductive RatQ (H : Hp) : V → Bool → Prop
  | int (i : Int) : RatQ H (.int i) true
  | odd {v : V} {n : String} (h : Is H v n) (o : n = "bool" ∨ n = "str" ∨ n = "NoneType" ∨ n = "dict") : RatQ H v false
  | len {a : Addr} {xs : List V} (h : Sq H a xs) (l : xs.length ≠ 2) : RatQ H (.ref a) false
  | fst {a : Addr} {x y : V} {n : String} (h : Sq H a [x, y]) (hx : Is H x n) (o : n ≠ "int") : RatQ H (.ref a) false
  | snd {a : Addr} {i : Int} {y : V} {n : String} (h : Sq H a [.int i, y]) (hx : Is H y n) (o : n ≠ "int") : RatQ H (.ref a) false
  | pair {a : Addr} {i j : Int} (h : Sq H a [.int i, .int j]) : RatQ H (.ref a) (decide (0 < j))
theorem RatQ.same {H H' : Hp} {v : V} {b : Bool} (h : RatQ H v b) (s : Same H H') : RatQ H' v b := by
  cases h with
  | int i => exact .int i
  | odd h o => exact .odd (h.same s) o
  | len h l => exact .len (h.same s) l
  | fst h hx o => exact .fst (h.same s) (hx.same s) o
  | snd h hx o => exact .snd (h.same s) (hx.same s) o
  | pair h => exact .pair (h.same s)
def spRat : Sp := fun vs H Q _ => ∃ (v : V) (b : Bool), vs = [v] ∧ RatQ H v b ∧ ∀ H', Same H H' → Q (.bl b) H'
/-- if not t: .. -/
theorem q_ifNot {σ : L2.St} {H : Hp} {t : TT} {t1 tz : TS} {D : Ends} (h : t σ H fun c H1 => if (!c) = true then t1 { D with nx := tz D } σ H1 else tz D σ H1) : tSeq (tIfS (tNot t) t1 tNext) tz D σ H := h
/-- if not t or u: .. -/
theorem q_ifOrNot {σ : L2.St} {H : Hp} {t u : TT} {t1 tz : TS} {D : Ends} (h : t σ H fun c H1 => if (!c) = true then (if true = true then t1 { D with nx := tz D } σ H1 else tz D σ H1) else
    u σ H1 fun b H2 => if b = true then t1 { D with nx := tz D } σ H2 else tz D σ H2) : tSeq (tIfS (tOr (tNot t) u) t1 tNext) tz D σ H := h
theorem ok_is_ratio (T : Txt K mg) : FnOk P w K mg base CX0 3 (fA mg "is_ratio") (fDat K (fA mg "is_ratio")) ["value"] spRat := by
  have Gis_integer := ok_is_integer (P := P) (w := w) (base := base) T
  refine T.is_ratio.F.ok scis_ratio (fun vs H Q E h => ?_) (fun cdv A outer s H vs Q E hr h => ?_)
  · obtain ⟨v, b, rfl, _⟩ := h
    rfl
  · obtain ⟨v, b, rfl, hR, k⟩ := h
    refine ⟨_, (pss_cons (ps_if (pt_val (pe_c T.is_integer Gis_integer (hr.mono (by decide)) (pa_cons (pv 0) pa_nil))) (pss_one (ps_ret pe_bl)) pss_nil)
  (pss_cons (ps_if (PW.pt (pw_or (pt_not (pt_val (pe_callB call_isiT (by rfl) T.isinstance (by decide +kernel) (pa_cons (pv 0) (pa_cons (pe_tup (pa_cons (pe_bltn (v := .ty "tuple") (by rfl) T.tuple (by decide +kernel) rfl) (pa_cons (pe_bltn (v := .ty "list") (by rfl) T.list (by decide +kernel) rfl) pa_nil))) pa_nil))))) (pw_or1 (pt_cmpR op_ne (pe_callB call_len_seq (by rfl) T.len PySem.boot_len (pa_cons (pv 0) pa_nil)) pe_int (nomark _))))) (pss_one (ps_ret pe_bl)) pss_nil)
  (pss_one (ps_ret (pe_and (pe_c T.is_integer Gis_integer (hr.mono (by decide)) (pa_cons (pe_ix ix_seq (pv 0) pe_int (fun _ _ => rfl)) pa_nil)) (pe_and (pe_c T.is_integer Gis_integer (hr.mono (by decide)) (pa_cons (pe_ix ix_seq (pv 0) pe_int (fun _ _ => rfl)) pa_nil)) (pe_one (pe_cmpR op_gt (pe_ix ix_seq (pv 0) pe_int (fun _ _ => rfl)) pe_int (nomark _))))))))), ?_⟩
    have whole : ∀ {te : TE} {σ : L2.St} {H1 : Hp} {v : V} {n : String}, Val te σ H1 v → Is H1 v n → Val (tCall spInt [] E0 (tCons te tNil)) σ H1 (.bl (decide (n = "int"))) := fun h i Q q => c_call (va_cons h va_nil) ⟨_, _, rfl, i, q⟩
    have no : ∀ {n : String}, n ≠ "int" → decide (n = "int") = false := fun h => decide_eq_false h
    -- isinstance(value, (tuple, list)): a new tuple of both
    have both : ∀ {H1 : Hp} {v : V} {n : String} {Q : Bool → Hp → Prop}, Is H1 v n → (∀ H2, Same H1 H2 → Q (decide (n = "tuple") || decide (n = "list")) H2) →
        tB (tCB (rIsiT K) (tCons (tVar 0) (tCons (tTup (tCons (tC (.ty "tuple")) (tCons (tC (.ty "list")) tNil))) tNil))) [some v] H1 Q := fun {H1 v n Q} i q =>
      ⟨v, rfl, ⟨by show 2 ≤ sizeLine; decide, fun p hp => ⟨v, p, [.ty "tuple", .ty "list"], _, [.type "tuple", .type "list"], _, rfl, upd_same, .cons (.ty _) (.cons (.ty _) .nil), (i.same (Same.new' hp)).ty.1, kit_seq (i.ty (K := K)).2, _, rfl, q _ (Same.new' hp)⟩⟩⟩
    have notI : ∀ {a : Addr} {xs : List V}, Sq H a xs → ∃ n, Is H (.ref a) n ∧ n ≠ "int" ∧ (decide (n = "tuple") || decide (n = "list")) = true := fun {a xs} h => by
      obtain ⟨n, i, o⟩ := h.is
      exact ⟨n, i, by rcases o with rfl | rfl <;> decide, by rcases o with rfl | rfl <;> decide⟩
    have lenOf : ∀ {a : Addr} {xs : List V} {H2 : Hp}, Sq H2 a xs → Val (tCB (fun xs H Q => ∃ p ys, xs = [.ref p] ∧ (SqL K H p ys ∨ SqT K H p ys) ∧ Q (.int ys.length) H) (tCons (tVar 0) tNil)) [some (.ref a)] H2 (.int (xs.length : Int)) := fun h => v_len (val_var rfl) h.sq
    have two : ∀ {a : Addr} {x y : V} {H2 : Hp} {j : Nat} {v : V}, Sq H2 a [x, y] → [x, y][j]? = some v → Val (tOp (rIx K) (tVar 0) (tC (.int (j : Int)))) [some (.ref a)] H2 v := fun h e => v_ixS (val_var rfl) val_c h e
    cases hR with
    | int i => exact q_when (b := true) (ans_val (whole (val_var rfl) (.int i))) (fun _ => st_ret val_c (k H (Same.refl H))) (fun z => nomatch z)
    | @odd _ n h o =>
      have ni : n ≠ "int" := by rcases o with rfl | rfl | rfl | rfl <;> decide
      have ns : (decide (n = "tuple") || decide (n = "list")) = false := by rcases o with rfl | rfl | rfl | rfl <;> decide
      refine q_unless (Ans.to (ans_val (whole (val_var rfl) h)) (no ni)) ?_
      refine q_ifOrNot (both h fun H2 s2 => ?_)
      rw [ns]
      exact iteT (iteT (st_ret val_c (k H2 s2)))
    | @len a xs h l =>
      obtain ⟨n, i, ni, ns⟩ := notI h
      refine q_unless (Ans.to (ans_val (whole (val_var rfl) i)) (no ni)) ?_
      refine q_ifOrNot (both i fun H2 s2 => ?_)
      rw [ns]
      refine iteF ?_
      refine (ans_ne (lenOf (h.same s2)) val_c rfl (b := true) (by simp; omega)) _ ?_
      exact iteT (st_ret val_c (k H2 s2))
    | @fst a x y n h hx o =>
      obtain ⟨m, i, ni, ns⟩ := notI h
      refine q_unless (Ans.to (ans_val (whole (val_var rfl) i)) (no ni)) ?_
      refine q_ifOrNot (both i fun H2 s2 => ?_)
      rw [ns]
      refine iteF ?_
      refine (ans_ne (lenOf (h.same s2)) val_c rfl (b := false) (by simp)) _ ?_
      refine iteF ?_
      refine r_ret ?_
      refine (whole (two (j := 0) (h.same s2) rfl) (hx.same s2)) _ ⟨_, rfl, ?_⟩
      rw [no o]
      exact iteF (k H2 s2)
    | @snd a i y n h hx o =>
      obtain ⟨m, j, ni, ns⟩ := notI h
      refine q_unless (Ans.to (ans_val (whole (val_var rfl) j)) (no ni)) ?_
      refine q_ifOrNot (both j fun H2 s2 => ?_)
      rw [ns]
      refine iteF ?_
      refine (ans_ne (lenOf (h.same s2)) val_c rfl (b := false) (by simp)) _ ?_
      refine iteF ?_
      refine r_ret ?_
      refine (whole (two (j := 0) (h.same s2) rfl) (.int i)) _ ⟨_, rfl, ?_⟩
      refine iteT ?_
      refine (whole (two (j := 1) (h.same s2) rfl) (hx.same s2)) _ ⟨_, rfl, ?_⟩
      rw [no o]
      exact iteF (k H2 s2)
    | @pair a i j h =>
      obtain ⟨m, i2, ni, ns⟩ := notI h
      refine q_unless (Ans.to (ans_val (whole (val_var rfl) i2)) (no ni)) ?_
      refine q_ifOrNot (both i2 fun H2 s2 => ?_)
      rw [ns]
      refine iteF ?_
      refine (ans_ne (lenOf (h.same s2)) val_c rfl (b := false) (by simp)) _ ?_
      refine iteF ?_
      refine r_ret ?_
      refine (whole (two (j := 0) (h.same s2) rfl) (.int i)) _ ⟨_, rfl, ?_⟩
      refine iteT ?_
      refine (whole (two (j := 1) (h.same s2) rfl) (.int j)) _ ⟨_, rfl, ?_⟩
      refine iteT ?_
      refine (two (j := 1) (h.same s2) rfl) _ ?_
      exact ⟨_, _, rfl, rfl, k H2 s2⟩

/-! ### the parts of a ratio -/
inductive Rt (H : Hp) : V → Int → Int → Prop
  | int (i : Int) : Rt H (.int i) i 1
  | pair {a : Addr} {i j : Int} (h : Sq H a [.int i, .int j]) (p : 0 < j) : Rt H (.ref a) i j
theorem Rt.same {H H' : Hp} {v : V} {i j : Int} (h : Rt H v i j) (s : Same H H') : Rt H' v i j := by
  cases h with
  | int i => exact .int i
  | pair h p => exact .pair (h.same s) p
theorem Rt.pos {H : Hp} {v : V} {i j : Int} (h : Rt H v i j) : 0 < j := by
  cases h with
  | int i => decide
  | pair h p => exact p
theorem Rt.yes {H : Hp} {v : V} {i j : Int} (h : Rt H v i j) : RatQ H v true := by
  cases h with
  | int i => exact .int i
  | pair h p =>
    have q := RatQ.pair h
    rw [decide_eq_true p] at q
    exact q
/-- BadNumber(what, number) leaves -/
def Bad (mg : Str → Option Value) (H : Hp) (wh v : V) (E : XK) : Prop := ∀ (d : Addr) (H' : Hp), Same H H' → H d = none → H' d = some (.xd [("number", v), ("what", wh)]) → E (.ref (fA mg "BadNumber")) (some d) H'
theorem x_made2 {σ : L2.St} {H : Hp} {ta : TA} {C : Addr} {f g : Str} {v u : V} {Q : XK} (h : VA ta σ H [v, u]) (k : ∀ d H', Same H H' → H d = none → H' d = some (.xd [(g, u), (f, v)]) → Q (.ref C) (some d) H') : tMkO C (spI2 C f g) [] ta σ H Q :=
  h _ ⟨by show 2 ≤ 1000; decide, fun a ha => ⟨a, v, u, rfl, upd_same, fun dx hd ne => by
    rw [upd_ne ne] at hd
    refine ⟨rfl, dx, _, by rw [upd_ne (Ne.symm ne), upd_same], upd_same, hd, k dx _ (fun b o e => ?_) hd upd_same⟩
    have hb : b ≠ a := ne_of_none e ha
    have hb2 : b ≠ dx := ne_of_none e hd
    rw [upd_ne hb2, del_ne hb, upd_ne hb2, upd_ne hb, upd_ne hb2, upd_ne hb]
    exact e⟩⟩
def spParts (mg : Str → Option Value) : Sp := fun vs H Q E => ∃ (v wh : V), vs = [v, wh] ∧ ((∃ i j, Rt H v i j ∧ ∀ (p : Addr) (H' : Hp), Same H H' → H' p = some (.tup [.int i, .int j]) → Q (.ref p) H') ∨ (RatQ H v false ∧ Bad mg H wh v E))
theorem ok_parts (T : Txt K mg) : FnOk P w K mg base (L2.CX P w) 5 (fA mg "_parts") (fDat K (fA mg "_parts")) ["value", "what"] (spParts mg) := by
  have Gis_ratio := ok_is_ratio (P := P) (w := w) (base := base) T
  have Gi_BadNumber := init_BadNumber (P := P) (w := w) (base := base) T
  refine T._parts.F.okX sc_parts (fun vs H Q E h => ?_) (fun cdv A outer s H vs Q E hr h => ?_)
  · obtain ⟨v, wh, rfl, _⟩ := h
    rfl
  · obtain ⟨v, wh, rfl, h⟩ := h
    refine ⟨_, (pss_cons (ps_if (pt_not (pt_val (pe_c T.is_ratio Gis_ratio (hr.mono (by decide)) (pa_cons (pv 0) pa_nil)))) (pss_one (ps_raise rfl (takes_of rfl rfl rfl rfl) (pmk_oex T.BadNumber.o T.BadNumber.i T.BadNumber.t Gi_BadNumber (hr.mono (by decide)) T.BadNumber.b .nil pass0 (by rfl) T.BadNumber.g (pa_cons (pv 1) (pa_cons (pv 0) pa_nil))))) pss_nil)
  (pss_cons (ps_if (pt_val (pe_callB call_isi (by rfl) T.isinstance (by decide +kernel) (pa_cons (pv 0) (pa_cons (pe_bltn (v := .ty "int") (by rfl) T.int (by decide +kernel) rfl) pa_nil)))) (pss_one (ps_ret (pe_tup (pa_cons (pv 0) (pa_cons pe_int pa_nil))))) pss_nil)
  (pss_one (ps_ret (pe_tup (pa_cons (pe_ix ix_seq (pv 0) pe_int (fun _ _ => rfl)) (pa_cons (pe_ix ix_seq (pv 0) pe_int (fun _ _ => rfl)) pa_nil))))))), ?_⟩
    have rat : ∀ {b : Bool} {X : Bool → Hp → Prop}, RatQ H v b → (∀ H', Same H H' → X b H') → (tB (tCall spRat [] E0 (tCons (tVar 0) tNil))) [some v, some wh] H X := fun r k =>
      c_call (va_cons (val_var rfl) va_nil) ⟨_, _, rfl, r, fun H' s => ⟨_, rfl, k H' s⟩⟩
    rcases h with ⟨i, j, r, k⟩ | ⟨r, k⟩
    · refine q_ifNot (rat r.yes fun H1 s1 => ?_)
      refine iteF ?_
      have r1 := r.same s1
      cases r1 with
      | int i =>
        obtain ⟨ty, hn⟩ := (Is.int (H := H1) i).ty (K := K)
        refine q_when (b := true) (ans_val (v_isi (val_var rfl) ty (kit_int hn))) (fun _ => ?_) (fun z => nomatch z)
        exact r_ret (te := tTup _) ((va_cons (val_var rfl) (va_cons val_c va_nil)) _ ⟨by show 2 ≤ sizeLine; decide, fun p hp => k p _ (s1.trans (Same.new' hp)) upd_same⟩)
      | @pair a i j h p =>
        obtain ⟨n, is, o⟩ := h.is
        have e : (decide (n = "int") || decide (n = "bool")) = false := by rcases o with rfl | rfl <;> decide
        obtain ⟨ty, hn⟩ := is.ty (K := K)
        have z := v_isi (K := K) (σ := [some (.ref a), some wh]) (te := tVar 0) (val_var rfl) ty (kit_int hn)
        rw [e] at z
        refine q_unless (ans_val z) ?_
        exact r_ret (te := tTup _) ((va_cons (v_ixS (n := 0) (val_var rfl) val_c h rfl) (va_cons (v_ixS (n := 1) (val_var rfl) val_c h rfl) va_nil)) _ ⟨by show 2 ≤ sizeLine; decide, fun p hp => k p _ (s1.trans (Same.new' hp)) upd_same⟩)
    · refine q_ifNot (rat r fun H1 s1 => ?_)
      exact iteT (x_made2 (va_cons (val_var rfl) (va_cons (val_var rfl) va_nil)) fun d H' s n e => k d H' (s1.trans s) (s1.free n) e)

theorem op_fdivS {X : Cx} : OpR X (binaryOp .FloorDiv) (rI (fun _ j => j ≠ 0 ∧ j.natAbs.log2 < 9000) fun i j => .int (i.fdiv j)) := opI fun _ _ _ _ _ _ _ hc q => floordiv_int hc.1 q (.inl (PyProof.noPylong_of_log2 hc.2))
/-! ### lowest terms -/
def gI (i j : Int) : Int := ((Nat.gcd i.natAbs j.natAbs : Nat) : Int)
theorem gI_pos {i j : Int} (h : 0 < j) : 0 < gI i j := by
  have : 0 < Nat.gcd i.natAbs j.natAbs := Nat.gcd_pos_of_pos_right _ (by omega)
  unfold gI
  omega
theorem gI_le {i j : Int} (h : 0 < j) : gI i j ≤ j := by
  have : Nat.gcd i.natAbs j.natAbs ≤ j.natAbs := Nat.le_of_dvd (by omega) (Nat.gcd_dvd_right _ _)
  unfold gI
  omega
def wd : Nat := 4000
def spLow : Sp := fun vs H Q _ => ∃ i j : Int, vs = [.int i, .int j] ∧ 0 < j ∧ j.natAbs < 2 ^ wd ∧ ∀ (p : Addr) (H' : Hp), Same H H' → H' p = some (.tup [.int (i / gI i j), .int (j / gI i j)]) → Q (.ref p) H'
theorem ok_lowest (T : Txt K mg) : FnOk P w K mg base CX0 1 (fA mg "_lowest") (fDat K (fA mg "_lowest")) ["top", "bottom"] spLow := by
  refine T._lowest.F.ok sc_lowest (fun vs H Q E h => ?_) (fun cdv A outer s H vs Q E hr h => ?_)
  · obtain ⟨i, j, rfl, _⟩ := h
    rfl
  · obtain ⟨i, j, rfl, hj, hb, k⟩ := h
    refine ⟨_, (pss_cons (ps_set (i := 2) sc_lowest.nd rfl (Or.inl rfl) (pe_callBfun cr_gcd (by rfl) T.gcd (pa_cons (pv 0) (pa_cons (pv 1) pa_nil))))
  (pss_one (ps_ret (pe_tup (pa_cons (pe_op op_fdivW (pv 0) (pv 2)) (pa_cons (pe_op op_fdivW (pv 1) (pv 2)) pa_nil)))))), ?_⟩
    have hd : CDivW i (gI i j) ∧ CDivW j (gI i j) := by
      have h := wide_div (i := i) (gI_pos (i := i) hj) (b := wd) (wide_le (Int.le_of_lt (gI_pos hj)) (gI_le hj) hb) (by decide) (by decide)
      exact ⟨h, h⟩
    refine q_set (v := .int (gI i j)) (v_cb (va_cons (val_var rfl) (va_cons (val_var rfl) va_nil)) fun Q q => ⟨i, j, rfl, q⟩) ?_
    exact r_ret (te := tTup _) ((va_cons (v_div (val_var rfl) (val_var rfl) hd.1) (va_cons (v_div (val_var rfl) (val_var rfl) hd.2) va_nil)) _ ⟨by show 2 ≤ sizeLine; decide, fun p hp => k p _ (Same.new' hp) upd_same⟩)
/-- a ratio of any terms below 2 ^ 1000, and its parts -/
def Fit (i j : Int) : Prop := i.natAbs < 2 ^ 1000 ∧ j.natAbs < 2 ^ 1000
theorem fit_mul {i j : Int} (h : i.natAbs < 2 ^ 1000) (g : j.natAbs < 2 ^ 1000) : CMulW i j := wide_mul h g (by decide) (by decide) (by decide)
theorem fit_lt {i j : Int} (h : i.natAbs < 2 ^ 1000) (g : j.natAbs < 2 ^ 1000) : (i * j).natAbs < 2 ^ wd := Nat.lt_of_lt_of_le (wide_lt h g) (Nat.pow_le_pow_right (by decide) (by decide))
theorem fit_add {i j : Int} (h : i.natAbs < 2 ^ (1000 + 1000)) (g : j.natAbs < 2 ^ (1000 + 1000)) : (i + j).natAbs < 2 ^ wd := by
  have e : 2 ^ (1000 + 1000) + 2 ^ (1000 + 1000) = 2 ^ (1000 + 1000 + 1) := by rw [Nat.pow_succ (n := 2) (m := 1000 + 1000)]; exact (Nat.mul_two _).symm
  have l : 2 ^ (1000 + 1000 + 1) ≤ 2 ^ wd := Nat.pow_le_pow_right (by decide) (by decide)
  exact Nat.lt_of_lt_of_le (Nat.lt_of_le_of_lt (Int.natAbs_add_le i j) (Nat.add_lt_add h g)) (Nat.le_trans (Nat.le_of_eq e) l)
theorem q_parts {mg : Str → Option Value} {K : PySem.W.Frag} {σ : L2.St} {H : Hp} {E : XK} {ta : TA} {v wh : V} {a b : Int} {i j n : Nat} {tz : TS} {D : Ends} (hn : n = 2) (h : VA ta σ H [v, wh]) (r : Rt H v a b)
    (q : ∀ H', Same H H' → tz D ((σ.set i (some (.int a))).set j (some (.int b))) H') : tSeq (tAsg (tCall (spParts mg) [] E ta) (gTup K n (gCons (gName i) (gCons (gName j) gNil)))) tz D σ H := by
  subst hn
  exact (show tAsg _ _ _ _ _ from c_call h ⟨v, wh, rfl, .inl ⟨a, b, r, fun p H' s e => g_two (SqT.of e) (q H' s)⟩⟩)
theorem q_partsX {mg : Str → Option Value} {σ : L2.St} {H : Hp} {E : XK} {ta : TA} {v wh : V} {g : TG} {tz : TS} {D : Ends} (h : VA ta σ H [v, wh]) (r : RatQ H v false) (b : Bad mg H wh v E) :
    tSeq (tAsg (tCall (spParts mg) [] E ta) g) tz D σ H := (show tAsg _ _ _ _ _ from c_call h ⟨v, wh, rfl, .inr ⟨r, b⟩⟩)

def sp_told (mg : Str → Option Value) : Sp := fun vs H Q E => ∃ (v wh : V), vs = [v, wh] ∧ ((∃ i j, Rt H v i j ∧ Fit i j ∧ ∀ (p : Addr) (H' : Hp), Same H H' → H' p = some (.tup [.int ((i) / gI (i) (j)), .int ((j) / gI (i) (j))]) → Q (.ref p) H') ∨ (RatQ H v false ∧ Bad mg H wh v E))
theorem ok_told (T : Txt K mg) : FnOk P w K mg base (L2.CX P w) 6 (fA mg "told") (fDat K (fA mg "told")) ["value", "what"] (sp_told mg) := by
  have G_parts := ok_parts (P := P) (w := w) (base := base) T
  have G_lowest := ok_lowest (P := P) (w := w) (base := base) T
  refine T.told.F.okX sctold (fun vs H Q E h => ?_) (fun cdv A outer s H vs Q E hr h => ?_)
  · obtain ⟨v, u, rfl, _⟩ := h
    rfl
  · obtain ⟨v, u, rfl, h⟩ := h
    refine ⟨_, (pss_cons (ps_asg (pe_call G_parts (hr.mono (by decide)) (by rfl) T._parts.g T._parts.F.kp T._parts.b .nil (passes_call (takes_of rfl rfl rfl rfl) (fun _ _ _ _ h => h)) (pa_cons (pv 0) (pa_cons (pv 1) pa_nil))) (pg_tup rfl (pgs_cons (pg_name (i := 2) sctold.nd rfl (Or.inl rfl)) (pgs_cons (pg_name (i := 3) sctold.nd rfl (Or.inl rfl)) pgs_nil))))
  (pss_one (ps_ret (pe_c T._lowest G_lowest (hr.mono (by decide)) (pa_cons (pv 2) (pa_cons (pv 3) pa_nil)))))), ?_⟩
    rcases h with ⟨i, j, r, ⟨fi, fj⟩, q⟩ | ⟨r, b⟩
    · refine q_parts rfl (va_cons (val_var rfl) (va_cons (val_var rfl) va_nil)) r fun H1 s1 => ?_
      exact r_ret (te := tCall _ _ _ _) (c_call (va_cons (val_var rfl) (va_cons (val_var rfl) va_nil)) ⟨_, _, rfl, r.pos, Nat.lt_of_lt_of_le fj (Nat.pow_le_pow_right (by decide) (by decide)), fun p H' s e => q p H' (s1.trans s) e⟩)
    · exact q_partsX (va_cons (val_var rfl) (va_cons (val_var rfl) va_nil)) r b
theorem op_l {r : R2} {ta tb : TE} {σ : L2.St} {H : Hp} {Q : VK} {x : V} (h : Val ta σ H x) (k : tb σ H fun y H1 => r x y H1 Q) : tOp r ta tb σ H Q := h _ k
theorem ok_pen {f : Addr} {fd : FuncData} (F : Fun K "_law_pen" "_law_pen" s_law_pen f fd) (T : Txt K mg) : FnOk P w K mg base CX0 1 f fd ["_law_script"] (spPen K) := by
  refine F.ok sc_law_pen (fun vs H Q E h => ?_) (fun cdv A outer s H vs Q E hr h => ?_)
  · obtain ⟨a, ns, rfl, _⟩ := h
    rfl
  · obtain ⟨a, ns, rfl, hS, hl, k⟩ := h
    refine ⟨_, pss_cons (ps_set (i := 1) sc_law_pen.nd rfl (Or.inl rfl) pe_int)
      (pss_cons (ps_for PassesOwn.never rfl (pi_list (pv 0)) (pg_name (i := 2) sc_law_pen.nd rfl (Or.inl rfl))
        (pss_one (ps_set (i := 1) sc_law_pen.nd rfl (Or.inl rfl) (pe_op op_mod (pe_callTy call_int1 (by rfl) T.int (by decide +kernel) (pa_cons (pe_op op_add (pe_op op_mul (pv 1) pe_int) (pv 2)) pa_nil)) pe_int))))
      (pss_one (ps_ret (pe_disp (pps_cons pe_str (pe_callTy call_list_of (by rfl) T.list (by decide +kernel) (pa_cons (pv 0) pa_nil)) (pps_cons pe_str pe_int (pps_cons pe_str pe_int (pps_cons pe_str pe_int (pps_cons pe_str (pv 1) pps_nil))))) (by rfl) (by rfl) (fun z => by cases z) (by decide))))), ?_⟩
    refine ⟨_, rfl, a, rfl, ⟨_, hS⟩, for_list (K := K) (a := a) (xs := ns.map V.int) (fun i σ H' => ∃ (v : Int) (c : Option V), σ = [some (.ref a), some (.int v), c] ∧ H' = H ∧ 0 ≤ v ∧ v < 1000000007)
      ⟨0, none, rfl, rfl, by decide, by decide⟩ (fun i σ H' _ ⟨_, _, _, e, _⟩ => e ▸ hS) ?_ ?_⟩
    · rintro i y σ H' hi ⟨v, c, rfl, rfl, h0, h1⟩
      obtain ⟨z, rfl⟩ : ∃ z, y = V.int z := by
        rw [List.getElem?_map] at hi
        cases e : ns[i]? with
        | none => rw [e] at hi; cases hi
        | some z => rw [e] at hi; exact ⟨z, (Option.some.inj hi).symm⟩
      refine ⟨_, rfl, _, _, rfl, rfl, .inl ⟨by omega, by omega⟩, _, rfl, _, _, rfl, rfl, .inl ⟨_, rfl, ?_⟩⟩
      refine ⟨_, _, rfl, rfl, (by show (0 : Int) < 1000000007; decide), ?_⟩
      exact ⟨_, _, rfl, rfl, Int.emod_nonneg _ (by decide), Int.emod_lt_of_pos _ (by decide)⟩
    · rintro σ H' ⟨v, c, rfl, rfl, h0, h1⟩
      intro p hp
      refine ⟨_, rfl, a, _, rfl, .inl (Same.seq (Same.new hp) hS), fun l hl' => ?_⟩
      refine ⟨_, rfl, ?_⟩
      have npl : p ≠ l := ne_of_none upd_same hl'
      refine ⟨by rw [upd_ne npl, upd_same], penK l 0 0 0 v, rfl, (by show 5 ≤ 15; decide), ?_⟩
      rw [merge_pen]
      have hl0 : H' l = none := (Same.new hp).free hl'
      refine k p l _ (fun b o e => ?_) ⟨0, 0, 0, v, ns, upd_same, ?_, by decide, by omega, by decide, by decide, by decide, h0, by omega⟩
      · rw [upd_ne (ne_of_none e hp), upd_ne (ne_of_none e hl0), upd_ne (ne_of_none e hp)]
        exact e
      · rw [upd_ne npl.symm, upd_same]
theorem ok_draw {f : Addr} {fd : FuncData} (F : Fun K "_law_draw" "_law_draw" s_law_draw f fd) (T : Txt K mg) : FnOk P w K mg base CX0 1 f fd ["_law_pen_here", "_law_many"] spDraw := by
  refine F.ok sc_law_draw (fun vs H Q E h => ?_) (fun cdv A outer s H vs Q E hr h => ?_)
  · obtain ⟨p, c, many, m, rfl, _⟩ := h
    rfl
  · obtain ⟨p, c, many, m, rfl, hP, hm, h0, h1, k⟩ := h
    have hu := hu_of hr
    refine ⟨_, pss_cons (ps_dput hu (pv 0) pe_str (pe_op op_add (pe_dget hu (pv 0) pe_str (fun _ _ => rfl)) pe_int) rfl)
      (C8.pss_cut (ps_if (PW.pt (pw_and (pt_cmpR op_eq (pe_dget hu (pv 0) pe_str (fun _ _ => rfl)) pe_int (nomark _))
          (pw_and1 (pt_cmpR op_lt (pe_dget hu (pv 0) pe_str (fun _ _ => rfl)) (pe_callB call_len_seq (by rfl) T.len PySem.boot_len (pa_cons (pe_dget hu (pv 0) pe_str (fun _ _ => rfl)) pa_nil)) (nomark _)))))
        (pss_cons (ps_set (i := 2) sc_law_draw.nd rfl (Or.inl rfl) (pe_ix ix_list (pe_dget hu (pv 0) pe_str (fun _ _ => rfl)) (pe_dget hu (pv 0) pe_str (fun _ _ => rfl)) (fun _ _ => rfl)))
        (pss_cons (ps_dput hu (pv 0) pe_str (pe_op op_add (pe_dget hu (pv 0) pe_str (fun _ _ => rfl)) pe_int) rfl)
        (pss_one (ps_if (pt_cmpR op_ge (pv 2) (pe_op op_pow pe_int pe_int) (nomark _))
          (pss_one (ps_dput hu (pv 0) pe_str (pe_op op_sub (pv 2) (pe_op op_pow pe_int pe_int)) rfl))
          (pss_one (ps_dput hu (pv 0) pe_str (pe_op op_mod (pe_callTy call_int1 (by rfl) T.int (by decide +kernel) (pa_cons (pe_op op_add (pe_op op_mul (pe_dget hu (pv 0) pe_str (fun _ _ => rfl)) pe_int) (pv 2)) pa_nil)) pe_int) rfl))))))
        pss_nil)
      (pss_cons (ps_if (pt_cmpR op_gt (pe_dget hu (pv 0) pe_str (fun _ _ => rfl)) pe_int (nomark _))
        (pss_cons (ps_set (i := 3) sc_law_draw.nd rfl (Or.inl rfl) (pe_op op_modN (pe_callTy call_int1 (by rfl) T.int (by decide +kernel) (pa_cons (pe_dget hu (pv 0) pe_str (fun _ _ => rfl)) pa_nil)) (pv 1)))
        (pss_cons (ps_dput hu (pv 0) pe_str (pe_op op_fdivN (pe_dget hu (pv 0) pe_str (fun _ _ => rfl)) (pv 1)) rfl)
        (pss_one (ps_ret (pv 3)))))
        pss_nil)
      (pss_cons (ps_set (i := 4) sc_law_draw.nd rfl (Or.inl rfl) (pe_op op_add (pe_op op_add (pe_dget hu (pv 0) pe_str (fun _ _ => rfl)) (pe_op op_mul (pe_dget hu (pv 0) pe_str (fun _ _ => rfl)) pe_int)) pe_int))
      (pss_one (ps_ret (pe_op op_modN (pe_op op_fdiv (pe_callTy call_int1 (by rfl) T.int (by decide +kernel) (pa_cons (pe_op op_mod (pe_op op_pow (pv 4) pe_int) pe_int) pa_nil)) pe_int) (pv 1))))))), ?_⟩
    obtain ⟨a, d, n, fo, ns, hp, hc, b1, b2, b3, b4, b5, b6, b7⟩ := hP
    have npc : c ≠ p := ne_of hc hp (by intro z; cases z)
    have get : ∀ {z1 z2 z3 : Option V} {H1 : Hp} {c : Addr} {a d n f : Int} {k : Key} {v : V}, H1 p = some (.dK (penK c a d n f)) → valV (penK c a d n f) k = some v →
      Val (tDGet (tVar 0) (tC (kV k))) [some (.ref p), some (.int many), z1, z2, z3] H1 v := fun h1 h2 => v_get (val_var rfl) h1 h2
    have pn : ∀ {H1 : Hp} {o : HO}, H1 c = some (.lst (ns.map V.int)) → upd H1 p o c = some (.lst (ns.map V.int)) := fun e => by rw [upd_ne npc]; exact e
    have bu : ∀ {H1 : Hp} {o : HO}, But p H H1 → But p H (upd H1 p o) := fun e b o h ne => by rw [upd_ne ne]; exact e b o h ne
    -- count
    refine s_put (k := kCo) (val_var rfl) (v_I0 (get (k := kCo) hp pen_count) val_c) hp (by show 5 ≤ 100; decide) ?_
    rw [put_count]
    have hp1 : upd H p (HO.dK (penK c a d (n + 1) fo)) p = some (.dK (penK c a d (n + 1) fo)) := upd_same
    have hc1 : upd H p (HO.dK (penK c a d (n + 1) fo)) c = some (.lst (ns.map V.int)) := pn hc
    have bt : But p H (upd H p (HO.dK (penK c a d (n + 1) fo))) := bu But.refl
    generalize upd H p (HO.dK (penK c a d (n + 1) fo)) = H1 at hp1 hc1 bt
    refine ⟨fun σ' H' => ∃ (a' d' f' : Int) (z : Option V), σ' = [some (.ref p), some (.int many), z, none, none] ∧ But p H H' ∧ H' p = some (.dK (penK c a' d' (n + 1) f')) ∧ H' c = some (.lst (ns.map V.int)) ∧
      0 ≤ a' ∧ a' ≤ ns.length ∧ 0 ≤ d' ∧ 0 ≤ f' ∧ f' < 2147483587, ?_, ?_⟩
    · -- a cell is taken
      refine st_if (b := decide (d = 0) && decide (a < ns.length)) (ans_and2 ((ans_eq (get (k := kDi) hp1 pen_digits) val_c rfl rfl).to (by simp)) ((a_I (get (k := kAt) hp1 pen_at) (v_len (get (k := kCe) hp1 pen_cells) (.inl (SqL.of hc1)))).to (by simp))) (fun e => ?_) (fun e => ?_)
      · have e1 : d = 0 ∧ a < ns.length := by simpa using e
        obtain ⟨i, rfl⟩ : ∃ i : Nat, a = i := ⟨a.toNat, by omega⟩
        have hi : i < ns.length := by omega
        refine st_set (v := .int ns[i]) (v_ixL (get (k := kCe) hp1 pen_cells) (get (k := kAt) hp1 pen_at) (SqL.of hc1) (by simp [hi])) ?_
        refine s_put (k := kAt) (val_var rfl) (v_I0 (get (k := kAt) hp1 pen_at) val_c) hp1 (by show 5 ≤ 100; decide) ?_
        rw [put_at]
        refine st_if (b := decide (ns[i] ≥ 10 ^ 18)) ((a_I (val_var rfl) (v_pow val_c val_c ⟨by decide, by decide, by decide⟩)).to ?_) (fun e2 => ?_) (fun e2 => ?_)
        · simp
        · refine s_put (k := kDi) (val_var rfl) (v_I0 (val_var rfl) (v_pow val_c val_c ⟨by decide, by decide, by decide⟩)) upd_same (by show 5 ≤ 100; decide) ?_
          rw [put_digits]
          exact ⟨_, _, _, _, rfl, bu (bu bt), upd_same, pn (pn hc1), by omega, by omega, by simp at e2; simp; omega, b6, b7⟩
        · refine s_put (k := kFo) (val_var rfl) (v_I (v_int1 (v_I0 (v_I (get (k := kFo) upd_same pen_fold) val_c (.inl ⟨by omega, by omega⟩)) (val_var rfl))) val_c (by decide)) upd_same (by show 5 ≤ 100; decide) ?_
          rw [put_fold]
          exact ⟨_, _, _, _, rfl, bu (bu bt), upd_same, pn (pn hc1), by omega, by omega, b3, Int.emod_nonneg _ (by decide), Int.emod_lt_of_pos _ (by decide)⟩
      · exact ⟨a, d, fo, none, rfl, bt, hp1, hc1, b1, b2, b3, b6, b7⟩
    · rintro σ' H' ⟨a', d', f', z, rfl, bt', hp', hc', g1, g2, g3, g4, g5⟩
      refine st_if (b := decide (0 < d')) ((a_I (get (k := kDi) hp' pen_digits) val_c).to (by simp)) (fun e => ?_) (fun e => ?_)
      · have e1 : 0 < d' := by simpa using e
        refine st_set (v_I (v_int1 (get (k := kDi) hp' pen_digits)) (val_var rfl) (by omega)) ?_
        refine s_put (k := kDi) (val_var rfl) (v_I (get (k := kDi) hp' pen_digits) (val_var rfl) ⟨by omega, by omega⟩) hp' (by show 5 ≤ 100; decide) ?_
        rw [put_digits]
        refine st_ret (val_var rfl) ?_
        refine k _ _ (Int.fmod_nonneg_of_pos _ h0) (Int.fmod_lt_of_pos _ h0) (bu bt') ⟨_, _, _, _, _, upd_same, pn hc', g1, g2, Int.fdiv_nonneg (by omega) (by omega), by omega, by omega, g4, g5⟩
      · refine st_set (v_add (v_add (get (k := kFo) hp' pen_fold) (v_mul (get (k := kCo) hp' pen_count) val_c (.inl ⟨by omega, by unfold most at hm; omega⟩))) val_c) ?_
        refine st_ret (v_fmod (v_div (v_int1 (v_mod (v_pow (val_var rfl) val_c ⟨by decide, by decide, by unfold most at hm; omega⟩) val_c (by decide))) val_c ⟨by decide, by decide⟩) (val_var rfl) (by omega)) ?_
        exact k _ _ (Int.fmod_nonneg_of_pos _ h0) (Int.fmod_lt_of_pos _ h0) bt' ⟨_, _, _, _, _, hp', hc', g1, g2, g3, by omega, by omega, g4, g5⟩
theorem But.seq {K : PySem.W.Frag} {H H' : Hp} {p q : Addr} {kvs : List (Key × V)} {xs : List V} (b : But p H H') (hp : H p = some (.dK kvs)) (h : SqL K H q xs) : SqL K H' q xs := by
  rcases h with (h | ⟨o, h⟩) | h
  · exact .inl (.inl (b _ _ h (ne_of h hp (by intro z; cases z))))
  · exact .inl (.inr ⟨o, b _ _ h (ne_of h hp (by intro z; cases z))⟩)
  · exact .inr h
theorem PenAt.dk {H : Hp} {p c : Addr} {m : Nat} (h : PenAt H p c m) : ∃ kvs, H p = some (.dK kvs) := by
  obtain ⟨a, d, n, f, ns, h1, _⟩ := h
  exact ⟨_, h1⟩
/-- one item of a list is drawn -/
def spPick (K : PySem.W.Frag) : Sp := fun vs H Q _ => ∃ (p c q : Addr) (xs : List V) (m : Nat), vs = [.ref p, .ref q] ∧ PenAt H p c m ∧ m < most ∧ SqL K H q xs ∧ 0 < xs.length ∧ xs.length < 1000000000 ∧
  ∀ (v : V) (H' : Hp), v ∈ xs → But p H H' → PenAt H' p c (m + 1) → Q v H'
theorem ok_pick (T : Txt K mg) : FnOk P w K mg base CX0 3 (fA mg "_law_pick") (fDat K (fA mg "_law_pick")) ["_law_pen_here", "_law_some"] (spPick K) := by
  have G_law_draw := ok_draw (P := P) (w := w) (base := base) T._law_draw.F T
  refine T._law_pick.F.ok sc_law_pick (fun vs H Q E h => ?_) (fun cdv A outer s H vs Q E hr h => ?_)
  · obtain ⟨p, c, q, xs, m, rfl, _⟩ := h
    rfl
  · obtain ⟨p, c, q, xs, m, rfl, hP, hm, hS, h0, h1, k⟩ := h
    refine ⟨_, (pss_one (ps_ret (pe_ix ix_list (pv 1) (pe_c T._law_draw G_law_draw (hr.mono (by decide)) (pa_cons (pv 0) (pa_cons (pe_callB call_len_seq (by rfl) T.len PySem.boot_len (pa_cons (pv 1) pa_nil)) pa_nil))) (fun _ _ => rfl)))), ?_⟩
    refine ⟨_, rfl, c_call (va_cons (val_var rfl) (va_cons (v_len (val_var rfl) (.inl hS)) va_nil)) ⟨p, c, _, m, rfl, hP, hm, by omega, by omega, fun r H' r0 r1 b P' => ?_⟩⟩
    obtain ⟨kvs, hd⟩ := hP.dk
    obtain ⟨i, rfl⟩ : ∃ i : Nat, r = i := ⟨r.toNat, by omega⟩
    have hi : i < xs.length := by omega
    exact ⟨q, xs, i, xs[i], rfl, rfl, b.seq hd hS, atI_nat (List.getElem?_eq_getElem hi), k _ _ (List.getElem_mem hi) b P'⟩
/-! ### which class -/

/-! ### the law's own ratios -/
theorem half {a b : Nat} (h : b < a) (h0 : 0 < b) : b * (a % b) * 2 ≤ a * b := by
  have h1 := Nat.mod_lt a h0
  have h2 := Nat.mod_add_div a b
  have h3 : 1 ≤ a / b := Nat.div_pos (Nat.le_of_lt h) h0
  have h4 : b ≤ b * (a / b) := Nat.le_mul_of_pos_right _ h3
  have h5 : a % b * 2 ≤ a := by omega
  rw [Nat.mul_assoc, Nat.mul_comm a b]
  exact Nat.mul_le_mul_left _ h5
theorem v_abs {te : TE} {σ : L2.St} {H : Hp} {x : Int} (h : Val te σ H (.int x)) : Val (tCB (fun xs H Q => ∃ i, xs = [.int i] ∧ Q (.int (if i < 0 then -i else i)) H) (tCons te tNil)) σ H (.int (x.natAbs : Int)) := fun Q q => h _ ⟨x, rfl, by
  have e : (if x < 0 then -x else x) = (x.natAbs : Int) := by split <;> omega
  rw [e]
  exact q⟩
def spLGcd : Sp := fun vs H Q _ => ∃ x y : Int, vs = [.int x, .int y] ∧ x.natAbs < 2 ^ wd ∧ y.natAbs < 2 ^ wd ∧ Q (.int (gI x y)) H
theorem ok_law_gcd (T : Txt K mg) : FnOk P w K mg base CX0 1 (fA mg "_law_gcd") (fDat K (fA mg "_law_gcd")) ["_law_one", "_law_two"] spLGcd := by
  refine T._law_gcd.F.ok sc_law_gcd (fun vs H Q E h => ?_) (fun cdv A outer s H vs Q E hr h => ?_)
  · obtain ⟨x, y, rfl, _⟩ := h
    rfl
  · obtain ⟨x, y, rfl, hx, hy, k⟩ := h
    refine ⟨_, (pss_cons (ps_par (i := 0) (j := 1) (by rfl) sc_law_gcd.nd rfl rfl (by decide) rfl rfl (pa_cons (pe_callB call_abs (by rfl) T.abs (by decide +kernel) (pa_cons (pv 0) pa_nil)) (pa_cons (pe_callB call_abs (by rfl) T.abs (by decide +kernel) (pa_cons (pv 1) pa_nil)) pa_nil)) (by rfl))
  (pss_cons (ps_for PassesOwn.never rfl (pi_range1 (by rfl) T.range (pa_cons pe_int pa_nil)) (pg_name (i := 2) sc_law_gcd.nd rfl (Or.inl rfl))
  (pss_cons (ps_if (pt_cmpR op_eq (pv 1) pe_int (nomark _)) (pss_one ps_break) pss_nil)
  (pss_one (ps_par (i := 0) (j := 1) (by rfl) sc_law_gcd.nd rfl rfl (by decide) rfl rfl (pa_cons (pv 1) (pa_cons (pe_op op_modN (pe_callTy call_int1 (by rfl) T.int (by decide +kernel) (pa_cons (pv 0) pa_nil)) (pv 1)) pa_nil)) (by rfl)))))
  (pss_one (ps_ret (pv 0))))), ?_⟩
    have hM : x.natAbs * y.natAbs < 2 ^ (wd + wd) := by
      rw [Nat.pow_add]
      exact Nat.mul_lt_mul'' hx hy
    refine (show tPar 0 1 _ _ _ _ from ?_)
    refine (va_cons (v_abs (val_var rfl)) (va_cons (v_abs (val_var rfl)) va_nil)) _ ⟨_, _, rfl, ?_⟩
    refine q_forR1 (n := 50000) (va_cons val_c va_nil) (by decide) (fun i σ H' => ∃ (a b : Nat) (z : Option V), σ = [some (.int a), some (.int b), z] ∧ H' = H ∧ Nat.gcd a b = Nat.gcd x.natAbs y.natAbs ∧ (i = 0 ∨ b < a) ∧ a * b * 2 ^ (i - 1) ≤ x.natAbs * y.natAbs)
      ⟨x.natAbs, y.natAbs, none, rfl, rfl, rfl, .inl rfl, by simp⟩ ?_ ?_
    · rintro i σ H' hi ⟨a, b, z, rfl, rfl, hg, hb, hm⟩
      refine (show tSeq (tIfS _ _ _) _ _ _ _ from ?_)
      by_cases b0 : b = 0
      · subst b0
        refine q_when (b := true) (ans_eq (x := .int ((0 : Nat) : Int)) (y := .int 0) (val_var rfl) val_c rfl rfl) (fun _ => ?_) (fun z => nomatch z)
        unfold tBreak
        refine st_ret (val_var rfl) ?_
        have e : gI x y = (a : Int) := by
          unfold gI
          rw [← hg, Nat.gcd_zero_right]
        rw [← e]
        exact k
      · refine q_unless (ans_eq (x := .int (b : Int)) (y := .int 0) (val_var rfl) val_c rfl (decide_eq_false (by simp [b0]))) ?_
        have e : ((a : Int).fmod (b : Int)) = ((a % b : Nat) : Int) := by
          rw [Int.fmod_eq_emod_of_nonneg _ (by omega)]
          exact (Int.natCast_emod a b).symm
        refine (show tPar 0 1 _ _ _ _ from ?_)
        refine (va_cons (val_var rfl) (va_cons (v_fmod (i := (a : Int)) (j := (b : Int)) (v_int1 (val_var rfl)) (val_var rfl) (by omega)) va_nil)) _ ⟨_, _, rfl, ?_⟩
        rw [e]
        refine ⟨b, a % b, _, rfl, rfl, ?_, .inr (Nat.mod_lt _ (by omega)), ?_⟩
        · rw [← hg, Nat.gcd_comm b, ← Nat.gcd_rec, Nat.gcd_comm]
        · rcases hb with rfl | hb
          · refine Nat.le_trans ?_ hm
            simp only [Nat.zero_add, Nat.sub_self, Nat.zero_sub, Nat.pow_zero, Nat.mul_one]
            rw [Nat.mul_comm a b]
            exact Nat.mul_le_mul_left _ (Nat.mod_le _ _)
          · cases i with
            | zero => 
              refine Nat.le_trans ?_ hm
              simp only [Nat.zero_add, Nat.sub_self, Nat.zero_sub, Nat.pow_zero, Nat.mul_one]
              rw [Nat.mul_comm a b]
              exact Nat.mul_le_mul_left _ (Nat.mod_le _ _)
            | succ i =>
              refine Nat.le_trans ?_ hm
              have h := Nat.mul_le_mul_right (2 ^ i) (half hb (by omega))
              simp only [Nat.add_sub_cancel]
              rw [Nat.pow_succ, Nat.mul_comm (2 ^ i) 2, ← Nat.mul_assoc]
              exact h
    · rintro σ H' ⟨a, b, z, rfl, rfl, hg, hb, hm⟩
      have b0 : b = 0 := by
        rcases Nat.eq_zero_or_pos b with h | h
        · exact h
        · exfalso
          have ha : b < a := hb.resolve_left (by decide)
          have h1 : 1 ≤ a * b := Nat.mul_pos (by omega) h
          have h2 : 2 ^ (50000 - 1) ≤ a * b * 2 ^ (50000 - 1) := Nat.le_mul_of_pos_left _ h1
          have h3 : 2 ^ (wd + wd) ≤ 2 ^ (50000 - 1) := Nat.pow_le_pow_right (by decide) (by decide)
          exact Nat.lt_irrefl _ (Nat.lt_of_le_of_lt (Nat.le_trans h3 (Nat.le_trans h2 hm)) hM)
      subst b0
      refine st_ret (val_var rfl) ?_
      have e : gI x y = (a : Int) := by
        unfold gI
        rw [← hg, Nat.gcd_zero_right]
      rw [← e]
      exact k
def spLQ : Sp := fun vs H Q _ => ∃ x y : Int, vs = [.int x, .int y] ∧ x.natAbs < 2 ^ wd ∧ y.natAbs < 2 ^ wd ∧ ((0 < y ∧ ∀ (p : Addr) (H' : Hp), Same H H' → H' p = some (.tup [.int (x / gI x y), .int (y / gI x y)]) → Q (.ref p) H') ∨
  (y < 0 ∧ ∀ (p : Addr) (H' : Hp), Same H H' → H' p = some (.tup [.int ((-x) / gI x y), .int ((-y) / gI x y)]) → Q (.ref p) H'))
theorem ok_law_q (T : Txt K mg) : FnOk P w K mg base CX0 2 (fA mg "_law_q") (fDat K (fA mg "_law_q")) ["_law_top", "_law_bottom"] spLQ := by
  have G_law_gcd := ok_law_gcd (P := P) (w := w) (base := base) T
  refine T._law_q.F.ok sc_law_q (fun vs H Q E h => ?_) (fun cdv A outer s H vs Q E hr h => ?_)
  · obtain ⟨x, y, rfl, _⟩ := h
    rfl
  · obtain ⟨x, y, rfl, hx, hy, k⟩ := h
    refine ⟨_, (pss_cons (ps_set (i := 2) sc_law_q.nd rfl (Or.inl rfl) (pe_c T._law_gcd G_law_gcd (hr.mono (by decide)) (pa_cons (pv 0) (pa_cons (pv 1) pa_nil))))
  (pss_cons (ps_set (i := 2) sc_law_q.nd rfl (Or.inl rfl) (pe_ifExp (pt_cmpR op_lt (pv 1) pe_int (nomark _)) (pe_un un_neg (pv 2)) (pv 2)))
  (pss_one (ps_ret (pe_tup (pa_cons (pe_op op_fdivS (pv 0) (pv 2)) (pa_cons (pe_op op_fdivS (pv 1) (pv 2)) pa_nil))))))), ?_⟩
    refine q_asg (c_call (va_cons (val_var rfl) (va_cons (val_var rfl) va_nil)) ⟨x, y, rfl, hx, hy, ?_⟩)
    have big : ∀ {d : Int}, d = gI x y ∨ d = -gI x y → 0 < gI x y → y ≠ 0 → d ≠ 0 ∧ d.natAbs.log2 < 9000 := fun {d} h g y0 => by
      have l : gI x y ≤ y.natAbs := by
        have : Nat.gcd x.natAbs y.natAbs ≤ y.natAbs := Nat.le_of_dvd (by omega) (Nat.gcd_dvd_right _ _)
        unfold gI
        omega
      have n : d.natAbs ≤ y.natAbs := by omega
      exact ⟨by omega, Nat.lt_of_lt_of_le (PySem.Flt.log2_lt_of (k := wd) (by decide) (Nat.lt_of_le_of_lt n hy)) (by decide)⟩
    rcases k with ⟨y0, k⟩ | ⟨y0, k⟩
    · have g := gI_pos (i := x) y0
      refine q_asg ((a_I (i := y) (j := 0) (val_var rfl) val_c) _ ?_)
      rw [decide_eq_false (by omega : ¬ y < 0)]
      refine iteF ?_
      refine (val_var rfl) _ ?_
      refine r_ret (te := tTup _) ((va_cons (v_fdiv (i := x) (j := gI x y) (val_var rfl) (val_var rfl) (big (.inl rfl) g (by omega))) (va_cons (v_fdiv (i := y) (j := gI x y) (val_var rfl) (val_var rfl) (big (.inl rfl) g (by omega))) va_nil)) _ ⟨by show 2 ≤ sizeLine; decide, fun p hp => k p _ (Same.new' hp) ?_⟩)
      rw [Int.fdiv_eq_ediv_of_nonneg _ (by omega), Int.fdiv_eq_ediv_of_nonneg _ (by omega)]
      exact upd_same
    · have g : 0 < gI x y := by
        have : 0 < Nat.gcd x.natAbs y.natAbs := Nat.gcd_pos_of_pos_right _ (by omega)
        unfold gI
        omega
      have ng : ∀ x d : Int, 0 < d → x.fdiv (-d) = (-x) / d := fun x d h => by
        have e := Int.neg_fdiv_neg (-x) d
        rw [Int.neg_neg] at e
        rw [e, Int.fdiv_eq_ediv_of_nonneg _ (by omega)]
      refine q_asg ((a_I (i := y) (j := 0) (val_var rfl) val_c) _ ?_)
      rw [decide_eq_true (by omega : y < 0)]
      refine iteT ?_
      refine (v_neg (n := gI x y) (val_var rfl)) _ ?_
      refine r_ret (te := tTup _) ((va_cons (v_fdiv (i := x) (j := -gI x y) (val_var rfl) (val_var rfl) (big (.inr rfl) g (by omega))) (va_cons (v_fdiv (i := y) (j := -gI x y) (val_var rfl) (val_var rfl) (big (.inr rfl) g (by omega))) va_nil)) _ ⟨by show 2 ≤ sizeLine; decide, fun p hp => k p _ (Same.new' hp) ?_⟩)
      rw [ng _ _ g, ng _ _ g]
      exact upd_same

def sp_law_plus : Sp := fun vs H Q _ => ∃ (p q : Addr) (i j k l : Int), vs = [.ref p, .ref q] ∧ H p = some (.tup [.int i, .int j]) ∧ H q = some (.tup [.int k, .int l]) ∧ Fit i j ∧ Fit k l ∧ 0 < j ∧ 0 < l ∧ ∀ (p : Addr) (H' : Hp), Same H H' → H' p = some (.tup [.int ((i * l + k * j) / gI (i * l + k * j) (j * l)), .int ((j * l) / gI (i * l + k * j) (j * l))]) → Q (.ref p) H'
theorem ok_law_plus (T : Txt K mg) : FnOk P w K mg base CX0 3 (fA mg "_law_plus") (fDat K (fA mg "_law_plus")) ["_law_one", "_law_two"] sp_law_plus := by
  have G_law_q := ok_law_q (P := P) (w := w) (base := base) T
  refine T._law_plus.F.ok sc_law_plus (fun vs H Q E h => ?_) (fun cdv A outer s H vs Q E hr h => ?_)
  · obtain ⟨p, q, i, j, k, l, rfl, _⟩ := h
    rfl
  · obtain ⟨p, q, i, j, k, l, rfl, hp, hq, ⟨fi, fj⟩, ⟨fk, fl⟩, j0, l0, z⟩ := h
    refine ⟨_, (pss_one (ps_ret (pe_c T._law_q G_law_q (hr.mono (by decide)) (pa_cons (pe_op op_add (pe_op op_mulW (pe_ix ix_tup (pv 0) pe_int (fun _ _ => rfl)) (pe_ix ix_tup (pv 1) pe_int (fun _ _ => rfl))) (pe_op op_mulW (pe_ix ix_tup (pv 1) pe_int (fun _ _ => rfl)) (pe_ix ix_tup (pv 0) pe_int (fun _ _ => rfl)))) (pa_cons (pe_op op_mulW (pe_ix ix_tup (pv 0) pe_int (fun _ _ => rfl)) (pe_ix ix_tup (pv 1) pe_int (fun _ _ => rfl))) pa_nil))))), ?_⟩
    exact r_ret (te := tCall _ _ _ _) (c_call (va_cons (v_add (v_mul (v_ixT (n := 0) (val_var rfl) val_c (SqT.of hp) rfl) (v_ixT (n := 1) (val_var rfl) val_c (SqT.of hq) rfl) (fit_mul fi fl)) (v_mul (v_ixT (n := 0) (val_var rfl) val_c (SqT.of hq) rfl) (v_ixT (n := 1) (val_var rfl) val_c (SqT.of hp) rfl) (fit_mul fk fj))) (va_cons (v_mul (v_ixT (n := 1) (val_var rfl) val_c (SqT.of hp) rfl) (v_ixT (n := 1) (val_var rfl) val_c (SqT.of hq) rfl) (fit_mul fj fl)) va_nil)) ⟨_, _, rfl, fit_add (wide_lt fi fl) (wide_lt fk fj), fit_lt fj fl, .inl ⟨Int.mul_pos j0 l0, z⟩⟩)

def sp_law_times : Sp := fun vs H Q _ => ∃ (p q : Addr) (i j k l : Int), vs = [.ref p, .ref q] ∧ H p = some (.tup [.int i, .int j]) ∧ H q = some (.tup [.int k, .int l]) ∧ Fit i j ∧ Fit k l ∧ 0 < j ∧ 0 < l ∧ ∀ (p : Addr) (H' : Hp), Same H H' → H' p = some (.tup [.int ((i * k) / gI (i * k) (j * l)), .int ((j * l) / gI (i * k) (j * l))]) → Q (.ref p) H'
theorem ok_law_times (T : Txt K mg) : FnOk P w K mg base CX0 3 (fA mg "_law_times") (fDat K (fA mg "_law_times")) ["_law_one", "_law_two"] sp_law_times := by
  have G_law_q := ok_law_q (P := P) (w := w) (base := base) T
  refine T._law_times.F.ok sc_law_times (fun vs H Q E h => ?_) (fun cdv A outer s H vs Q E hr h => ?_)
  · obtain ⟨p, q, i, j, k, l, rfl, _⟩ := h
    rfl
  · obtain ⟨p, q, i, j, k, l, rfl, hp, hq, ⟨fi, fj⟩, ⟨fk, fl⟩, j0, l0, z⟩ := h
    refine ⟨_, (pss_one (ps_ret (pe_c T._law_q G_law_q (hr.mono (by decide)) (pa_cons (pe_op op_mulW (pe_ix ix_tup (pv 0) pe_int (fun _ _ => rfl)) (pe_ix ix_tup (pv 1) pe_int (fun _ _ => rfl))) (pa_cons (pe_op op_mulW (pe_ix ix_tup (pv 0) pe_int (fun _ _ => rfl)) (pe_ix ix_tup (pv 1) pe_int (fun _ _ => rfl))) pa_nil))))), ?_⟩
    exact r_ret (te := tCall _ _ _ _) (c_call (va_cons (v_mul (v_ixT (n := 0) (val_var rfl) val_c (SqT.of hp) rfl) (v_ixT (n := 0) (val_var rfl) val_c (SqT.of hq) rfl) (fit_mul fi fk)) (va_cons (v_mul (v_ixT (n := 1) (val_var rfl) val_c (SqT.of hp) rfl) (v_ixT (n := 1) (val_var rfl) val_c (SqT.of hq) rfl) (fit_mul fj fl)) va_nil)) ⟨_, _, rfl, fit_lt fi fk, fit_lt fj fl, .inl ⟨Int.mul_pos j0 l0, z⟩⟩)

/-! ### lowest terms, the sums behind them -/
theorem gI_dvd (x y : Int) : gI x y ∣ x ∧ gI x y ∣ y := ⟨Int.ofNat_dvd_left.mpr (Nat.gcd_dvd_left _ _), Int.ofNat_dvd_left.mpr (Nat.gcd_dvd_right _ _)⟩
theorem low_abs (x : Int) {y : Int} : (x / gI x y).natAbs ≤ x.natAbs := by
  rw [Int.natAbs_ediv_of_dvd (gI_dvd x y).1]
  exact Nat.div_le_self _ _
theorem low_pos (x : Int) {y : Int} (hy : 0 < y) : 0 < y / gI x y ∧ y / gI x y ≤ y := by
  have g := gI_pos (i := x) hy
  refine ⟨Int.ediv_pos_of_pos_of_dvd hy (Int.le_of_lt g) (gI_dvd x y).2, Int.ediv_le_self _ (Int.le_of_lt hy)⟩
theorem call_1 {sp : Sp} {L : List V} {E : XK} {te : TE} {tr : TA} {σ : L2.St} {H : Hp} {Q : VK} (h : te σ H fun v H1 => tr σ H1 fun vs H2 => sp ((v :: vs) ++ L) H2 Q E) : tCall sp L E (tCons te tr) σ H Q := h
theorem va_1 {te : TE} {σ : L2.St} {H : Hp} {Q : List V → Hp → Prop} (h : te σ H fun v H1 => Q [v] H1) : tCons te tNil σ H Q := h
/-- a ratio in lowest terms of up to eighteen figures -/
def Low (H : Hp) (t : Addr) (a b : Int) : Prop := H t = some (.tup [.int a, .int b]) ∧ 0 < b ∧ gI a b = 1 ∧ a.natAbs ≤ 10 ^ 18 ∧ b ≤ 10 ^ 18
theorem q_ifAndK {σ : L2.St} {H : Hp} {t u : TT} {t1 tz : TS} {D : Ends} {I : Hp → Prop} (rest : ∀ H1, I H1 → tz D σ H1) (h : (∀ H1, I H1 → tz D σ H1) → t σ H fun c H1 => if c = true then u σ H1 (fun b H2 => if b = true then t1 { D with nx := tz D } σ H2 else tz D σ H2) else
    (if false = true then t1 { D with nx := tz D } σ H1 else tz D σ H1)) : tSeq (tIfS (tAnd t u) t1 tNext) tz D σ H := h rest
theorem l_two {σ : L2.St} {H : Hp} {t1 t2 : TE} {Q : VK} (h : t1 σ H fun v H1 => t2 σ H1 fun w H2 => 2 ≤ sizeLine ∧ ∀ q, H2 q = none → Q (.ref q) (upd H2 q (.lst [v, w]))) : tLst (tCons t1 (tCons t2 tNil)) σ H Q := h
/-- as a caller may pass a ratio a / b -/
def spPassed : Sp := fun vs H Q _ => ∃ (p c t : Addr) (m : Nat) (a b : Int), vs = [.ref p, .ref t] ∧ PenAt H p c m ∧ m + 3 < most ∧ Low H t a b ∧ ∀ (v : V) (H' : Hp) (s : Int), 0 < s → s ≤ 3 → Rt H' v (a * s) (b * s) → (∀ x, v = .ref x → H x = none) → But p H H' → PenAt H' p c (m + 3) → Q v H'
theorem ok_passed (T : Txt K mg) : FnOk P w K mg base CX0 4 (fA mg "_law_passed") (fDat K (fA mg "_law_passed")) ["_law_pen_here", "_law_ratio_here"] spPassed := by
  have G_law_draw := ok_draw (P := P) (w := w) (base := base) T._law_draw.F T
  have G_law_pick := ok_pick (P := P) (w := w) (base := base) T
  refine T._law_passed.F.ok sc_law_passed (fun vs H Q E h => ?_) (fun cdv A outer s H vs Q E hr h => ?_)
  · obtain ⟨p, c, t, m, a, b, rfl, _⟩ := h
    rfl
  · obtain ⟨p, c, t, m, a, b, rfl, hP, hm, ⟨ht, b0, ab, al, bl⟩, k⟩ := h
    refine ⟨_, (pss_cons (ps_if (PW.pt (pw_and (pt_cmpR op_eq (pe_ix ix_tup (pv 1) pe_int (fun _ _ => rfl)) pe_int (nomark _)) (pw_and1 (pt_cmpR op_eq (pe_c T._law_draw G_law_draw (hr.mono (by decide)) (pa_cons (pv 0) (pa_cons pe_int pa_nil))) pe_int (nomark _))))) (pss_one (ps_ret (pe_ix ix_tup (pv 1) pe_int (fun _ _ => rfl)))) pss_nil)
  (pss_cons (ps_set (i := 2) sc_law_passed.nd rfl (Or.inl rfl) (pe_c T._law_pick G_law_pick (hr.mono (by decide)) (pa_cons (pv 0) (pa_cons (pe_lst (pa_cons pe_int (pa_cons pe_int (pa_cons pe_int (pa_cons pe_int pa_nil))))) pa_nil))))
  (pss_one (ps_ret (pe_c T._law_pick G_law_pick (hr.mono (by decide)) (pa_cons (pv 0) (pa_cons (pe_lst (pa_cons (pe_tup (pa_cons (pe_op op_mulW (pe_ix ix_tup (pv 1) pe_int (fun _ _ => rfl)) (pv 2)) (pa_cons (pe_op op_mulW (pe_ix ix_tup (pv 1) pe_int (fun _ _ => rfl)) (pv 2)) pa_nil))) (pa_cons (pe_lst (pa_cons (pe_op op_mulW (pe_ix ix_tup (pv 1) pe_int (fun _ _ => rfl)) (pv 2)) (pa_cons (pe_op op_mulW (pe_ix ix_tup (pv 1) pe_int (fun _ _ => rfl)) (pv 2)) pa_nil))) pa_nil))) pa_nil))))))), ?_⟩
    obtain ⟨kvs, hd⟩ := hP.dk
    have np : t ≠ p := ne_of ht hd (by intro z; cases z)
    have c1 : (2 : Nat) ^ 64 < 2 ^ 1000 := Nat.pow_lt_pow_right (by decide) (by decide)
    have fa : a.natAbs < 2 ^ 1000 := by
      have : (10 : Nat) ^ 18 < 2 ^ 64 := by decide
      omega
    have fb : b.natAbs < 2 ^ 1000 := by
      have : (10 : Nat) ^ 18 < 2 ^ 64 := by decide
      omega
    refine q_ifAndK (I := fun H1 => But p H H1 ∧ PenAt H1 p c (m + 1)) (fun H1 ⟨b1, P1⟩ => ?_) (fun rest => ?_)
    · have ht1 := b1 _ _ ht np
      refine q_asg (call_1 ((val_var rfl) _ (va_1 (l_lst (va_cons val_c (va_cons val_c (va_cons val_c (va_cons val_c va_nil)))) (by decide) fun q hq => ?_))))
      refine ⟨p, c, q, _, m + 1, rfl, P1.same (Same.new hq), by omega, SqL.of upd_same, by decide, by decide, fun v H2 hv b2 P2 => ?_⟩
      obtain ⟨s, rfl, s0, s1⟩ : ∃ s : Int, v = .int s ∧ 0 < s ∧ s ≤ 3 := by
        simp at hv
        rcases hv with e | e | e
        · exact ⟨1, e, by decide, by decide⟩
        · exact ⟨2, e, by decide, by decide⟩
        · exact ⟨3, e, by decide, by decide⟩
      have ht2 := b2 _ _ ((Same.new hq) _ _ ht1) np
      have fs : s.natAbs < 2 ^ 1000 := by omega
      refine r_ret (te := tCall _ _ _ _) (call_1 ((val_var rfl) _ (va_1 ?_)))
      have two : ∀ {σ : L2.St}, σ[1]? = some (some (.ref t)) → σ[2]? = some (some (.int s)) → ∀ {H3 : Hp}, H3 t = some (.tup [.int a, .int b]) → VA (tCons (tOp (rI CMulW fun i j => V.int (i * j)) (tOp (rIxT K) (tVar 1) (tC (V.int 0))) (tVar 2)) (tCons (tOp (rI CMulW fun i j => V.int (i * j)) (tOp (rIxT K) (tVar 1) (tC (V.int 1))) (tVar 2)) tNil)) σ H3 [.int (a * s), .int (b * s)] := fun e1 e2 H3 h =>
        va_cons (v_mul (v_ixT (n := 0) (val_var e1) val_c (SqT.of h) rfl) (val_var e2) (fit_mul fa fs)) (va_cons (v_mul (v_ixT (n := 1) (val_var e1) val_c (SqT.of h) rfl) (val_var e2) (fit_mul fb fs)) va_nil)
      refine l_two (l_tup (two rfl rfl ht2) (by show 2 ≤ 100000; decide) fun x hx => l_lst (two rfl rfl ((Same.new' hx) _ _ ht2)) (by show 2 ≤ 100000; decide) fun y hy => ⟨by show 2 ≤ sizeLine; decide, fun q2 hq2 => ?_⟩)
      have S := ((Same.new' (o := .tup [.int (a * s), .int (b * s)]) hx).trans (Same.new' (o := .lst [.int (a * s), .int (b * s)]) hy)).trans (Same.new' (o := .lst [.ref x, .ref y]) hq2)
      obtain ⟨kv2, hd2⟩ := P2.dk
      have px : x ≠ p := fun z => by rw [z, hd2] at hx; cases hx
      have py : y ≠ p := fun z => by
        have := (Same.new' (o := .tup [.int (a * s), .int (b * s)]) hx) _ _ hd2
        rw [z, this] at hy
        cases hy
      have ex := (Same.new' (o := .lst [.ref x, .ref y]) hq2) _ _ ((Same.new' (o := .lst [.int (a * s), .int (b * s)]) hy) _ _ (upd_same (H := H2) (a := x) (o := .tup [.int (a * s), .int (b * s)])))
      have ey := (Same.new' (o := .lst [.ref x, .ref y]) hq2) _ _ (upd_same (a := y) (o := .lst [.int (a * s), .int (b * s)]))
      refine ⟨p, c, q2, _, m + 2, rfl, P2.same S, by omega, SqL.of upd_same, by show 0 < 2; decide, by show 2 < 1000000000; decide, fun v H3 hv b3 P3 => ?_⟩
      have B := (((b1.trans (But.of (Same.new hq))).trans b2).trans (But.of S)).trans b3
      have bs : 0 < b * s := Int.mul_pos b0 s0
      have fx : ∀ z, z ≠ p → H2 z = none → H z = none := fun z nz hz => by
        cases h : H z with
        | none => rfl
        | some o =>
          rw [((b1.trans (But.of (Same.new hq))).trans b2) _ _ h nz] at hz
          cases hz
      have hy0 : H2 y = none := by
        cases h : H2 y with
        | none => rfl
        | some o =>
          rw [(Same.new' (o := .tup [.int (a * s), .int (b * s)]) hx) _ _ h] at hy
          cases hy
      rcases List.mem_cons.mp hv with e | hv
      · rw [e]
        exact k _ _ s s0 s1 (.pair (.inr (b3 _ _ ex px)) bs) (fun z ez => by cases ez; exact fx x px hx) B P3
      · rcases List.mem_cons.mp hv with e | hv
        · rw [e]
          exact k _ _ s s0 s1 (.pair (.inl (b3 _ _ ey py)) bs) (fun z ez => by cases ez; exact fx y py hy0) B P3
        · cases hv
    · by_cases e1 : b = 1
      · refine (ans_eq (x := .int b) (y := .int 1) (v_ixT (n := 1) (val_var rfl) val_c (SqT.of ht) rfl) val_c rfl (decide_eq_true (by rw [e1]))) _ ?_
        refine iteT ?_
        refine c_call (va_cons (val_var rfl) (va_cons val_c va_nil)) ⟨p, c, 2, m, rfl, hP, by omega, by decide, by decide, fun r H1 r0 r1 b1 P1 => ?_⟩
        refine ⟨rfl, _, rfl, ?_⟩
        refine ite2 (fun _ => ?_) (fun _ => rest _ ⟨b1, P1⟩)
        refine st_ret (v_ixT (n := 0) (val_var rfl) val_c (SqT.of (b1 _ _ ht np)) rfl) (k _ _ 1 (by decide) (by decide) ?_ (fun _ z => nomatch z) b1 (P1.le (by omega)))
        rw [e1, Int.mul_one, Int.mul_one]
        exact .int a
      · refine (ans_eq (x := .int b) (y := .int 1) (v_ixT (n := 1) (val_var rfl) val_c (SqT.of ht) rfl) val_c rfl (decide_eq_false (by simp [e1]))) _ ?_
        refine iteF (iteF (rest _ ⟨But.refl, hP.le (by omega)⟩))

/-! ### values that are no ratios -/
def aK : Key := Sum.inr ("a" : Str)
def Fine (K : PySem.W.Frag) (H : Hp) (v : V) (d : PyData) : Prop := Dd K H v d ∧ d.showable = true ∧ d.depth ≤ 3 ∧ d.shown.length ≤ 1000 ∧ PyData.strOk d.shown = true
inductive Odd (H : Hp) : V → Prop
  | non : Odd H .non
  | bl : Odd H (.bl true)
  | str : Odd H (.str "1")
  | tup {q : Addr} {xs : List V} (e : H q = some (.tup xs)) (h : xs = [.int 1, .int 0] ∨ xs = [.int 1, .int (-2)] ∨ xs = [.int 1, .bl true] ∨ xs = [.int 1, .int 2, .int 3] ∨ xs = [.str "1", .int 2] ∨ xs = [.non, .int 1] ∨ xs = [.bl true, .int 2] ∨ xs = []) : Odd H (.ref q)
  | lst {q : Addr} {xs : List V} (e : H q = some (.lst xs)) (h : xs = [.int 1] ∨ xs = [.int 2, .bl false]) : Odd H (.ref q)
  | dic {q : Addr} (e : H q = some (.dK [(aK, .int 1)])) : Odd H (.ref q)
  | nest {q r : Addr} (e : H q = some (.tup [.ref r, .int 3])) (e2 : H r = some (.tup [.int 1, .int 2])) : Odd H (.ref q)
theorem Odd.same {H H' : Hp} {v : V} (g : Odd H v) (s : Same H H') : Odd H' v := by
  cases g with
  | non => exact .non
  | bl => exact .bl
  | str => exact .str
  | tup e h => exact .tup (s _ _ e) h
  | lst e h => exact .lst (s _ _ e) h
  | dic e => exact .dic (s _ _ e)
  | nest e e2 => exact .nest (s _ _ e) (s _ _ e2)
theorem Odd.but {H H' : Hp} {v : V} {p c : Addr} {m : Nat} (g : Odd H v) (P : PenAt H p c m) (b : But p H H') : Odd H' v := by
  obtain ⟨a, d, n, f, ns, hp, _⟩ := P
  have k : ∀ {q : Addr} {o : HO}, H q = some o → (∀ kvs, o = .dK kvs → kvs.length < 5) → H' q = some o := fun {q o} e h => b q o e (fun z => by
    rw [z, hp] at e
    have := h _ (Option.some.inj e).symm
    exact absurd this (by show ¬ 5 < 5; decide))
  cases g with
  | non => exact .non
  | bl => exact .bl
  | str => exact .str
  | tup e h => exact .tup (k e (fun _ z => by cases z)) h
  | lst e h => exact .lst (k e (fun _ z => by cases z)) h
  | dic e => exact .dic (k e (fun _ z => by cases z; show 1 < 5; decide))
  | nest e e2 => exact .nest (k e (fun _ z => by cases z)) (k e2 (fun _ z => by cases z))
theorem Odd.rat {H : Hp} {v : V} (g : Odd H v) : RatQ H v false := by
  cases g with
  | non => exact .odd .non (by simp)
  | bl => exact .odd (.bl _) (by simp)
  | str => exact .odd (.str _) (by simp)
  | tup e h =>
    rcases h with rfl | rfl | rfl | rfl | rfl | rfl | rfl | rfl
    · exact .pair (j := 0) (.inr e)
    · exact .pair (j := -2) (.inr e)
    · exact .snd (.inr e) (.bl _) (by decide)
    · exact .len (.inr e) (by decide)
    · exact .fst (.inr e) (.str _) (by decide)
    · exact .fst (.inr e) .non (by decide)
    · exact .fst (.inr e) (.bl _) (by decide)
    · exact .len (.inr e) (by decide)
  | lst e h =>
    rcases h with rfl | rfl
    · exact .len (.inl e) (by decide)
    · exact .snd (.inl e) (.bl _) (by decide)
  | dic e => exact .odd (.dic e) (by simp)
  | nest e e2 => exact .fst (.inr e) (.tup e2) (by decide)
theorem Odd.fine {H : Hp} {v : V} (g : Odd H v) : ∃ d, Fine K H v d := by
  have kk : ∀ {d : PyData}, Dd K H v d → d.showable = true ∧ d.depth ≤ 3 ∧ d.shown.length ≤ 1000 ∧ PyData.strOk d.shown = true → ∃ d, Fine K H v d := fun a b => ⟨_, a, b⟩
  cases g with
  | non => exact kk .non (by decide +kernel)
  | bl => exact kk (.bl _) (by decide +kernel)
  | str => exact kk (.str _) (by decide +kernel)
  | tup e h =>
    rcases h with rfl | rfl | rfl | rfl | rfl | rfl | rfl | rfl
    · exact kk (.tup (SqT.of e) (.cons (.int _) (.cons (.int _) .nil))) (by decide +kernel)
    · exact kk (.tup (SqT.of e) (.cons (.int _) (.cons (.int _) .nil))) (by decide +kernel)
    · exact kk (.tup (SqT.of e) (.cons (.int _) (.cons (.bl _) .nil))) (by decide +kernel)
    · exact kk (.tup (SqT.of e) (.cons (.int _) (.cons (.int _) (.cons (.int _) .nil)))) (by decide +kernel)
    · exact kk (.tup (SqT.of e) (.cons (.str _) (.cons (.int _) .nil))) (by decide +kernel)
    · exact kk (.tup (SqT.of e) (.cons .non (.cons (.int _) .nil))) (by decide +kernel)
    · exact kk (.tup (SqT.of e) (.cons (.bl _) (.cons (.int _) .nil))) (by decide +kernel)
    · exact kk (.tup (SqT.of e) .nil) (by decide +kernel)
  | lst e h =>
    rcases h with rfl | rfl
    · exact kk (.lst (SqL.of e) (.cons (.int _) .nil)) (by decide +kernel)
    · exact kk (.lst (SqL.of e) (.cons (.int _) (.cons (.bl _) .nil))) (by decide +kernel)
  | dic e => exact kk (.dic e (.cons (.int _) .nil)) (by decide +kernel)
  | nest e e2 => exact kk (.tup (SqT.of e) (.cons (.tup (SqT.of e2) (.cons (.int _) (.cons (.int _) .nil))) (.cons (.int _) .nil))) (by decide +kernel)
/-- .. and made behind H0 -/
def OdF (H0 : Hp) (v : V) (H : Hp) : Prop := Odd H v ∧ ∀ x, v = .ref x → H0 x = none
theorem OdF.same {H0 H H' : Hp} {v : V} (g : OdF H0 v H) (s : Same H H') : OdF H0 v H' := ⟨g.1.same s, g.2⟩
def Odds (H0 : Hp) (n : Nat) (vs : List V) (H : Hp) : Prop := (∀ v ∈ vs, OdF H0 v H) ∧ vs.length = n
theorem Odds.stays {H0 : Hp} {n : Nat} : Stays (Odds H0 n) := fun vs H1 H2 s h => ⟨fun v hv => (h.1 v hv).same s, h.2⟩
theorem om_nil {σ : L2.St} {H0 H : Hp} : VM tNil σ H (Odds H0 0) := fun Q q => q [] H (Same.refl H) ⟨(fun _ h => nomatch h), rfl⟩
theorem om_cons {σ : L2.St} {H0 H : Hp} {te : TE} {tr : TA} {n : Nat} (s0 : Same H0 H) (h : EM te σ H (OdF H0)) (hr : ∀ H1, Same H0 H1 → VM tr σ H1 (Odds H0 n)) : VM (tCons te tr) σ H (Odds H0 (n + 1)) := fun Q q =>
  h _ fun v H1 s1 p1 => hr H1 (s0.trans s1) _ fun r H2 s2 ⟨r2, e2⟩ => q (v :: r) H2 (s1.trans s2) ⟨fun x hx => by
    rcases List.mem_cons.mp hx with e | e
    · rw [e]; exact p1.same s2
    · exact r2 x e, by rw [List.length_cons, e2]⟩
theorem none_of {H0 H : Hp} {a : Addr} (s : Same H0 H) (h : H a = none) : H0 a = none := by
  cases e : H0 a with
  | none => rfl
  | some o => rw [s _ _ e] at h; cases h
theorem em_tupF {σ : L2.St} {H : Hp} {tb : TA} {ws : List V} {P : V → Hp → Prop} (h : VA tb σ H ws) (hl : ws.length ≤ 100000) (q : ∀ a H', H a = none → H' a = some (.tup ws) → P (.ref a) H') : EM (tTup tb) σ H P := fun Q k => l_tup h hl fun a ha => k _ _ (Same.new' ha) (q a _ ha upd_same)
theorem em_lstF {σ : L2.St} {H : Hp} {tb : TA} {ws : List V} {P : V → Hp → Prop} (h : VA tb σ H ws) (hl : ws.length ≤ 100000) (q : ∀ a H', H a = none → H' a = some (.lst ws) → P (.ref a) H') : EM (tLst tb) σ H P := fun Q k => l_lst h hl fun a ha => k _ _ (Same.new' ha) (q a _ ha upd_same)
theorem em_dicF {σ : L2.St} {H : Hp} {te : TE} {v : V} {key : Key} {P : V → Hp → Prop} (h : ∀ H1, Val te σ H1 v) (q : ∀ a H', H a = none → H' a = some (.dK [(key, v)]) → P (.ref a) H') : EM (tDisp [(tC (kV key), te)]) σ H P := fun Q k a ha =>
  h _ _ ⟨upd_same, [(key, v)], rfl, by show 1 ≤ 15; decide, k _ _ (by
    have e : mergeK [] [(key, v)] = [(key, v)] := rfl
    rw [e, upd_upd]
    exact Same.new' ha) (q a _ ha upd_same)⟩
theorem fr_ref {H0 : Hp} {a : Addr} (h : H0 a = none) : ∀ x, V.ref a = .ref x → H0 x = none := fun x e => by cases e; exact h
theorem tup_two {σ : L2.St} {H : Hp} {t1 t2 : TE} {Q : VK} (h : t1 σ H fun v H1 => t2 σ H1 fun w H2 => 2 ≤ sizeLine ∧ ∀ q, H2 q = none → Q (.ref q) (upd H2 q (.tup [v, w]))) : tTup (tCons t1 (tCons t2 tNil)) σ H Q := h
theorem nest {σ : L2.St} {H0 H : Hp} (s : Same H0 H) : EM (tTup (tCons (tTup (tCons (tC (.int 1)) (tCons (tC (.int 2)) tNil))) (tCons (tC (.int 3)) tNil))) σ H (OdF H0) := fun Q q => tup_two (l_tup (va_cons val_c (va_cons val_c va_nil)) (by decide) fun a ha => val_c _ ⟨by show 2 ≤ sizeLine; decide, fun b hb => q _ _ ((Same.new' ha).trans (Same.new' hb)) ⟨.nest upd_same ((Same.new' hb) _ _ upd_same), fr_ref (none_of (s.trans (Same.new' ha)) hb)⟩⟩)
theorem om_val {σ : L2.St} {H0 H : Hp} {te : TE} {v : V} (h : Val te σ H v) (g : Odd H v) (n : ∀ x, v ≠ .ref x) : EM te σ H (OdF H0) := fun Q q => h _ (q v H (Same.refl H) ⟨g, fun x e => (n x e).elim⟩)
def spAny : Sp := fun vs H Q _ => ∃ (p c : Addr) (m : Nat), vs = [.ref p] ∧ PenAt H p c m ∧ m + 1 < most ∧ ∀ (v : V) (H' : Hp), Odd H' v → (∀ x, v = .ref x → H x = none) → But p H H' → PenAt H' p c (m + 1) → Q v H'
theorem ok_any (T : Txt K mg) : FnOk P w K mg base CX0 4 (fA mg "_law_any") (fDat K (fA mg "_law_any")) ["_law_pen_here"] spAny := by
  have G_law_pick := ok_pick (P := P) (w := w) (base := base) T
  refine T._law_any.F.ok sc_law_any (fun vs H Q E h => ?_) (fun cdv A outer s H vs Q E hr h => ?_)
  · obtain ⟨p, c, m, rfl, _⟩ := h
    rfl
  · obtain ⟨p, c, m, rfl, hP, hm, k⟩ := h
    refine ⟨_, (pss_cons (ps_set (i := 1) sc_law_any.nd rfl (Or.inl rfl) (pe_lst (pa_cons pe_non (pa_cons pe_bl (pa_cons pe_str (pa_cons (pe_tup (pa_cons pe_int (pa_cons pe_int pa_nil))) (pa_cons (pe_tup (pa_cons pe_int (pa_cons (pe_un un_neg pe_int) pa_nil))) (pa_cons (pe_tup (pa_cons pe_int (pa_cons pe_bl pa_nil))) (pa_cons (pe_lst (pa_cons pe_int pa_nil)) (pa_cons (pe_tup (pa_cons pe_int (pa_cons pe_int (pa_cons pe_int pa_nil)))) (pa_cons (pe_disp (pps_cons pe_str pe_int pps_nil) (by rfl) (by rfl) (fun z => by cases z) (by decide)) (pa_cons (pe_tup (pa_cons pe_str (pa_cons pe_int pa_nil))) (pa_cons (pe_tup (pa_cons pe_non (pa_cons pe_int pa_nil))) (pa_cons (pe_tup (pa_cons pe_bl (pa_cons pe_int pa_nil))) pa_nil))))))))))))))
  (pss_one (ps_ret (pe_c T._law_pick G_law_pick (hr.mono (by decide)) (pa_cons (pv 0) (pa_cons (pe_op op_cat (pv 1) (pe_lst (pa_cons (pe_lst (pa_cons pe_int (pa_cons pe_bl pa_nil))) (pa_cons (pe_tup (pa_cons (pe_tup (pa_cons pe_int (pa_cons pe_int pa_nil))) (pa_cons pe_int pa_nil))) (pa_cons (pe_tup pa_nil) pa_nil))))) pa_nil)))))), ?_⟩
    have ot : ∀ {tb : TA} {σ : L2.St} {H1 : Hp} {xs : List V}, Same H H1 → VA tb σ H1 xs → (xs = [.int 1, .int 0] ∨ xs = [.int 1, .int (-2)] ∨ xs = [.int 1, .bl true] ∨ xs = [.int 1, .int 2, .int 3] ∨ xs = [.str "1", .int 2] ∨ xs = [.non, .int 1] ∨ xs = [.bl true, .int 2] ∨ xs = []) → EM (tTup tb) σ H1 (OdF H) := fun s h o =>
      em_tupF h (by rcases o with rfl | rfl | rfl | rfl | rfl | rfl | rfl | rfl <;> decide) fun a H' n e => ⟨.tup e o, fr_ref (none_of s n)⟩
    have ol : ∀ {tb : TA} {σ : L2.St} {H1 : Hp} {xs : List V}, Same H H1 → VA tb σ H1 xs → (xs = [.int 1] ∨ xs = [.int 2, .bl false]) → EM (tLst tb) σ H1 (OdF H) := fun s h o =>
      em_lstF h (by rcases o with rfl | rfl <;> decide) fun a H' n e => ⟨.lst e o, fr_ref (none_of s n)⟩
    refine q_lstM (Odds.stays (H0 := H) (n := 12)) (om_cons (Same.refl _) (om_val val_c .non (fun _ z => nomatch z)) fun _ s => om_cons s (om_val val_c .bl (fun _ z => nomatch z)) fun _ s => om_cons s (om_val val_c .str (fun _ z => nomatch z)) fun _ s => om_cons s (ot s (va_cons val_c (va_cons val_c va_nil)) (by simp)) fun _ s =>
      om_cons s (ot s (va_cons val_c (va_cons (v_neg val_c) va_nil)) (by simp)) fun _ s => om_cons s (ot s (va_cons val_c (va_cons val_c va_nil)) (by simp)) fun _ s => om_cons s (ol s (va_cons val_c va_nil) (by simp)) fun _ s => om_cons s (ot s (va_cons val_c (va_cons val_c (va_cons val_c va_nil))) (by simp)) fun _ s =>
      om_cons s (em_dicF (key := aK) (v := .int 1) (fun _ => val_c) fun a H' n e => ⟨.dic e, fr_ref (none_of s n)⟩) fun _ s => om_cons s (ot s (va_cons val_c (va_cons val_c va_nil)) (by simp)) fun _ s => om_cons s (ot s (va_cons val_c (va_cons val_c va_nil)) (by simp)) fun _ s => om_cons s (ot s (va_cons val_c (va_cons val_c va_nil)) (by simp)) fun _ _ => om_nil) (fun vs H' r => by rw [r.2]; decide) fun q1 xs H1 s1 e1 r1 => ?_
    refine r_ret (te := tCall _ _ _ _) (call_1 ((val_var rfl) _ (va_1 ?_)))
    refine l_catM (Odds.stays (H0 := H) (n := 3)) (val_var rfl) e1 (by rw [r1.2]; decide) (om_cons s1 (ol s1 (va_cons val_c (va_cons val_c va_nil)) (by simp)) fun _ s => om_cons s (nest s) fun _ s => om_cons s (ot s va_nil (by simp)) fun _ _ => om_nil) (fun vs H' r => by rw [r.2]; decide) fun q2 ys H2 s2 e2 r2 => ?_
    have len : (xs ++ ys).length = 15 := by rw [List.length_append, r1.2, r2.2]
    have of : ∀ v ∈ xs ++ ys, OdF H v H2 := fun v hv => by
      rcases List.mem_append.mp hv with h | h
      · exact (r1.1 v h).same s2
      · exact r2.1 v h
    exact ⟨p, c, q2, xs ++ ys, m, rfl, (hP.same s1).same s2, by omega, SqL.of e2, by omega, by omega, fun v H3 hv b3 P3 => k v H3 ((of v hv).1.but ((hP.same s1).same s2) b3) (of v hv).2 ((But.of (s1.trans s2)).trans b3) P3⟩

/-! ### the error of a call -/
theorem ExcC.xf {K : PySem.W.Frag} {C : Addr} (e : ExcC K C) : XfC K C := ⟨e.1, e.2, e.3, e.4⟩
/-- data that repr shows, of some length -/
def FineL (K : PySem.W.Frag) (H : Hp) (v : V) (d : PyData) : Prop := Dd K H v d ∧ d.showable = true ∧ d.depth ≤ 40 ∧ d.shown.length ≤ 100000 ∧ PyData.strOk d.shown = true
/-- what _law_why makes of a call: None, or the fields of a BadNumber or of a BadRow -/
def TTwhy (K : PySem.W.Frag) (mg : Str → Option Value) : (XK → Hp → VK → Prop) → Hp → VK → Prop := fun tl H Q =>
  tl (fun cls d H' => (cls = .ref (fA mg "BadNumber") ∧ ∃ (dd : Addr) (v wh : V) (t : PyData), d = some dd ∧ H' dd = some (.xd [("number", v), ("what", wh)]) ∧ Fine K H' v t ∧ ∀ (p : Addr) (H2 : Hp), Same H' H2 → H2 p = some (.tup [.str "number", wh, .str t.shown]) → Q (.ref p) H2) ∨
    (cls = .ref (fA mg "BadRow") ∧ ∃ (dd : Addr) (v : V) (t : PyData), d = some dd ∧ H' dd = some (.xd [("row", v)]) ∧ FineL K H' v t ∧ ∀ (p : Addr) (H2 : Hp), Same H' H2 → H2 p = some (.tup [.str "row", .str t.shown]) → Q (.ref p) H2))
    H (fun _ H' => Q .non H')
theorem st_ret' {te : TE} {D : Ends} {σ : L2.St} {H : Hp} (h : te σ H D.rt) : tRet te D σ H := h
theorem why_gives {X : Cx} (T : Txt X.K X.mg) (hq : Quiet X.A) {q : Str} {cdg : Value} (hr : ∀ e, Room 1 (X.A.deeper e)) : LamX.GivesTo X ["_law_call", "e"] "_law_why" (defScope s_law_why) (fA X.mg "_law_why") cdg (defBody s_law_why) "_law_call" q (TTwhy X.K X.mg) := by
  intro f c' s H Q tl act hc h
  have xT := ExcC.xf T.BadText.e
  have xN := ExcC.xf T.BadNumber.e
  have xR := ExcC.xf T.BadRow.e
  refine ⟨_, pss_cons (TM.ps_try_names (X := (cxOf C8.CX0 X.prog X.w X.K X.mg X.base ["_law_call", "e"] "_law_why" (defScope s_law_why) (fA X.mg "_law_why") cdg X.A X.stack s H C8.E0).nox) (tb := fun W D σ H => ∃ Ech : XK, (∀ cls d σ' H', Ech cls d H' → W cls d σ' H') ∧ σ[0]? = some (some (.ref f)) ∧ H c' = some (LamX.CodeO c' q) ∧ tl Ech H (fun _ H' => D.nx σ H'))
      rfl rfl sc_law_why.nd LamX.takes0 (fun W pn xe tk _ => ?_)
      (.cons (i := 1) rfl rfl ⟨by rfl, by decide, .inl T.BadText.g⟩ (fun a oe cls d pn hz hf => pss_one (ps_ret (pe_tup (pa_cons pe_str (pa_cons (pe_xf xT (T.BadText.n _ (by simp)) hz hf (pv 1)) pa_nil)))))
      (.cons (i := 1) rfl rfl ⟨by rfl, by decide, .inl T.BadNumber.g⟩ (fun a oe cls d pn hz hf => pss_one (ps_ret (pe_tup (pa_cons pe_str (pa_cons (pe_xf xN (T.BadNumber.n _ (by simp)) hz hf (pv 1)) (pa_cons (pe_callB (id := "repr") (show CallR _ _ (rShow X.K) from call_show ?_ ?_) (by rfl) T.repr (by decide +kernel) (pa_cons (pe_xf xN (T.BadNumber.n _ (by simp)) hz hf (pv 1)) pa_nil)) pa_nil))))))
      (.cons (i := 1) rfl rfl ⟨by rfl, by decide, .inl T.BadRow.g⟩ (fun a oe cls d pn hz hf => pss_one (ps_ret (pe_tup (pa_cons pe_str (pa_cons (pe_callB (id := "repr") (show CallR _ _ (rShow X.K) from call_show ?_ ?_) (by rfl) T.repr (by decide +kernel) (pa_cons (pe_xf xR (T.BadRow.n _ (by simp)) hz hf (pv 1)) pa_nil)) pa_nil))))) .nil))))
      (pss_one (ps_ret pe_non)), ?_⟩
  case refine_1 =>
    refine ⟨fun pins s' σ H' D I h' => ?_⟩
    obtain ⟨Ech, hW, h1, h2, h3⟩ := h'
    exact (pss_one (ps_expr (act W pn xe Ech _ _ tk hW))).run pins s' σ H' D I ⟨h1, h2, h3⟩
  case refine_6 =>
    refine ⟨_, fun cls d σ' H' e => ?_, rfl, hc, h⟩
    rcases e with e | e
    case inr =>
      obtain ⟨rfl, dd, v, t, rfl, hx, hF, k⟩ := e
      intro hl
      refine ⟨false, T.xBadRowBadText, And.intro (fun z => (Bool.false_ne_true z).elim) (fun _ => ?_)⟩
      refine ⟨false, T.xBadRowBadNumber, And.intro (fun z => (Bool.false_ne_true z).elim) (fun _ => ?_)⟩
      refine ⟨true, T.xBadRowBadRow, And.intro (fun _ a ha => ?_) (fun z => (Bool.false_ne_true z.symm).elim)⟩
      have h1 : (σ'.set 1 (some (V.ref a)))[1]? = some (some (V.ref a)) := by
        rw [List.getElem?_set_self (by rw [hl]; show 1 < 2; decide)]
      have n1 : Val (tXf a (.ref (fA X.mg "BadRow")) (some dd) (fA X.mg "BadRow") "row" (tVar 1)) (σ'.set 1 (some (V.ref a))) H' v := fun Q q => (val_var h1) _ ⟨rfl, rfl, dd, _, _, rfl, hx, rfl, q⟩
      refine st_ret' (l_tup (va_cons val_c (va_cons (v_show n1 hF.1 hF.2.1 hF.2.2.1 hF.2.2.2.1) va_nil)) (by show 2 ≤ 100000; decide) fun p hp => k p _ (Same.new' hp) upd_same)
    obtain ⟨rfl, dd, v, wh, t, rfl, hx, hF, k⟩ := e
    intro hl
    refine ⟨false, T.xBadNumberBadText, And.intro (fun z => (Bool.false_ne_true z).elim) (fun _ => ?_)⟩
    refine ⟨true, T.xBadNumberBadNumber, And.intro (fun _ a ha => ?_) (fun z => (Bool.false_ne_true z.symm).elim)⟩
    have h1 : (σ'.set 1 (some (V.ref a)))[1]? = some (some (V.ref a)) := by
      rw [List.getElem?_set_self (by rw [hl]; show 1 < 2; decide)]
    have fd : ∀ {n : Str} {z : V}, ([("number", v), ("what", wh)] : List (Str × V)).lookup n = some z → Val (tXf a (.ref (fA X.mg "BadNumber")) (some dd) (fA X.mg "BadNumber") n (tVar 1)) (σ'.set 1 (some (V.ref a))) H' z := fun l Q q =>
      (val_var h1) _ ⟨rfl, rfl, dd, _, _, rfl, hx, l, q⟩
    have w1 := fd (n := "what") (z := wh) (by
      have ne : (("what" : Str) == ("number" : Str)) = false := by decide +kernel
      rw [List.lookup_cons, ne]
      rfl)
    have n1 := fd (n := "number") (z := v) rfl
    refine st_ret' (l_tup (va_cons val_c (va_cons w1 (va_cons (v_show n1 hF.1 hF.2.1 (Nat.le_trans hF.2.2.1 (by decide)) (Nat.le_trans hF.2.2.2.1 (by decide))) va_nil))) (by show 3 ≤ 100000; decide) fun p hp => k p _ (Same.new' hp) upd_same)
  all_goals first | exact hq | exact (hu64 (hr (envOfC "_law_why" (defScope s_law_why) s.heap.objs.size (fA X.mg "_law_why") cdg)) :)
end
end LW

/-! Instances of an own class under operators: two of them, one beside a value of a built-in class on either side; -x; ==. -/
namespace GL
open PySem PySem.Spec PyProof.Rows L2
section
variable {P : Program} {w : World} {A : Around} {E : Value → Shared → Prop} {s : Shared} {K : PySem.W.Frag} {x C B f : Addr} {base : Heap} {mp : Str → Option Value} {ox : Obj} {od : Option Obj} {T : String}
/-- what the classes tell of x op b, b of the built-in class T -/
structure OpT (K : PySem.W.Frag) (C f : Addr) (T : String) (op : Operator) : Prop where
  me : PySem.W.selfFirst K C = true
  at_ : PySem.W.findIn K (.ref C) (PySem.dunder op.info.2) = some (some (.ref f))
  fn : PySem.W.isFn K (.ref f) = true
  rc : ∃ g : Addr, PySem.W.findIn K (.ref C) (dunderR op.info.2) = some (some (.ref g))
  lo : ∃ fo, PySem.W.findIn K (.type T) (PySem.dunder op.info.2) = some fo
  ro : ∃ ro, PySem.W.findIn K (.type T) (dunderR op.info.2) = some ro
  sub : PySem.W.subIn K (.type T) (.ref C) = some false
/-- .. of a op x, a of the built-in class T -/
structure OpR' (K : PySem.W.Frag) (C f : Addr) (T : String) (op : Operator) (k : Bool) : Prop where
  me : PySem.W.selfFirst K C = true
  lf : ∃ g : Addr, PySem.W.findIn K (.ref C) (PySem.dunder op.info.2) = some (some (.ref g))
  at_ : PySem.W.findIn K (.ref C) (dunderR op.info.2) = some (some (.ref f))
  fn : PySem.W.isFn K (.ref f) = true
  lr : ∃ fo ro, PySem.W.findIn K (.type T) (PySem.dunder op.info.2) = some fo ∧ PySem.W.findIn K (.type T) (dunderR op.info.2) = some ro ∧ ((fo.isSome && !isSeqSlot fo) || (ro.isSome && !isSeqSlot ro)) = k
  sub : PySem.W.subIn K (.ref C) (.type T) = some false
end
end GL

namespace GL
open PySem PySem.Spec PyProof.Rows L2
/-! ### over the layer -/
/-- the value is of the built-in class T -/
inductive OfT (H : Hp) : V → String → Prop
  | int (i : Int) : OfT H (.int i) "int"
  | tup {q : Addr} {xs : List V} (e : H q = some (.tup xs)) : OfT H (.ref q) "tuple"
section
variable {X : Cx} {pins : List (Addr × Obj)} {σ : L2.St} {H : Hp} {s : Shared} {C f : Addr} {k : Nat} {fd : FuncData} {ps : List Str} {sp : Sp}
structure OpI (K : PySem.W.Frag) (C f : Addr) (op : Operator) : Prop where
  me : PySem.W.selfFirst K C = true
  at_ : PySem.W.findIn K (.ref C) (PySem.dunder op.info.2) = some (some (.ref f))
  fn : PySem.W.isFn K (.ref f) = true
end
end GL

/-! list(zip(a, b)) of two lists, or of two tuples, of one length -/
namespace ZL
open PySem PySem.Spec PyProof.Rows L2
/-- a walk over a sequence -/
structure Cur (It : Heap → Addr → Addr → Nat → Prop) (Src : Heap → Addr → Array Value → Prop) : Prop where
  item : ∀ {prog : Program} {w : World} {A : Around} {E : Value → Shared → Prop} {s : Shared} {it l : Addr} {i : Nat} {xs : Array Value} {x : Value} {Q : Value → Shared → Prop}, It s.heap it l i → Src s.heap l xs → xs[i]? = some x →
    (∀ h', It h' it l (i + 1) → Heap.SameBut it s.heap h' → Q x { s with heap := h' }) → wpAny (model prog w) A (Builtin.SmallTypes.nextOf (.ref it)) Q E s
  stop : ∀ {prog : Program} {w : World} {A : Around} {E : Value → Shared → Prop} {s : Shared} {it l : Addr} {i : Nat} {xs : Array Value} {Q : Value → Shared → Prop}, A.handled = none → It s.heap it l i → Src s.heap l xs → xs[i]? = none →
    (∀ h' e, Heap.ExtBut it s.heap h' → (∃ o, h'.get? e = some o ∧ o.cls = .type "StopIteration") → E (.ref e) { s with heap := h' }) → wpAny (model prog w) A (Builtin.SmallTypes.nextOf (.ref it)) Q E s
  itk : ∀ {h h' : Heap} {it l : Addr} {k : Nat}, It h it l k → (∀ o, h.get? it = some o → h'.get? it = some o) → It h' it l k
  srk : ∀ {h h' : Heap} {l : Addr} {xs : Array Value}, Src h l xs → (∀ o, h.get? l = some o → h'.get? l = some o) → Src h' l xs
  first : ∀ {prog : Program} {w : World} {A : Around} {E : Value → Shared → Prop} {s : Shared} {z TI TO i1 i2 l1 l2 : Addr} {k1 k2 : Nat} {xs ys : Array Value} {x y a b : Value} {Q : Option Value → Shared → Prop}, ZipApart z TI TO i1 i2 l1 l2 →
    IsZip s.heap z TI TO .none → IsPair s.heap TI (.ref i1) (.ref i2) → IsPair s.heap TO a b → It s.heap i1 l1 k1 → It s.heap i2 l2 k2 → Src s.heap l1 xs → Src s.heap l2 ys → xs[k1]? = some x → ys[k2]? = some y →
    (∀ h', IsZip h' z TI TO (rawInt s.heap.objs.size) → IsPair h' TO x y → It h' i1 l1 (k1 + 1) → It h' i2 l2 (k2 + 1) → IsPair h' s.heap.objs.size x y → h'.objs.size = s.heap.objs.size + 1 →
      (∀ c o, c ≠ z → c ≠ TO → c ≠ i1 → c ≠ i2 → s.heap.get? c = some o → h'.get? c = some o) → Q (some (.ref s.heap.objs.size)) { s with heap := h' }) → wpAny (model prog w) A (pyNext (.ref z)) Q E s
  none : ∀ {prog : Program} {w : World} {A : Around} {E : Value → Shared → Prop} {s : Shared} {z TI TO i1 i2 l1 l2 : Addr} {k1 k2 : Nat} {xs ys : Array Value} {a b : Value} {Q : Option Value → Shared → Prop}, A.handled = none → ZipApart z TI TO i1 i2 l1 l2 →
    IsZip s.heap z TI TO .none → IsPair s.heap TI (.ref i1) (.ref i2) → IsPair s.heap TO a b → It s.heap i1 l1 k1 → It s.heap i2 l2 k2 → Src s.heap l1 xs → Src s.heap l2 ys → xs[k1]? = none ∨ ys[k2]? = none →
    (∀ h', (∀ c o, c ≠ z → c ≠ TO → c ≠ i1 → c ≠ i2 → s.heap.get? c = some o → h'.get? c = some o) → Q none { s with heap := h' }) → wpAny (model prog w) A (pyNext (.ref z)) Q E s
section
variable {It : Heap → Addr → Addr → Nat → Prop} {Src : Heap → Addr → Array Value → Prop} {prog : Program} {w : World} {A : Around} {E : Value → Shared → Prop} {s : Shared}
variable {z TI TO T i1 i2 l1 l2 : Addr} {f : Bool} {oT : Obj} {k1 k2 : Nat} {xs ys : Array Value}
end
/-- the pairs so far -/
structure Prs (S : Addr) (xs ys : Array Value) (i : Nat) (h : Heap) (acc : Array Value) : Prop where
  sz : acc.size = i
  pr : ∀ (j : Nat) (x y : Value), j < i → xs[j]? = some x → ys[j]? = some y → ∃ T, acc[j]? = some (.ref T) ∧ S < T ∧ IsPair h T x y
  inc : ∀ (j k : Nat) (T T' : Addr), j < k → acc[j]? = some (.ref T) → acc[k]? = some (.ref T') → T < T'
  lt : ∀ (j : Nat) (T : Addr), acc[j]? = some (.ref T) → T < h.objs.size
  ge : ∀ (j : Nat) (T : Addr), acc[j]? = some (.ref T) → S < T
structure Zst (It : Heap → Addr → Addr → Nat → Prop) (Src : Heap → Addr → Array Value → Prop) (h0 : Heap) (S z TI TO i1 i2 l1 l2 : Addr) (xs ys : Array Value) (i : Nat) (h : Heap) (acc : Array Value) : Prop where
  zf : (IsZip h z TI TO .none ∧ ∃ a b, IsPair h TO a b) ∨ ∃ T f oT, IsZipHeld h z TI TO T f ∧ h.get? T = some oT ∧ S < T
  ti : IsPair h TI (.ref i1) (.ref i2)
  a1 : It h i1 l1 i
  a2 : It h i2 l2 i
  m1 : Src h l1 xs
  m2 : Src h l2 ys
  ps : Prs S xs ys i h acc
  kp : ∀ b o, b ≠ z → b ≠ TO → b ≠ i1 → b ≠ i2 → b ≠ S → h0.get? b = some o → h.get? b = some o
end ZL

namespace LW
open PySem PySem.Spec PyProof.Rows L2 GL
section
variable {P : Program} {w : World} {K : PySem.W.Frag} {mg : Str → Option Value} {base : Heap}
theorem pi_or {X : Cx} {tg iter : Expr} {w1 w2 : TI} (h1 : PI X tg iter w1) (h2 : PI X tg iter w2) : PI X tg iter (fun σ H R => w1 σ H R ∨ w2 σ H R) := ⟨fun pins s σ H R I h => h.elim (h1.run pins s σ H R I) (h2.run pins s σ H R I)⟩
/-- a list or a tuple -/
def Seq (K : PySem.W.Frag) (H : Hp) (a : Addr) (xs : List V) : Prop := SqL K H a xs ∨ SqT K H a xs
theorem Sq.seq {K : PySem.W.Frag} {H : Hp} {a : Addr} {xs : List V} (h : Sq H a xs) : Seq K H a xs := h.elim (fun z => .inl (SqL.of z)) fun z => .inr (SqT.of z)
/-- one turn of a comprehension: what is stored in its names, then its item -/
def Turn1 (g : TG) (te : TE) (vs : List Nat) (σ : L2.St) (x : V) (H : Hp) (R : V → Hp → Prop) : Prop := ∀ K' : L2.St → Hp → Prop, (∀ σ2, wipe σ2 vs = wipe σ vs → EM te σ2 H R → K' σ2 H) → g x (wipe σ vs) H K'
theorem turn_name {te : TE} {vs : List Nat} {σ : L2.St} {x : V} {H : Hp} {R : V → Hp → Prop} {j : Nat} (hw : wipe ((wipe σ vs).set j (some x)) vs = wipe σ vs) (h : EM te ((wipe σ vs).set j (some x)) H R) : Turn1 (gName j) te vs σ x H R := fun K' k => k _ hw h
theorem turn_two {K : PySem.W.Frag} {te : TE} {vs : List Nat} {σ : L2.St} {x y : V} {t : Addr} {H : Hp} {R : V → Hp → Prop} {i j : Nat} (ht : SqT K H t [x, y]) (hw : wipe (((wipe σ vs).set i (some x)).set j (some y)) vs = wipe σ vs) (h : EM te (((wipe σ vs).set i (some x)).set j (some y)) H R) :
    Turn1 (gTup K 2 (gCons (gName i) (gCons (gName j) gNil))) te vs σ (.ref t) H R := fun K' k => g_two ht (k _ hw h)
theorem em_val {te : TE} {σ : L2.St} {H : Hp} {v : V} {R : V → Hp → Prop} (h : Val te σ H v) (r : R v H) : EM te σ H R := fun Q q => h _ (q v H (Same.refl H) r)
section
variable {σ : L2.St} {H : Hp} {g : TG} {te ti : TE} {vs : List Nat} {Q : VK} {a : Addr} {xs : List V} {R : Nat → V → Hp → Prop}
/-- what the comprehension's list holds -/
def LcP (R : Nat → V → Hp → Prop) (H : Hp) (D : Addr) (i : Nat) (H' : Hp) : Prop := ∃ ys, Same H H' ∧ H' D = some (.lst ys) ∧ H D = none ∧ Rows R 0 i ys H'
/-- a change of a list leaves it -/
def Off (R : Nat → V → Hp → Prop) : Prop := ∀ k v H D ys zs, R k v H → H D = some (.lst ys) → R k v (upd H D (.lst zs))
theorem Run.off (of : Off R) {H : Hp} {D : Addr} {ws zs : List V} (e : H D = some (.lst ws)) : ∀ {k : Nat} {ys : List V}, Run R k ys H → Run R k ys (upd H D (.lst zs))
  | _, [], _ => trivial
  | _, _ :: _, ⟨x, y⟩ => ⟨of _ _ _ _ _ _ x e, Run.off of e y⟩
theorem lc_step (st : ∀ k, Stays (R k)) (of : Off R) {x : V} {i : Nat} {D : Addr} {H1 : Hp} (p : LcP R H D i H1) (hn : i < 10000) (ht : Same H H1 → Turn1 g te vs σ x H1 (R i)) :
    g x (wipe σ vs) H1 fun σ2 H2 => wipe σ2 vs = wipe σ vs ∧ tYes σ2 H2 fun b H3 => if b = true then te σ2 H3 fun y H4 => ∃ acc, H4 D = some (.lst acc) ∧ acc.length < sizeLine ∧ LcP R H D (i + 1) (upd H4 D (.lst (acc ++ [y]))) else LcP R H D (i + 1) H3 := by
  obtain ⟨ys, s, e, nD, r⟩ := p
  refine ht s _ fun σ2 hw em => ⟨hw, ?_⟩
  show (if true = true then te _ _ _ else LcP R H D (i + 1) H1)
  rw [if_pos rfl]
  refine em _ fun v H4 s4 rv => ⟨ys, s4 _ _ e, by rw [r.2]; exact Nat.lt_of_lt_of_le hn (by decide), ys ++ [v], ?_, upd_same, nD, ?_⟩
  · intro b o z
    rw [upd_ne (ne_of_none z nD)]
    exact s4 _ _ (s b o z)
  · have r4 := Rows.stays st ys H1 H4 s4 r
    refine ⟨Run.off of (s4 _ _ e) (Run.app r4.1 ⟨?_, trivial⟩), by rw [List.length_append, r4.2]; rfl⟩
    rw [r4.2, Nat.zero_add]
    exact rv
/-- [e for .. in xs] -/
theorem l_lcS (st : ∀ k, Stays (R k)) (of : Off R) (h : Val ti σ H (.ref a)) (hx : Seq K H a xs) (hn : xs.length ≤ 10000) (hs : ∀ i x H1, xs[i]? = some x → Same H H1 → Turn1 g te vs σ x H1 (R i))
    (q : ∀ p ys H', Same H H' → H' p = some (.lst ys) → Rows R 0 xs.length ys H' → Q (.ref p) H') : tLc (fun σ H R => iList K ti σ H R ∨ iTup K ti σ H R) g tYes te vs σ H Q := by
  have start : ∀ D, H D = none → LcP R H D 0 (upd H D (.lst [])) := fun D hD => ⟨[], Same.new' hD, upd_same, hD, trivial, rfl⟩
  have fin : ∀ D H1, LcP R H D xs.length H1 → Q (.ref D) H1 := fun D H1 ⟨ys, s, e, _, r⟩ => q D ys H1 s e r
  have step : ∀ D i x H1, xs[i]? = some x → LcP R H D i H1 → _ := fun D i x H1 e p => lc_step (g := g) (te := te) (vs := vs) (σ := σ) st of p (by
    have := (List.getElem?_eq_some_iff.mp e).1
    omega) (hs i x H1 e)
  rcases hx with hx | hx
  · exact .inl (h _ ⟨a, rfl, ⟨xs, hx⟩, fun D hD => lc_list (K := K) (a := a) (xs := xs) (LcP R H D) (start D hD) (fun i H1 _ p => p.choose_spec.1.seq hx) (step D) (fun H1 p => fin D H1 p)⟩)
  · exact .inr (h _ ⟨a, rfl, ⟨xs, hx⟩, fun D hD => lc_tup (K := K) (a := a) (xs := xs) (LcP R H D) (start D hD) (fun i H1 _ p => sqt_same p.choose_spec.1 hx) (step D) (fun H1 p => fin D H1 p)⟩)
theorem l_lcL (st : ∀ k, Stays (R k)) (of : Off R) (h : Val ti σ H (.ref a)) (hx : SqL K H a xs) (hn : xs.length ≤ 10000) (hs : ∀ i x H1, xs[i]? = some x → Same H H1 → Turn1 g te vs σ x H1 (R i))
    (q : ∀ p ys H', Same H H' → H' p = some (.lst ys) → Rows R 0 xs.length ys H' → Q (.ref p) H') : tLc (iList K ti) g tYes te vs σ H Q :=
  h _ ⟨a, rfl, ⟨xs, hx⟩, fun D hD => lc_list (K := K) (a := a) (xs := xs) (LcP R H D) ⟨[], Same.new' hD, upd_same, hD, trivial, rfl⟩ (fun i H1 _ p => p.choose_spec.1.seq hx) (fun i x H1 e p => lc_step st of p (by
    have := (List.getElem?_eq_some_iff.mp e).1
    omega) (hs i x H1 e)) (fun H1 ⟨ys, s, e, _, r⟩ => q D ys H1 s e r)⟩
theorem l_lcT (st : ∀ k, Stays (R k)) (of : Off R) (h : Val ti σ H (.ref a)) (hx : SqT K H a xs) (hn : xs.length ≤ 10000) (hs : ∀ i x H1, xs[i]? = some x → Same H H1 → Turn1 g te vs σ x H1 (R i))
    (q : ∀ p ys H', Same H H' → H' p = some (.lst ys) → Rows R 0 xs.length ys H' → Q (.ref p) H') : tLc (iTup K ti) g tYes te vs σ H Q :=
  h _ ⟨a, rfl, ⟨xs, hx⟩, fun D hD => lc_tup (K := K) (a := a) (xs := xs) (LcP R H D) ⟨[], Same.new' hD, upd_same, hD, trivial, rfl⟩ (fun i H1 _ p => sqt_same p.choose_spec.1 hx) (fun i x H1 e p => lc_step st of p (by
    have := (List.getElem?_eq_some_iff.mp e).1
    omega) (hs i x H1 e)) (fun H1 ⟨ys, s, e, _, r⟩ => q D ys H1 s e r)⟩
end

/-! ### ratios as values -/
def Lo (H : Hp) (t : Addr) (q : Rat) : Prop := H t = some (.tup [.int q.num, .int (q.den : Int)])
def Rq (H : Hp) (v : V) (q : Rat) : Prop := ∃ i j, Rt H v i j ∧ Fit i j ∧ q = Rat.divInt i j
theorem Lo.same {H H' : Hp} {t : Addr} {q : Rat} (h : Lo H t q) (s : Same H H') : Lo H' t q := s _ _ h
theorem Rq.same {H H' : Hp} {v : V} {q : Rat} (h : Rq H v q) (s : Same H H') : Rq H' v q := by
  obtain ⟨i, j, r, f, e⟩ := h
  exact ⟨i, j, r.same s, f, e⟩
theorem low_rat (i : Int) {j : Int} (hj : 0 < j) : i / gI i j = (Rat.divInt i j).num ∧ j / gI i j = ((Rat.divInt i j).den : Int) := by
  have g : (Int.gcd j i : Int) = gI i j := by
    unfold gI Int.gcd
    rw [Nat.gcd_comm]
  constructor
  · rw [Rat.num_divInt, Int.sign_eq_one_of_pos hj, Int.one_mul, g]
  · rw [Rat.den_divInt, if_neg (by omega), Int.natCast_ediv, g]
    congr 1
    omega
/-- below 2 ^ n -/
def Sm (n : Nat) (q : Rat) : Prop := q.num.natAbs < 2 ^ n ∧ q.den < 2 ^ n
theorem Sm.mono {n m : Nat} {q : Rat} (h : Sm n q) (l : n ≤ m) : Sm m q := ⟨Nat.lt_of_lt_of_le h.1 (Nat.pow_le_pow_right (by decide) l), Nat.lt_of_lt_of_le h.2 (Nat.pow_le_pow_right (by decide) l)⟩
theorem Sm.fit {n : Nat} {q : Rat} (h : Sm n q) (l : n ≤ 1000) : Fit q.num (q.den : Int) := ⟨(h.mono l).1, by rw [Int.natAbs_natCast]; exact (h.mono l).2⟩
theorem Lo.rt {H : Hp} {t : Addr} {q : Rat} (h : Lo H t q) : Rt H (.ref t) q.num (q.den : Int) := .pair (.inr h) (by have := q.den_pos; omega)
theorem Lo.rq {H : Hp} {t : Addr} {q : Rat} {n : Nat} (h : Lo H t q) (b : Sm n q) (l : n ≤ 1000) : Rq H (.ref t) q := ⟨_, _, h.rt, b.fit l, by rw [Rat.divInt_ofNat, Rat.mkRat_self]⟩
theorem Rq.yes {H : Hp} {v : V} {q : Rat} (h : Rq H v q) : RatQ H v true := by
  obtain ⟨i, j, r, f, e⟩ := h
  exact r.yes
section
variable {σ : L2.St} {H : Hp} {ta : TA} {v u wh : V} {q r : Rat} {Q : VK} {E : XK}
theorem c_told (h : VA ta σ H [v, wh]) (r : Rq H v q) (k : ∀ p H', Same H H' → Lo H' p q → Q (.ref p) H') : tCall (sp_told mg) [] E ta σ H Q := by
  obtain ⟨i, j, rt, f, e⟩ := r
  refine c_call h ⟨v, wh, rfl, .inl ⟨i, j, rt, f, fun p H' s z => k p H' s ?_⟩⟩
  rw [(low_rat i rt.pos).1, (low_rat i rt.pos).2, ← e] at z
  exact z
end

/-! ### rows -/
inductive All2 {α β : Type} (R : α → β → Prop) : List α → List β → Prop
  | nil : All2 R [] []
  | cons {a : α} {b : β} {as : List α} {bs : List β} (h : R a b) (t : All2 R as bs) : All2 R (a :: as) (b :: bs)
theorem All2.imp {α β : Type} {R S : α → β → Prop} (f : ∀ a b, R a b → S a b) {as : List α} {bs : List β} (h : All2 R as bs) : All2 S as bs := by
  induction h with
  | nil => exact .nil
  | cons h _ ih => exact .cons (f _ _ h) ih
theorem All2.len {α β : Type} {R : α → β → Prop} {as : List α} {bs : List β} (h : All2 R as bs) : as.length = bs.length := by
  induction h with
  | nil => rfl
  | cons _ _ ih => rw [List.length_cons, List.length_cons, ih]
theorem All2.get {α β : Type} {R : α → β → Prop} {as : List α} {bs : List β} (h : All2 R as bs) : ∀ {i : Nat} {a : α}, as[i]? = some a → ∃ b, bs[i]? = some b ∧ R a b := by
  induction h with
  | nil => intro i a e; simp at e
  | cons h _ ih =>
    intro i a e
    cases i with
    | zero => simp at e; subst e; exact ⟨_, rfl, h⟩
    | succ i => simp at e; obtain ⟨b, hb, r⟩ := ih e; exact ⟨b, by simpa using hb, r⟩
theorem All2.mk {α β : Type} {R : α → β → Prop} : ∀ {as : List α} {bs : List β}, as.length = bs.length → (∀ (i : Nat) (a : α) (b : β), as[i]? = some a → bs[i]? = some b → R a b) → All2 R as bs
  | [], [], _, _ => .nil
  | a :: as, b :: bs, e, h => .cons (h 0 a b rfl rfl) (All2.mk (as := as) (bs := bs) (by simpa using e) fun (i : Nat) x y h1 h2 => h (i + 1) x y (by simpa using h1) (by simpa using h2))
theorem rows_map {β : Type} {f : β → V} {bs : List β} {n : Nat} {ys : List V} {H : Hp} (r : Rows (fun i v _ => ∃ b, bs[i]? = some b ∧ v = f b) 0 n ys H) (e : bs.length = n) : ys = bs.map f := by
  refine List.ext_getElem? fun i => ?_
  rw [List.getElem?_map]
  cases h : ys[i]? with
  | some v =>
    obtain ⟨b, hb, rfl⟩ := r.1.get h
    rw [Nat.zero_add] at hb
    rw [hb]
    rfl
  | none =>
    have h1 := List.getElem?_eq_none_iff.mp h
    have h2 : bs.length ≤ i := by rw [e, ← r.2]; exact h1
    rw [List.getElem?_eq_none_iff.mpr h2]
    rfl
/-- what is_row answers -/
def spRow (K : PySem.W.Frag) : Sp := fun vs H Q _ => ∃ v, vs = [v] ∧ ((∃ n, Is H v n ∧ n ≠ "list" ∧ n ≠ "tuple" ∧ ∀ H', Same H H' → Q (.bl false) H') ∨ ∃ a xs bs, v = .ref a ∧ Sq H a xs ∧ xs.length ≤ 1000 ∧ All2 (RatQ H) xs bs ∧ ∀ H', Same H H' → Q (.bl (bs.all id)) H')
theorem ok_is_row (T : Txt K mg) : FnOk P w K mg base CX0 5 (fA mg "is_row") (fDat K (fA mg "is_row")) ["value"] (spRow K) := by
  have Gis_ratio := ok_is_ratio (P := P) (w := w) (base := base) T
  refine T.is_row.F.ok scis_row (fun vs H Q E h => ?_) (fun cdv A outer s H vs Q E hr h => ?_)
  · obtain ⟨v, rfl, _⟩ := h
    rfl
  obtain ⟨v, rfl, h⟩ := h
  refine ⟨_, (pss_one (ps_ret (pe_and (pe_callB call_isiT (by rfl) T.isinstance (by decide +kernel) (pa_cons (pv 0) (pa_cons (pe_tup (pa_cons (pe_bltn (v := .ty "tuple") (by rfl) T.tuple (by decide +kernel) rfl) (pa_cons (pe_bltn (v := .ty "list") (by rfl) T.list (by decide +kernel) rfl) pa_nil))) pa_nil))) (pe_one (pe_callB (cr_all rfl) (by rfl) T.all (by decide +kernel) (pa_cons (pe_lc (own := [("number", 1)]) (g := gName 1) (tt := tYes) (by rfl) scis_row.nd (pi_or (pi_list (pv 0)) (pi_tup (pv 0))) (blkOk_by (own := [("number", 1)]) (N := ["value", "number"]) (sc := defScope sis_row) (by decide +kernel)) (fun _ _ _ _ _ => pg_name (i := 1) scis_row.nd rfl (Or.inl rfl)) (fun _ _ _ _ _ => pts_nil) (fun _ _ _ _ _ => (pe_c T.is_ratio Gis_ratio (hr.mono (by decide)) (pa_cons (pv 1) pa_nil)))) pa_nil)))))), ?_⟩
  have both : ∀ {n : String} {Q' : VK}, Is H v n → (∀ H2, Same H H2 → Q' (.bl (decide (n = "tuple") || decide (n = "list"))) H2) →
      tCB (rIsiT K) (tCons (tVar 0) (tCons (tTup (tCons (tC (.ty "tuple")) (tCons (tC (.ty "list")) tNil))) tNil)) [some v, none] H Q' := fun {n Q'} i q =>
    ⟨v, rfl, ⟨by show 2 ≤ sizeLine; decide, fun p hp => ⟨v, p, [.ty "tuple", .ty "list"], _, [.type "tuple", .type "list"], _, rfl, upd_same, .cons (.ty _) (.cons (.ty _) .nil), (i.same (Same.new' hp)).ty.1, kit_seq (i.ty (K := K)).2, q _ (Same.new' hp)⟩⟩⟩
  refine r_ret ?_
  rcases h with ⟨n, i, n1, n2, k⟩ | ⟨a, xs, bs, rfl, hS, hl, hR, k⟩
  · refine both i fun H2 s2 => ⟨_, rfl, ?_⟩
    rw [decide_eq_false n2, decide_eq_false n1]
    exact iteF (k H2 s2)
  · obtain ⟨n, i, o⟩ := hS.is
    refine both i fun H2 s2 => ⟨_, rfl, ?_⟩
    have e : (decide (n = "tuple") || decide (n = "list")) = true := by rcases o with rfl | rfl <;> decide
    rw [e]
    refine iteT (cb_one ?_)
    refine l_lcS (R := fun i v _ => ∃ b, bs[i]? = some b ∧ v = V.bl b) (fun _ _ _ _ _ h => h) (fun _ _ _ _ _ _ h _ => h) (val_var rfl) (hS.same s2).seq (by omega) (fun i x H3 e s3 => turn_name rfl fun Q q => ?_) (fun p ys H4 s4 e4 r4 => ⟨p, bs, rfl, ?_, k H4 (s2.trans s4)⟩)
    · obtain ⟨b, hb, rb⟩ := hR.get e
      exact c_call (va_cons (val_var rfl) va_nil) ⟨x, b, rfl, rb.same (s2.trans s3), fun H' s' => q _ H' s' ⟨b, hb, rfl⟩⟩
    · rw [← rows_map r4 hR.len.symm]
      exact SqL.of e4

/-! ### whole rows -/
def rLcm : List V → Hp → VK → Prop := fun vs H Q => ∃ a b : Int, vs = [.int a, .int b] ∧ a.natAbs < 2 ^ 6000 ∧ b.natAbs < 2 ^ 6000 ∧ Q (.int ((Nat.lcm a.natAbs b.natAbs : Nat) : Int)) H
theorem log_6000 {n : Nat} (h : n < 2 ^ 6000) : n.log2 < 6000 := by
  rcases Nat.eq_zero_or_pos n with z | z
  · rw [z]; decide
  · exact (Nat.log2_lt (by omega)).mpr h
theorem cr_lcm {X : Cx} : CallR X (.builtin "math.lcm") rLcm := by
  intro pins s σ H vs us Q I r h
  obtain ⟨a, b, rfl, ha, hb, q⟩ := h
  obtain ⟨t, u, rfl⟩ := Vals.int2 r
  have one : Nat.lcm 1 a.natAbs = a.natAbs := by simp [Nat.lcm]
  have h1 := log_6000 (n := max 1 a.natAbs) (by have : (1 : Nat) < 2 ^ 6000 := Nat.one_lt_two_pow (by decide); omega)
  have h2 := log_6000 (n := max a.natAbs b.natAbs) (by omega)
  have h3 : ((((Nat.lcm 1 a.natAbs).lcm b.natAbs : Nat) : Int)).natAbs.log2 < bitsLine := by
    rw [one, Int.natAbs_natCast]
    have l : a.natAbs.lcm b.natAbs ≤ a.natAbs * b.natAbs := Nat.div_le_self _ _
    have m : a.natAbs * b.natAbs < 2 ^ 12000 := by
      rw [show 12000 = 6000 + 6000 from rfl, Nat.pow_add]
      exact Nat.mul_lt_mul'' ha hb
    refine Nat.lt_of_lt_of_le (m := 12000) ?_ (by decide)
    rcases Nat.eq_zero_or_pos (a.natAbs.lcm b.natAbs) with z | z
    · rw [z]; decide
    · exact (Nat.log2_lt (by omega)).mpr (Nat.lt_of_le_of_lt l m)
  refine PySem.call_function_meets PySem.W.MGF.kind_lcm PySem.W.MGF.plain_lcm PySem.W.MGF.entry_lcm (PySem.W.MGF.args_lcm _ _) (PySem.W.mg_run_lcm a t b u (by omega) (by omega) h3).meets ?_
  rw [one]
  exact ⟨.int _, H, I.tok _, ⟨_, rfl⟩, q⟩
theorem q_forT {g : TG} {te : TE} {tb tz : TS} {D : Ends} {σ : L2.St} {H : Hp} {a : Addr} {xs : List V} (h : Val te σ H (.ref a)) (hx : SqT K H a xs) (Pv : Nat → L2.St → Hp → Prop) (h0 : Pv 0 σ H) (hl : ∀ i σ H, Pv i σ H → SqT K H a xs)
    (hs : ∀ i x σ H, xs[i]? = some x → Pv i σ H → g x σ H fun σ2 H2 => tb { D with nx := Pv (i + 1), ct := Pv (i + 1), bk := tz D } σ2 H2) (hd : ∀ σ H, Pv xs.length σ H → tz D σ H) : tSeq (tFor (iTup K te) g tb) tz D σ H :=
  h _ ⟨a, rfl, ⟨_, hx⟩, for_tup (K := K) (a := a) (xs := xs) (D := { D with nx := tz D }) Pv h0 (fun i σ H _ p => hl i σ H p) hs hd⟩
/-- a tuple of told ratios -/
def Los (H : Hp) (t : Addr) (xs : List Rat) : Prop := ∃ vs, H t = some (.tup vs) ∧ All2 (fun v q => ∃ p, v = .ref p ∧ Lo H p q) vs xs
theorem Los.same {H H' : Hp} {t : Addr} {xs : List Rat} (h : Los H t xs) (s : Same H H') : Los H' t xs := by
  obtain ⟨vs, e, a⟩ := h
  exact ⟨vs, s _ _ e, a.imp fun v q ⟨p, e, l⟩ => ⟨p, e, l.same s⟩⟩
def Sms (n : Nat) (xs : List Rat) : Prop := ∀ q ∈ xs, Sm n q
theorem get_mem {α : Type} {xs : List α} {i : Nat} {a : α} (h : xs[i]? = some a) : a ∈ xs := List.mem_of_getElem? h
/-- a list or a tuple of told ratios -/
def LosQ (H : Hp) (t : Addr) (xs : List Rat) : Prop := ∃ vs, Sq H t vs ∧ All2 (fun v q => ∃ p, v = .ref p ∧ Lo H p q) vs xs
theorem q_forSq {g : TG} {te : TE} {tb tz : TS} {D : Ends} {σ : L2.St} {H : Hp} {a : Addr} {xs : List V} (h : Val te σ H (.ref a)) (hx : Sq H a xs) (Pv : Nat → L2.St → Hp → Prop) (h0 : Pv 0 σ H) (hl : ∀ i σ H', Pv i σ H' → Same H H')
    (hs : ∀ i x σ H, xs[i]? = some x → Pv i σ H → g x σ H fun σ2 H2 => tb { D with nx := Pv (i + 1), ct := Pv (i + 1), bk := tz D } σ2 H2) (hd : ∀ σ H, Pv xs.length σ H → tz D σ H) : tSeq (tFor (fun σ H R => iList K te σ H R ∨ iTup K te σ H R) g tb) tz D σ H := by
  rcases hx with e | e
  · exact .inl (h _ ⟨a, rfl, ⟨_, SqL.of e⟩, for_list (K := K) (a := a) (xs := xs) (D := { D with nx := tz D }) Pv h0 (fun i σ H' _ p => SqL.of (hl i σ H' p _ _ e)) hs hd⟩)
  · exact .inr (h _ ⟨a, rfl, ⟨_, SqT.of e⟩, for_tup (K := K) (a := a) (xs := xs) (D := { D with nx := tz D }) Pv h0 (fun i σ H' _ p => SqT.of (hl i σ H' p _ _ e)) hs hd⟩)
def spBot : Sp := fun vs H Q _ => ∃ (t : Addr) (xs : List Rat) (B : Nat), vs = [.ref t] ∧ LosQ H t xs ∧ 0 < B ∧ B < 2 ^ 1000 ∧ (∀ q ∈ xs, q.den ∣ B) ∧ xs.length ≤ 5000 ∧ ∀ (D : Nat) (H' : Hp), Same H H' → 0 < D → D ∣ B → (∀ q ∈ xs, q.den ∣ D) → Q (.int (D : Int)) H'
theorem ok_bottom_of (T : Txt K mg) : FnOk P w K mg base CX0 1 (fA mg "bottom_of") (fDat K (fA mg "bottom_of")) ["pairs"] spBot := by
  refine T.bottom_of.F.ok scbottom_of (fun vs H Q E h => ?_) (fun cdv A outer s H vs Q E hr h => ?_)
  · obtain ⟨t, xs, n, rfl, _⟩ := h
    rfl
  obtain ⟨t, xs, B, rfl, ⟨vs, e, al⟩, B0, Bb, bd, hl, k⟩ := h
  refine ⟨_, (pss_cons (ps_set (i := 1) scbottom_of.nd rfl (Or.inl rfl) pe_int)
  (pss_cons (ps_for PassesOwn.never rfl (pi_or (pi_list (pv 0)) (pi_tup (pv 0))) (pg_tup rfl (pgs_cons (pg_name (i := 2) scbottom_of.nd rfl (Or.inl rfl)) (pgs_cons (pg_name (i := 3) scbottom_of.nd rfl (Or.inl rfl)) pgs_nil)))
  (pss_one (ps_set (i := 1) scbottom_of.nd rfl (Or.inl rfl) (pe_callBfun cr_lcm (by rfl) T.lcm (pa_cons (pv 1) (pa_cons (pv 3) pa_nil))))))
  (pss_one (ps_ret (pv 1))))), ?_⟩
  refine q_set val_c ?_
  refine q_forSq (val_var rfl) e (fun i σ H1 => Same H H1 ∧ ∃ (D : Nat) (z1 z2 : Option V), σ = [some (.ref t), some (.int (D : Int)), z1, z2] ∧ 0 < D ∧ D ∣ B ∧ ∀ j q, j < i → xs[j]? = some q → q.den ∣ D) ⟨Same.refl H, 1, none, none, rfl, by decide, Nat.one_dvd _, fun j q h => absurd h (by omega)⟩ (fun i σ H1 z => z.1) (fun i v σ H1 hv z => ?_) (fun σ H1 z => ?_)
  · obtain ⟨s1, D, z1, z2, rfl, d0, dl, dd⟩ := z
    obtain ⟨q, hq, p, rfl, lo⟩ := al.get hv
    have qB := bd q (get_mem hq)
    have il : i < xs.length := (List.getElem?_eq_some_iff.mp hq).1
    refine g_two (SqT.of (lo.same s1)) ?_
    have big : ∀ {m : Nat}, m ∣ B → m < 2 ^ 6000 := fun h => Nat.lt_trans (Nat.lt_of_le_of_lt (Nat.le_of_dvd B0 h) Bb) (Nat.pow_lt_pow_right (by decide) (by decide))
    refine (v_cb (z := .int ((Nat.lcm D q.den : Nat) : Int)) (va_cons (val_var rfl) (va_cons (val_var rfl) va_nil)) fun Q' q' => ⟨(D : Int), (q.den : Int), rfl, by rw [Int.natAbs_natCast]; exact big dl, by rw [Int.natAbs_natCast]; exact big qB, by rw [Int.natAbs_natCast, Int.natAbs_natCast]; exact q'⟩ : Val _ _ _ _) _ ?_
    refine ⟨s1, Nat.lcm D q.den, _, _, rfl, Nat.lcm_pos d0 q.den_pos, ?_, fun j q2 hj h2 => ?_⟩
    · exact Nat.lcm_dvd dl qB
    · rcases Nat.lt_or_ge j i with lt | ge
      · exact Nat.dvd_trans (dd j q2 lt h2) (Nat.dvd_lcm_left _ _)
      · have ej : j = i := by omega
        subst ej
        rw [hq] at h2
        cases h2
        exact Nat.dvd_lcm_right _ _
  · obtain ⟨s1, D, z1, z2, rfl, d0, dl, dd⟩ := z
    rw [al.len] at dd
    refine st_ret (val_var rfl) (k D H1 s1 d0 dl fun q hq => ?_)
    obtain ⟨j, hj, e2⟩ := List.getElem_of_mem hq
    exact dd j q hj (by rw [List.getElem?_eq_getElem hj, e2])
/-- whole numbers over one bottom -/
def tops (D : Nat) (xs : List Rat) : List Int := xs.map fun q => q.num * ((D / q.den : Nat) : Int)
def spWhole : Sp := fun vs H Q _ => ∃ (t : Addr) (xs : List Rat) (B : Nat), vs = [.ref t] ∧ Los H t xs ∧ Sms 1000 xs ∧ 0 < B ∧ B < 2 ^ 1000 ∧ (∀ q ∈ xs, q.den ∣ B) ∧ xs.length ≤ 1000 ∧ ∀ (p l : Addr) (D : Nat) (H' : Hp), Same H H' → 0 < D → D ∣ B → (∀ q ∈ xs, q.den ∣ D) → H' p = some (.tup [.ref l, .int (D : Int)]) → H' l = some (.lst ((tops D xs).map V.int)) → Q (.ref p) H'
theorem ok_whole_row (T : Txt K mg) : FnOk P w K mg base CX0 3 (fA mg "whole_row") (fDat K (fA mg "whole_row")) ["pairs"] spWhole := by
  have Gbottom_of := ok_bottom_of (P := P) (w := w) (base := base) T
  refine T.whole_row.F.ok scwhole_row (fun vs H Q E h => ?_) (fun cdv A outer s H vs Q E hr h => ?_)
  · obtain ⟨t, xs, n, rfl, _⟩ := h
    rfl
  obtain ⟨t, xs, B, rfl, ⟨vs, e, al⟩, sm, B0, Bb, bd, hl, k⟩ := h
  refine ⟨_, (pss_cons (ps_set (i := 1) scwhole_row.nd rfl (Or.inr rfl) (pe_c T.bottom_of Gbottom_of (hr.mono (by decide)) (pa_cons (pv 0) pa_nil)))
  (pss_one (ps_ret (pe_tup (pa_cons (pe_lc (own := [("top", 2), ("bottom", 3)]) (g := gTup K 2 (gCons (gName 2) (gCons (gName 3) gNil))) (tt := tYes) (by rfl) scwhole_row.nd (pi_tup (pv 0)) (blkOk_by (own := [("top", 2), ("bottom", 3)]) (N := ["pairs", "below", "top", "bottom"]) (sc := defScope swhole_row) (by decide +kernel)) (fun _ _ _ _ _ => pg_tup rfl (pgs_cons (pg_name (i := 2) scwhole_row.nd rfl (Or.inl rfl)) (pgs_cons (pg_name (i := 3) scwhole_row.nd rfl (Or.inl rfl)) pgs_nil))) (fun _ _ _ _ _ => pts_nil) (fun _ _ _ _ _ => (pe_op op_mulW (pv 2) (pe_op op_fdivW (pv 1) (pv 3))))) (pa_cons (pv 1) pa_nil)))))), ?_⟩
  refine q_asg (c_call (va_cons (val_var rfl) va_nil) ⟨t, xs, B, rfl, ⟨vs, .inr e, al⟩, B0, Bb, bd, by omega, fun D H1 s1 d0 dl dd => ?_⟩)
  refine r_ret (tup_two ?_)
  have al1 := al.imp fun v q (h : ∃ p, v = V.ref p ∧ Lo H p q) => (⟨h.choose, h.choose_spec.1, h.choose_spec.2.same s1⟩ : ∃ p, v = V.ref p ∧ Lo H1 p q)
  refine l_lcT (R := fun i v _ => ∃ b, (tops D xs)[i]? = some b ∧ v = V.int b) (fun _ _ _ _ _ h => h) (fun _ _ _ _ _ _ h _ => h) (val_var rfl) (SqT.of (s1 _ _ e)) (by rw [al.len]; omega) (fun i v H2 hv s2 => ?_) (fun p ys H2 s2 e2 r2 => ?_)
  · obtain ⟨q, hq, p, rfl, lo⟩ := al1.get hv
    have sq := sm q (get_mem hq)
    have fn := (sq.fit (by omega)).1
    have fd := (sq.fit (by omega)).2
    have dpos := q.den_pos
    have fD : ((D / q.den : Nat) : Int).natAbs < 2 ^ 1000 := by rw [Int.natAbs_natCast]; exact Nat.lt_of_le_of_lt (Nat.le_trans (Nat.div_le_self _ _) (Nat.le_of_dvd B0 dl)) Bb
    refine turn_two (SqT.of (lo.same s2)) rfl (em_val (v := .int (q.num * ((D / q.den : Nat) : Int))) (v_mul (val_var rfl) (Val.is (GL.v_div (i := (D : Int)) (j := (q.den : Int)) (val_var rfl) (val_var rfl) (wide_div (b := 1000) (by omega) fd (by decide) (by decide))) (by rw [Int.natCast_ediv])) (fit_mul fn fD)) ⟨_, ?_, rfl⟩)
    unfold tops
    rw [List.getElem?_map, hq]
    rfl
  · refine val_var rfl _ ⟨by show 2 ≤ sizeLine; decide, fun p2 hp2 => ?_⟩
    have s3 := Same.new' (o := .tup [.ref p, .int (D : Int)]) hp2
    refine k p2 p D _ ((s1.trans s2).trans s3) d0 dl dd upd_same ?_
    rw [al.len] at r2
    rw [← rows_map r2 (by unfold tops; rw [List.length_map])]
    exact s3 _ _ e2

/-! ### rows without zeros at their end -/
def tlen : List Rat → Nat
  | [] => 0
  | q :: r => if tlen r = 0 then (if q = 0 then 0 else 1) else tlen r + 1
def trim (xs : List Rat) : List Rat := xs.take (tlen xs)
theorem tlen_le : ∀ xs, tlen xs ≤ xs.length
  | [] => Nat.le_refl _
  | q :: r => by
    have := tlen_le r
    rw [tlen, List.length_cons]
    split
    · split <;> omega
    · omega
theorem tlen_of : ∀ {xs : List Rat} {k : Nat}, k ≤ xs.length → (∀ i q, k ≤ i → xs[i]? = some q → q = 0) → (k = 0 ∨ ∃ q, xs[k - 1]? = some q ∧ q ≠ 0) → tlen xs = k
  | [], k, h, _, _ => by
    have : k = 0 := by simpa using h
    rw [this]; rfl
  | q :: r, 0, _, h, _ => by
    have h0 : q = 0 := h 0 q (Nat.le_refl _) rfl
    have hr : tlen r = 0 := tlen_of (Nat.zero_le _) (fun i p _ e => h (i + 1) p (Nat.zero_le _) (by simpa using e)) (.inl rfl)
    rw [tlen, if_pos hr, if_pos h0]
  | q :: r, k + 1, hl, h, hk => by
    obtain ⟨p, e, hp⟩ := hk.resolve_left (by omega)
    have hr : tlen r = k := by
      refine tlen_of (by simpa using hl) (fun i p hi e => h (i + 1) p (by omega) (by simpa using e)) ?_
      rcases Nat.eq_zero_or_pos k with z | z
      · exact .inl z
      · refine .inr ⟨p, ?_, hp⟩
        obtain ⟨j, rfl⟩ : ∃ j, k = j + 1 := ⟨k - 1, by omega⟩
        simpa using e
    rw [tlen, hr]
    rcases Nat.eq_zero_or_pos k with z | z
    · subst z
      have e0 : q = p := by simpa using e
      rw [if_pos rfl, if_neg (by rw [e0]; exact hp)]
    · rw [if_neg (by omega)]
def spTop : Sp := fun vs H Q _ => ∃ (l : Addr) (ns : List Int) (xs : List Rat), vs = [.ref l] ∧ SqL K H l (ns.map V.int) ∧ ns.length ≤ 10000 ∧ All2 (fun n q => n = 0 ↔ q = 0) ns xs ∧ Q (.int ((tlen xs : Int) - 1)) H
theorem ok_top_power (T : Txt K mg) : FnOk P w K mg base CX0 1 (fA mg "top_power") (fDat K (fA mg "top_power")) ["tops"] (spTop (K := K)) := by
  refine T.top_power.F.ok sctop_power (fun vs H Q E h => ?_) (fun cdv A outer s H vs Q E hr h => ?_)
  · obtain ⟨l, ns, xs, rfl, _⟩ := h
    rfl
  obtain ⟨l, ns, xs, rfl, hl, hn, al, k⟩ := h
  refine ⟨_, (pss_cons (ps_set (i := 1) sctop_power.nd rfl (Or.inl rfl) (pe_op op_sub (pe_callB call_len_seq (by rfl) T.len PySem.boot_len (pa_cons (pv 0) pa_nil)) pe_int))
  (pss_cons (ps_while PassesOwn.never (PW.pt (pw_and (pt_cmpR op_ge (pv 1) pe_int (nomark _)) (pw_and1 (pt_cmpR op_eq (pe_ix ix_list (pv 0) (pv 1) (fun _ _ => rfl)) pe_int (nomark _)))))
  (pss_one (ps_set (i := 1) sctop_power.nd rfl (Or.inl rfl) (pe_op op_sub (pv 1) pe_int))))
  (pss_one (ps_ret (pv 1))))), ?_⟩
  refine q_set (v_sub (v_len (xs := ns.map V.int) (val_var rfl) (.inl hl)) val_c) ?_
  rw [List.length_map]
  refine ⟨fun m σ' H' => H' = H ∧ σ' = [some (.ref l), some (.int ((m : Int) - 1))] ∧ m ≤ ns.length ∧ ∀ i q, m ≤ i → xs[i]? = some q → q = 0, ⟨ns.length, rfl, rfl, Nat.le_refl _, fun i q hi e => ?_⟩, fun m σ' H' z => ?_⟩
  · have := (List.getElem?_eq_some_iff.mp e).1
    rw [al.len] at hi
    omega
  · obtain ⟨rfl, rfl, hm, hz⟩ := z
    rcases Nat.eq_zero_or_pos m with m0 | m0
    · subst m0
      refine (a_I (i := ((0 : Nat) : Int) - 1) (j := 0) (val_var rfl) val_c) _ ?_
      refine iteF (iteF ?_)
      have e : tlen xs = 0 := tlen_of (Nat.zero_le _) hz (.inl rfl)
      rw [e] at k
      exact st_ret (val_var rfl) k
    · obtain ⟨j, rfl⟩ : ∃ j, m = j + 1 := ⟨m - 1, by omega⟩
      have ej : ((j + 1 : Nat) : Int) - 1 = (j : Int) := by omega
      rw [ej]
      refine (a_I (i := (j : Int)) (j := 0) (val_var rfl) val_c) _ ?_
      rw [decide_eq_true (by omega : (0 : Int) ≤ (j : Int))]
      refine iteT ?_
      have lj : j < ns.length := by omega
      obtain ⟨q, hq, hiff⟩ := al.get (List.getElem?_eq_getElem lj)
      refine (ans_eq (x := .int ns[j]) (y := .int 0) (b := decide (ns[j] = 0)) (v_ixL (n := j) (v := .int ns[j]) (val_var rfl) (val_var rfl) hl (by rw [List.getElem?_map, List.getElem?_eq_getElem lj]; rfl)) val_c rfl (by simp)) _ ?_
      by_cases h0 : ns[j] = 0
      · rw [decide_eq_true h0]
        refine iteT ⟨fun σ'' H'' => H'' = H' ∧ σ'' = [some (.ref l), some (.int ((j : Int) - 1))], fun σ'' H'' z => ⟨j, by omega, z.1, z.2, by omega, fun i p hi e => ?_⟩, ?_⟩
        · rcases Nat.lt_or_ge j i with lt | ge
          · exact hz i p lt e
          · have : i = j := by omega
            subst this
            rw [hq] at e
            cases e
            exact hiff.mp h0
        · exact (v_sub (val_var rfl) val_c) _ ⟨rfl, rfl⟩
      · rw [decide_eq_false h0]
        refine iteF ?_
        have e : tlen xs = j + 1 := tlen_of (by rw [← al.len]; exact hm) hz (.inr ⟨q, by simpa using hq, fun z => h0 (hiff.mpr z)⟩)
        rw [e, ej] at k
        exact st_ret (val_var rfl) k


/-! ### own classes -/
@[irreducible] def mA (K : PySem.W.Frag) (C : Addr) (m : Str) : Addr := match PySem.W.findIn K (.ref C) m with
  | some (some (.ref f)) => f
  | _ => 0
theorem mA_of {K : PySem.W.Frag} {C f : Addr} {m : Str} (h : PySem.W.findIn K (.ref C) m = some (some (.ref f))) : mA K C m = f := by
  unfold mA
  rw [h]
/-- a def of the class -/
structure Me (K : PySem.W.Frag) (C : Addr) (m qual : Str) (st : Stmt) (ps : List Str) : Prop where
  at_ : PySem.W.findIn K (.ref C) m = some (some (.ref (mA K C m)))
  fn : PySem.W.isFn K (.ref (mA K C m)) = true
  F : Fun K m qual st (mA K C m) (fDat K (mA K C m))
  b : L2.Binds K (fDat K (mA K C m)) ps []
theorem scI_BadRow : FnScope ["self", "row"] ["self", "row"] (defScope (inClass tBadRow 0)) := ⟨rfl, rfl, rfl, by decide +kernel, rfl, by decide +kernel, by decide +kernel⟩
theorem init_BadRow (T : Txt K mg) : FnOk P w K mg base CX0 1 (iA K (fA mg "BadRow")) (fDat K (iA K (fA mg "BadRow"))) ["self", "row"] (spI1 (fA mg "BadRow") "row") := by
  refine T.BadRow.F.ok scI_BadRow (fun vs H Q E h => ?_) (fun cdv A outer s H vs Q E hr h => ?_)
  · obtain ⟨a, v, rfl, _⟩ := h
    rfl
  · obtain ⟨a, v, rfl, ha, k⟩ := h
    exact ⟨_, pss_one (ps_ost (pv 0) (pv 1)), s_ost1 T.BadRow.o (T.BadRow.n _ (by simp)) ha rfl rfl k⟩
theorem x_made1 {σ : L2.St} {H : Hp} {ta : TA} {C : Addr} {f : Str} {v : V} {Q : XK} (h : VA ta σ H [v]) (k : ∀ d H', Same H H' → H d = none → H' d = some (.xd [(f, v)]) → Q (.ref C) (some d) H') : tMkO C (spI1 C f) [] ta σ H Q :=
  h _ ⟨by show 1 ≤ 1000; decide, fun a ha => ⟨a, v, rfl, upd_same, fun dx hd ne => by
    rw [upd_ne ne] at hd
    refine ⟨rfl, dx, _, upd_same, by rw [upd_ne ne, upd_same], hd, k dx _ (fun b o e => ?_) hd upd_same⟩
    have hb : b ≠ a := ne_of_none e ha
    have hb2 : b ≠ dx := ne_of_none e hd
    rw [upd_ne hb2, del_ne hb, upd_ne hb, upd_ne hb2, upd_ne hb]
    exact e⟩⟩
def BadR (mg : Str → Option Value) (H : Hp) (a : Addr) (v : V) (E : XK) : Prop := ∀ (d : Addr) (H' : Hp), (∀ b o, H b = some o → b ≠ a → H' b = some o) → H d = none → H' d = some (.xd [("row", v)]) → E (.ref (fA mg "BadRow")) (some d) H'
def NoRow (H : Hp) (v : V) : Prop := (∃ n, Is H v n ∧ n ≠ "list" ∧ n ≠ "tuple") ∨ ∃ a xs bs, v = .ref a ∧ Sq H a xs ∧ xs.length ≤ 1000 ∧ All2 (RatQ H) xs bs ∧ bs.all id = false
theorem all_true {α : Type} (ws : List α) : ((ws.map fun _ => true).all id) = true := by
  induction ws with
  | nil => rfl
  | cons _ _ ih => simpa using ih
theorem tlen_last : ∀ {xs : List Rat} {k : Nat}, tlen xs = k + 1 → ∃ q, xs[k]? = some q ∧ q ≠ 0
  | [], k, h => by simp [tlen] at h
  | q :: r, k, h => by
    rw [tlen] at h
    split at h
    · split at h
      · omega
      · rename_i hq
        obtain rfl : k = 0 := by omega
        exact ⟨q, rfl, hq⟩
    · obtain ⟨j, rfl⟩ : ∃ j, k = j + 1 := ⟨k - 1, by omega⟩
      obtain ⟨p, e, hp⟩ := tlen_last (xs := r) (k := j) (by omega)
      exact ⟨p, by simpa using e, hp⟩
theorem tlen_zero : ∀ {xs : List Rat} {i : Nat} {q : Rat}, tlen xs ≤ i → xs[i]? = some q → q = 0
  | [], i, q, _, e => by simp at e
  | p :: r, i, q, h, e => by
    rw [tlen] at h
    cases i with
    | zero =>
      split at h
      · split at h
        · rename_i hp
          simp at e
          rw [← e]; exact hp
        · omega
      · omega
    | succ i =>
      refine tlen_zero (xs := r) (i := i) ?_ (by simpa using e)
      split at h
      · omega
      · omega
theorem trim_len (xs : List Rat) : (trim xs).length = tlen xs := by
  unfold trim
  rw [List.length_take]
  have := tlen_le xs
  omega
theorem tlen_trim (xs : List Rat) : tlen (trim xs) = (trim xs).length := by
  refine tlen_of (Nat.le_refl _) (fun i q hi e => ?_) ?_
  · have := (List.getElem?_eq_some_iff.mp e).1
    omega
  · rw [trim_len]
    rcases Nat.eq_zero_or_pos (tlen xs) with z | z
    · exact .inl z
    · obtain ⟨k, hk⟩ : ∃ k, tlen xs = k + 1 := ⟨tlen xs - 1, by omega⟩
      obtain ⟨q, e, hq⟩ := tlen_last hk
      refine .inr ⟨q, ?_, hq⟩
      unfold trim
      rw [hk, Nat.add_sub_cancel, List.getElem?_take, if_pos (Nat.lt_succ_self k)]
      exact e
/-- the number at a power -/
def co (xs : List Rat) (i : Nat) : Rat := xs.getD i 0
theorem co_some {xs : List Rat} {i : Nat} {q : Rat} (h : xs[i]? = some q) : co xs i = q := by
  unfold co
  rw [List.getD_eq_getElem?_getD, h]
  rfl
theorem co_none {xs : List Rat} {i : Nat} (h : xs.length ≤ i) : co xs i = 0 := by
  unfold co
  rw [List.getD_eq_getElem?_getD, List.getElem?_eq_none_iff.mpr h]
  rfl
theorem co_trim (xs : List Rat) (i : Nat) : co (trim xs) i = co xs i := by
  rcases Nat.lt_or_ge i (tlen xs) with lt | ge
  · have l := tlen_le xs
    have e : xs[i]? = some xs[i] := List.getElem?_eq_getElem (by omega)
    rw [co_some e]
    refine co_some ?_
    unfold trim
    rw [List.getElem?_take, if_pos lt, e]
  · rw [co_none (by rw [trim_len]; exact ge)]
    rcases Nat.lt_or_ge i xs.length with h | h
    · have e : xs[i]? = some xs[i] := List.getElem?_eq_getElem h
      rw [co_some e]
      exact (tlen_zero ge e).symm
    · rw [co_none h]
/-- two trimmed rows with the same numbers are one -/
theorem eq_of_co {xs ys : List Rat} (hx : tlen xs = xs.length) (hy : tlen ys = ys.length) (h : ∀ i, co xs i = co ys i) : xs = ys := by
  have le : ∀ {xs ys : List Rat}, tlen xs = xs.length → (∀ i, co xs i = co ys i) → xs.length ≤ ys.length := fun {xs ys} hx h => by
    rcases Nat.lt_or_ge ys.length xs.length with lt | ge
    · obtain ⟨k, hk⟩ : ∃ k, tlen xs = k + 1 := ⟨tlen xs - 1, by omega⟩
      obtain ⟨q, e, hq⟩ := tlen_last hk
      have h1 := h k
      rw [co_some e, co_none (by omega)] at h1
      exact (hq h1).elim
    · exact ge
  have hl : xs.length = ys.length := Nat.le_antisymm (le hx h) (le hy fun i => (h i).symm)
  refine List.ext_getElem hl fun i h1 h2 => ?_
  have := h i
  rw [co_some (List.getElem?_eq_getElem h1), co_some (List.getElem?_eq_getElem h2)] at this
  exact this
/-- the numbers f 0 .. f (n - 1), trimmed -/
def ofN (n : Nat) (f : Nat → Rat) : List Rat := trim ((List.range n).map f)
theorem co_ofN {n : Nat} {f : Nat → Rat} (i : Nat) : co (ofN n f) i = if i < n then f i else 0 := by
  unfold ofN
  rw [co_trim]
  split
  · rename_i h
    exact co_some (by rw [List.getElem?_map, List.getElem?_range h]; rfl)
  · exact co_none (by rw [List.length_map, List.length_range]; omega)
theorem tlen_ofN {n : Nat} {f : Nat → Rat} : tlen (ofN n f) = (ofN n f).length := tlen_trim _
/-! ### sizes -/
theorem Sm.div {i j : Int} {n : Nat} (hj : 0 < j) (h1 : i.natAbs < 2 ^ n) (h2 : j.natAbs < 2 ^ n) : Sm n (Rat.divInt i j) := by
  have l := low_rat i hj
  have p := low_pos i hj
  constructor
  · rw [← l.1]
    exact Nat.lt_of_le_of_lt (low_abs i) h1
  · have : ((Rat.divInt i j).den : Int) ≤ j := by rw [← l.2]; exact p.2
    omega
theorem Sm.add {n m : Nat} {q r : Rat} (h : Sm n q) (k : Sm m r) : Sm (n + m + 1) (q + r) := by
  have e : q + r = Rat.divInt (q.num * r.den + r.num * q.den) (q.den * r.den) := by rw [Rat.add_def', ← Rat.divInt_ofNat, Int.natCast_mul]
  rw [e]
  have p : (2 : Nat) ^ (n + m + 1) = 2 ^ n * 2 ^ m + 2 ^ m * 2 ^ n := by rw [Nat.pow_succ, Nat.pow_add, Nat.mul_comm (2 ^ m)]; omega
  have dq := q.den_pos
  have dr := r.den_pos
  refine Sm.div (Int.mul_pos (by omega) (by omega)) ?_ ?_
  · rw [p]
    refine Nat.lt_of_le_of_lt (Int.natAbs_add_le _ _) (Nat.add_lt_add ?_ ?_)
    · rw [Int.natAbs_mul, Int.natAbs_natCast]
      exact Nat.mul_lt_mul'' h.1 k.2
    · rw [Int.natAbs_mul, Int.natAbs_natCast]
      exact Nat.mul_lt_mul'' k.1 h.2
  · rw [Int.natAbs_mul, Int.natAbs_natCast, Int.natAbs_natCast, p]
    have := Nat.mul_lt_mul'' h.2 k.2
    omega
theorem Sm.mul {n m : Nat} {q r : Rat} (h : Sm n q) (k : Sm m r) : Sm (n + m) (q * r) := by
  have e : q * r = Rat.divInt (q.num * r.num) (q.den * r.den) := by rw [Rat.mul_def', ← Rat.divInt_ofNat, Int.natCast_mul]
  rw [e]
  have dq := q.den_pos
  have dr := r.den_pos
  refine Sm.div (Int.mul_pos (by omega) (by omega)) ?_ ?_
  · rw [Int.natAbs_mul, Nat.pow_add]
    exact Nat.mul_lt_mul'' h.1 k.1
  · rw [Int.natAbs_mul, Int.natAbs_natCast, Int.natAbs_natCast, Nat.pow_add]
    exact Nat.mul_lt_mul'' h.2 k.2
theorem Sm.zero {n : Nat} (h : 1 ≤ n) : Sm n 0 := ⟨Nat.two_pow_pos _, Nat.one_lt_two_pow (by omega)⟩
theorem Sms.co {n : Nat} {xs : List Rat} (h : Sms n xs) (h1 : 1 ≤ n) (i : Nat) : Sm n (LW.co xs i) := by
  rcases Nat.lt_or_ge i xs.length with lt | ge
  · have e : xs[i]? = some xs[i] := List.getElem?_eq_getElem lt
    rw [co_some e]
    exact h _ (get_mem e)
  · rw [co_none ge]
    exact Sm.zero h1
/-! ### a ratio beside a polynomial -/
theorem kit_self (K : PySem.W.Frag) (C : Addr) : PySem.W.kitOne K (.ref C) (.ref C) = some true := by
  unfold PySem.W.kitOne
  rw [if_pos (beq_self_eq_true _)]
theorem v_isO {σ : L2.St} {H : Hp} {te : TE} {v : V} {t : Value} {C : Addr} {b : Bool} (h : Val te σ H v) (ty : TyX K H v t) (k : PySem.W.kitOne K t (.ref C) = some b) : Val (tCB (rIsi K) (tCons te (tCons (tC (.ref C)) tNil))) σ H (.bl b) :=
  v_cb (va_cons h (va_cons val_c va_nil)) fun Q q => ⟨v, _, _, _, b, rfl, .own C, ty, k, q⟩
theorem v_lenL {σ : L2.St} {H : Hp} {te : TE} {t : Addr} {xs : List Rat} (h : Val te σ H (.ref t)) (l : Los H t xs) : Val (tCB (fun xs H Q => ∃ p ys, xs = [.ref p] ∧ (SqL K H p ys ∨ SqT K H p ys) ∧ Q (.int ys.length) H) (tCons te tNil)) σ H (.int (xs.length : Int)) := by
  obtain ⟨vs, e, al⟩ := l
  rw [← al.len]
  exact v_len h (.inr (SqT.of e))
theorem lo_offR (f : Nat → Rat) : Off (fun i v H => ∃ p, v = V.ref p ∧ Lo H p (f i)) := fun k v H D ys zs h e => by
  obtain ⟨p, h1, lo⟩ := h
  refine ⟨p, h1, ?_⟩
  unfold Lo at lo ⊢
  rw [upd_ne (fun z => by rw [z, e] at lo; cases lo)]
  exact lo
/-! ### places -/
inductive PlQ (H : Hp) : V → Bool → Prop
  | odd {v : V} {n : String} (h : Is H v n) (n1 : n ≠ "list") (n2 : n ≠ "tuple") : PlQ H v false
  | seq {a : Addr} {xs : List V} {bs : List Bool} (h : Sq H a xs) (l : xs.length ≤ 1000) (r : All2 (RatQ H) xs bs) : PlQ H (.ref a) (bs.all id && decide (xs.length = 2))
theorem PlQ.same {H H' : Hp} {v : V} {b : Bool} (h : PlQ H v b) (s : L2.Same H H') : PlQ H' v b := by
  cases h with
  | odd h n1 n2 => exact .odd (h.same s) n1 n2
  | seq h l r => exact .seq (h.same s) l (r.imp fun _ _ q => q.same s)
def spRow2 : Sp := fun vs H Q _ => ∃ (v : V) (b : Bool), vs = [v, .int 2] ∧ PlQ H v b ∧ ∀ H', L2.Same H H' → Q (.bl b) H'
theorem ok_is_row_of (T : Txt K mg) : FnOk P w K mg base CX0 6 (fA mg "is_row_of") (fDat K (fA mg "is_row_of")) ["value", "many"] spRow2 := by
  have Gis_row := ok_is_row (P := P) (w := w) (base := base) T
  refine T.is_row_of.F.ok scis_row_of (fun vs H Q E h => ?_) (fun cdv A outer s H vs Q E hr h => ?_)
  · obtain ⟨v, b, rfl, _⟩ := h
    rfl
  obtain ⟨v, b, rfl, hR, k⟩ := h
  refine ⟨_, (pss_one (ps_ret (pe_and (pe_c T.is_row Gis_row (hr.mono (by decide)) (pa_cons (pv 0) pa_nil)) (pe_one (pe_cmpR op_eq (pe_callB call_len_seq (by rfl) T.len PySem.boot_len (pa_cons (pv 0) pa_nil)) (pv 1) (nomark _)))))), ?_⟩
  refine r_ret ?_
  cases hR with
  | odd h n1 n2 => exact c_call (va_cons (val_var rfl) va_nil) ⟨_, rfl, .inl ⟨_, h, n1, n2, fun H1 s1 => ⟨_, rfl, iteF (k H1 s1)⟩⟩⟩
  | @seq a xs bs h l r =>
    refine c_call (va_cons (val_var rfl) va_nil) ⟨_, rfl, .inr ⟨_, _, _, rfl, h, l, r, fun H1 s1 => ⟨_, rfl, ?_⟩⟩⟩
    cases hb : bs.all id with
    | false =>
      rw [hb] at k
      exact iteF (k H1 s1)
    | true =>
      rw [hb] at k
      refine iteT ((v_eq (v_len (val_var rfl) (h.same s1).sq) (val_var rfl) rfl) _ ?_)
      have e : decide ((V.int (xs.length : Int)) = V.int 2) = (true && decide (xs.length = 2)) := by
        rw [Bool.true_and]
        refine decide_eq_decide.mpr ⟨fun z => ?_, fun z => by rw [z]; rfl⟩
        have := V.int.inj z
        omega
      rw [e]
      exact k H1 s1
def spPl : Sp := fun vs H Q _ => ∃ (v : V) (b : Bool), vs = [v] ∧ PlQ H v b ∧ ∀ H', L2.Same H H' → Q (.bl b) H'
theorem ok_is_place (T : Txt K mg) : FnOk P w K mg base CX0 7 (fA mg "is_place") (fDat K (fA mg "is_place")) ["value"] spPl := by
  have Gis_row_of := ok_is_row_of (P := P) (w := w) (base := base) T
  refine T.is_place.F.ok scis_place (fun vs H Q E h => ?_) (fun cdv A outer s H vs Q E hr h => ?_)
  · obtain ⟨v, b, rfl, _⟩ := h
    rfl
  obtain ⟨v, b, rfl, hR, k⟩ := h
  refine ⟨_, (pss_one (ps_ret (pe_c T.is_row_of Gis_row_of (hr.mono (by decide)) (pa_cons (pv 0) (pa_cons pe_int pa_nil))))), ?_⟩
  exact r_ret (c_call (va_cons (val_var rfl) (va_cons val_c va_nil)) ⟨_, _, rfl, hR, k⟩)
/-- a place as passed, and as told -/
def PlR (H : Hp) (v : V) (p : Rat × Rat) : Prop := ∃ a x y, v = .ref a ∧ Sq H a [x, y] ∧ Rq H x p.1 ∧ Rq H y p.2
def PlL (H : Hp) (v : V) (p : Rat × Rat) : Prop := ∃ a x y, v = .ref a ∧ H a = some (.tup [.ref x, .ref y]) ∧ Lo H x p.1 ∧ Lo H y p.2
theorem PlR.same {H H' : Hp} {v : V} {p : Rat × Rat} (h : PlR H v p) (s : L2.Same H H') : PlR H' v p := by
  obtain ⟨a, x, y, e, q, r1, r2⟩ := h
  exact ⟨a, x, y, e, q.same s, r1.same s, r2.same s⟩
theorem PlR.yes {H : Hp} {v : V} {p : Rat × Rat} (h : PlR H v p) : PlQ H v true := by
  obtain ⟨a, x, y, rfl, q, r1, r2⟩ := h
  exact .seq q (by show 2 ≤ 1000; decide) (.cons r1.yes (.cons r2.yes .nil))
def spPair : Sp := fun vs H Q _ => ∃ (v : V) (q : Rat), vs = [v] ∧ Rq H v q ∧ ∀ p H', L2.Same H H' → Lo H' p q → Q (.ref p) H'
theorem ok_pair_of (T : Txt K mg) : FnOk P w K mg base (L2.CX P w) 7 (fA mg "pair_of") (fDat K (fA mg "pair_of")) ["value"] spPair := by
  have Gtold := ok_told (P := P) (w := w) (base := base) T
  refine T.pair_of.F.okX scpair_of (fun vs H Q E h => ?_) (fun cdv A outer s H vs Q E hr h => ?_)
  · obtain ⟨v, q, rfl, _⟩ := h
    rfl
  obtain ⟨v, q, rfl, r, k⟩ := h
  refine ⟨_, (pss_one (ps_ret (pe_call Gtold (hr.mono (by decide)) (by rfl) T.told.g T.told.F.kp T.told.b .nil (passes_call (takes_of rfl rfl rfl rfl) (fun _ _ _ _ h => h)) (pa_cons (pv 0) (pa_cons pe_str pa_nil))))), ?_⟩
  exact r_ret (c_told (va_cons (val_var rfl) (va_cons val_c va_nil)) r k)
def spPlace : Sp := fun vs H Q _ => ∃ (v : V) (p : Rat × Rat), vs = [v] ∧ PlR H v p ∧ ∀ v' H', L2.Same H H' → PlL H' v' p → (∀ a, v' = .ref a → H a = none) → Q v' H'
theorem ok_place_of (T : Txt K mg) : FnOk P w K mg base (L2.CX P w) 8 (fA mg "place_of") (fDat K (fA mg "place_of")) ["value"] spPlace := by
  have Gpair_of := ok_pair_of (P := P) (w := w) (base := base) T
  refine T.place_of.F.okX scplace_of (fun vs H Q E h => ?_) (fun cdv A outer s H vs Q E hr h => ?_)
  · obtain ⟨v, p, rfl, _⟩ := h
    rfl
  obtain ⟨v, p, rfl, ⟨a, x, y, rfl, q, r1, r2⟩, k⟩ := h
  refine ⟨_, (pss_one (ps_ret (pe_tup (pa_cons (pe_call Gpair_of (hr.mono (by decide)) (by rfl) T.pair_of.g T.pair_of.F.kp T.pair_of.b .nil (passes_call (takes_of rfl rfl rfl rfl) (fun _ _ _ _ h => h)) (pa_cons (pe_ix ix_seq (pv 0) pe_int (fun _ _ => rfl)) pa_nil)) (pa_cons (pe_call Gpair_of (hr.mono (by decide)) (by rfl) T.pair_of.g T.pair_of.F.kp T.pair_of.b .nil (passes_call (takes_of rfl rfl rfl rfl) (fun _ _ _ _ h => h)) (pa_cons (pe_ix ix_seq (pv 0) pe_int (fun _ _ => rfl)) pa_nil)) pa_nil))))), ?_⟩
  refine r_ret (tup_two (c_call (va_cons (v_ixS (n := 0) (val_var rfl) val_c q rfl) va_nil) ⟨x, p.1, rfl, r1, fun p1 H1 s1 l1 => ?_⟩))
  refine c_call (va_cons (v_ixS (n := 1) (val_var rfl) val_c (q.same s1) rfl) va_nil) ⟨y, p.2, rfl, r2.same s1, fun p2 H2 s2 l2 => ⟨by show 2 ≤ sizeLine; decide, fun t ht => ?_⟩⟩
  have s3 := Same.new' (o := .tup [.ref p1, .ref p2]) ht
  exact k _ _ ((s1.trans s2).trans s3) ⟨t, p1, p2, rfl, upd_same, (l1.same s2).same s3, l2.same s3⟩ fun a e => by
    cases e
    exact none_of (s1.trans s2) ht
end
end LW

/-! any(xs) of a list of ints. -/
namespace L2
open PySem PySem.Spec PyProof.Rows
section
variable {X : Cx}
end
end L2

namespace LW
open PySem PySem.Spec PyProof.Rows L2 GL
section
variable {P : Program} {w : World} {K : PySem.W.Frag} {mg : Str → Option Value} {base : Heap}
theorem t_op {r : L2.R2} {ta tb : TE} {σ : L2.St} {H : Hp} {K' : Bool → Hp → Prop} (h : ta σ H fun x H1 => tb σ H1 fun y H2 => r x y H2 fun z H3 => ∃ b, z = .bl b ∧ K' b H3) : tTest (tOp r ta tb) σ H K' := h
theorem op_in {r : L2.R2} {ta tb : TE} {σ : L2.St} {H : Hp} {Q : VK} (h : ta σ H fun x H1 => tb σ H1 fun y H2 => r x y H2 Q) : tOp r ta tb σ H Q := h
theorem q_un {t : TT} {t1 tz : TS} {D : Ends} {σ : L2.St} {H : Hp} (h : t σ H fun b H1 => if b = true then t1 { D with nx := tz D } σ H1 else tz D σ H1) : tSeq (tIfS t t1 tNext) tz D σ H := h
def relS (scope sc : Scope) : Scope := { scope with names := scope.names.map fun (n, k) => if (k == NameKind.free && sc.kind == .function && sc.names.lookup n == some .cell) then (n, NameKind.cell) else (n, k) }
theorem blkOk_in {N : List Str} {o scope : Scope} {own : List (Str × Nat)} {cl : List (Str × Addr)} {C : Addr} {env : Env} (sc : Scope) (e : env.scope = sc) (h : blkC N (relS o sc) scope own = true) : BlkOk N (compEnvC o cl C env).scope scope own := by
  subst e
  exact blkOk_by h

/-! ### the class Plane -/
abbrev pnA (mg : Str → Option Value) : Addr := fA mg "Plane"
structure PlaneT (K : PySem.W.Frag) (mg : Str → Option Value) : Prop where
  g : mg "Plane" = some (.ref (pnA mg))
  cls : Cls K (pnA mg)
  mkc : Mk K (pnA mg) (mA K (pnA mg) "__init__")
  no : NoAttr K (pnA mg) "rows"
  m_init : Me K (pnA mg) "__init__" "Plane.__init__" (inClass tPlane 0) ["self", "rows"]
  m_eq : Me K (pnA mg) "__eq__" "Plane.__eq__" (inClass tPlane 1) ["self", "other"]
  m_add : Me K (pnA mg) "__add__" "Plane.__add__" (inClass tPlane 2) ["self", "other"]
  m_radd : Me K (pnA mg) "__radd__" "Plane.__radd__" (inClass tPlane 3) ["self", "other"]
  m_sub : Me K (pnA mg) "__sub__" "Plane.__sub__" (inClass tPlane 4) ["self", "other"]
  m_rsub : Me K (pnA mg) "__rsub__" "Plane.__rsub__" (inClass tPlane 5) ["self", "other"]
  m_mul : Me K (pnA mg) "__mul__" "Plane.__mul__" (inClass tPlane 6) ["self", "other"]
  m_rmul : Me K (pnA mg) "__rmul__" "Plane.__rmul__" (inClass tPlane 7) ["self", "other"]
  m_neg : Me K (pnA mg) "__neg__" "Plane.__neg__" (inClass tPlane 8) ["self"]
  m_degree : Me K (pnA mg) "degree" "Plane.degree" (inClass tPlane 9) ["self"]
  m_at : Me K (pnA mg) "at" "Plane.at" (inClass tPlane 10) ["self", "point"]
  m_slope_x : Me K (pnA mg) "slope_x" "Plane.slope_x" (inClass tPlane 11) ["self"]
  m_slope_y : Me K (pnA mg) "slope_y" "Plane.slope_y" (inClass tPlane 12) ["self"]
  m_along : Me K (pnA mg) "along" "Plane.along" (inClass tPlane 13) ["self", "start", "step"]
  m_moved : Me K (pnA mg) "moved" "Plane.moved" (inClass tPlane 14) ["self", "matrix", "shift"]
  me : PySem.W.selfFirst K (pnA mg) = true
  hc : PySem.W.findIn K (.ref (pnA mg)) "__class__" = some (some (.builtin "object.__class__"))
  hn : PySem.W.specialIn K (.builtin "object.__class__") "__get__" = some (some (.builtin "getset_descriptor.__get__"))
  ht : PySem.W.takesIn K (.builtin "object.__class__") = some true
  hm : PySem.W.mroIn K (pnA mg) (.type "object") = some true
  kf : ∀ T : String, T = "int" ∨ T = "tuple" → PySem.W.kitOne K (.type T) (.ref (pnA mg)) = some false
  subT : ∀ T : String, T = "int" ∨ T = "tuple" → PySem.W.subIn K (.type T) (.ref (pnA mg)) = some false
  kl : PySem.W.kitOne K (.ref (pnA mg)) (.type "list") = some false
  subC : ∀ T : String, T = "int" ∨ T = "tuple" → PySem.W.subIn K (.ref (pnA mg)) (.type T) = some false
  lr : ∀ op : Operator, op = .Add ∨ op = .Sub ∨ op = .Mult → (∃ fo ro, PySem.W.findIn K (.type "int") (PySem.dunder op.info.2) = some fo ∧ PySem.W.findIn K (.type "int") (dunderR op.info.2) = some ro ∧ ((fo.isSome && !isSeqSlot fo) || (ro.isSome && !isSeqSlot ro)) = true) ∧
    ∃ fo ro, PySem.W.findIn K (.type "tuple") (PySem.dunder op.info.2) = some fo ∧ PySem.W.findIn K (.type "tuple") (dunderR op.info.2) = some ro ∧ ((fo.isSome && !isSeqSlot fo) || (ro.isSome && !isSeqSlot ro)) = false
abbrev sPlane_init : Stmt := (inClass tPlane 0)
theorem scPlane_init : FnScope ["self", "rows", "shortened", "number", "row", "many"] ["self", "rows"] (defScope sPlane_init) := ⟨rfl, rfl, rfl, by decide +kernel, rfl, by decide +kernel, by decide +kernel⟩
abbrev sPlane_degree : Stmt := (inClass tPlane 9)
theorem scPlane_degree : FnScope ["self", "i", "row"] ["self"] (defScope sPlane_degree) := ⟨rfl, rfl, rfl, by decide +kernel, rfl, by decide +kernel, by decide +kernel⟩
abbrev sPlane_at : Stmt := (inClass tPlane 10)
theorem scPlane_at : FnScope ["self", "point", "rows", "below", "x", "y", "bottom", "wide", "row", "inner"] ["self", "point"] (defScope sPlane_at) := ⟨rfl, rfl, rfl, by decide +kernel, rfl, by decide +kernel, by decide +kernel⟩
abbrev sPlane_moved : Stmt := (inClass tPlane 14)
theorem scPlane_moved : FnScope ["self", "matrix", "shift", "parts", "number", "a", "b", "c", "d", "e", "f", "bottom", "rows", "below", "numbers", "scale"] ["self", "matrix", "shift"] (defScope sPlane_moved) := ⟨rfl, rfl, rfl, by decide +kernel, rfl, by decide +kernel, by decide +kernel⟩

/-! ### rows of rows: two letters -/
def rowAt (R : List (List Rat)) (i : Nat) : List Rat := R[i]?.getD []
def cf2 (R : List (List Rat)) (i j : Nat) : Rat := co (rowAt R i) j
theorem rowAt_some {R : List (List Rat)} {i : Nat} {r : List Rat} (h : R[i]? = some r) : rowAt R i = r := by
  unfold rowAt; rw [h]; rfl
theorem rowAt_none {R : List (List Rat)} {i : Nat} (h : R.length ≤ i) : rowAt R i = [] := by
  unfold rowAt; rw [List.getElem?_eq_none h]; rfl
def lens (R : List (List Rat)) : List Rat := R.map fun r => ((r.length : Nat) : Rat)
def plen (R : List (List Rat)) : Nat := tlen (lens (R.map trim))
def planeR (R : List (List Rat)) : List (List Rat) := (R.map trim).take (plen R)
structure Can (R : List (List Rat)) : Prop where
  row : ∀ r ∈ R, tlen r = r.length
  top : tlen (lens R) = R.length
theorem nat_zero {n : Nat} : ((n : Nat) : Rat) = 0 ↔ n = 0 := by
  constructor
  · intro h
    have h2 := congrArg Rat.num h
    rw [show (((n : Nat) : Rat)).num = (n : Int) from Rat.num_natCast n] at h2
    exact Int.ofNat.inj h2
  · rintro rfl; rfl
theorem lens_take (R : List (List Rat)) (k : Nat) : lens (R.take k) = (lens R).take k := by
  unfold lens
  rw [List.map_take]
theorem can_planeR (R : List (List Rat)) : Can (planeR R) := by
  refine ⟨fun r hr => ?_, ?_⟩
  · obtain ⟨s, _, rfl⟩ := List.mem_map.mp (List.mem_of_mem_take hr)
    exact tlen_trim s
  · unfold planeR
    rw [lens_take]
    refine (tlen_trim (lens (R.map trim))).trans ?_
    rw [trim_len, List.length_take]
    have l := tlen_le (lens (R.map trim))
    unfold plen
    unfold lens at l ⊢
    rw [List.length_map] at l
    omega
theorem cf2_planeR (R : List (List Rat)) (i j : Nat) : cf2 (planeR R) i j = cf2 R i j := by
  unfold cf2
  rcases Nat.lt_or_ge i R.length with lt | ge
  · have e : R[i]? = some R[i] := List.getElem?_eq_getElem lt
    rw [rowAt_some e]
    have em : (R.map trim)[i]? = some (trim R[i]) := by rw [List.getElem?_map, e]; rfl
    rcases Nat.lt_or_ge i (plen R) with h | h
    · rw [rowAt_some (r := trim R[i]) (by unfold planeR; rw [List.getElem?_take, if_pos h, em]), co_trim]
    · rw [rowAt_none (by unfold planeR; rw [List.length_take]; omega)]
      have z : (((trim R[i]).length : Nat) : Rat) = 0 := tlen_zero (xs := lens (R.map trim)) (i := i) h (by unfold lens; rw [List.getElem?_map, em]; rfl)
      have z2 := nat_zero.mp z
      rw [← co_trim R[i], List.length_eq_zero_iff.mp z2]
  · rw [rowAt_none ge, rowAt_none (by unfold planeR; rw [List.length_take, List.length_map]; omega)]
/-- as many rows at most, each as long at most -/
def Wd (a b : Nat) (R : List (List Rat)) : Prop := R.length ≤ a ∧ ∀ r ∈ R, r.length ≤ b
theorem Wd.row {a b : Nat} {R : List (List Rat)} (h : Wd a b R) (i : Nat) : (rowAt R i).length ≤ b := by
  rcases Nat.lt_or_ge i R.length with lt | ge
  · rw [rowAt_some (List.getElem?_eq_getElem lt)]
    exact h.2 _ (List.getElem_mem lt)
  · rw [rowAt_none ge]
    exact Nat.zero_le _
/-! ### rows of rows as values -/
/-- a tuple of tuples of told ratios -/
def Lss (H : Hp) (t : Addr) (R : List (List Rat)) : Prop := ∃ vs, H t = some (.tup vs) ∧ All2 (fun v r => ∃ p, v = .ref p ∧ Los H p r) vs R
theorem Lss.same {H H' : Hp} {t : Addr} {R : List (List Rat)} (h : Lss H t R) (s : L2.Same H H') : Lss H' t R := by
  obtain ⟨vs, e, a⟩ := h
  exact ⟨vs, s _ _ e, a.imp fun v q ⟨p, e, l⟩ => ⟨p, e, l.same s⟩⟩
/-- a row as passed -/
def RowR (H : Hp) (v : V) (r : List Rat) : Prop := ∃ n us, v = .ref n ∧ Sq H n us ∧ us.length ≤ 1000 ∧ All2 (Rq H) us r
theorem RowR.same {H H' : Hp} {v : V} {r : List Rat} (h : RowR H v r) (s : L2.Same H H') : RowR H' v r := by
  obtain ⟨n, us, e, q, l, a⟩ := h
  exact ⟨n, us, e, q.same s, l, a.imp fun _ _ z => z.same s⟩
/-- what is_row answers -/
def RowQ (H : Hp) (v : V) (b : Bool) : Prop := (∃ n, Is H v n ∧ n ≠ "list" ∧ n ≠ "tuple" ∧ b = false) ∨ ∃ a xs bs, v = .ref a ∧ Sq H a xs ∧ xs.length ≤ 1000 ∧ All2 (RatQ H) xs bs ∧ b = bs.all id
theorem RowQ.same {H H' : Hp} {v : V} {b : Bool} (h : RowQ H v b) (s : L2.Same H H') : RowQ H' v b := by
  rcases h with ⟨n, i, a, b, e⟩ | ⟨a, xs, bs, e, q, l, al, z⟩
  · exact .inl ⟨n, i.same s, a, b, e⟩
  · exact .inr ⟨a, xs, bs, e, q.same s, l, al.imp fun _ _ r => r.same s, z⟩
theorem RowR.yes {H : Hp} {v : V} {r : List Rat} (h : RowR H v r) : RowQ H v true := by
  obtain ⟨n, us, e, q, l, a⟩ := h
  refine .inr ⟨n, us, us.map fun _ => true, e, q, l, All2.mk (by rw [List.length_map]) (fun i x b hx hb => ?_), (all_true us).symm⟩
  obtain ⟨z, _, rq⟩ := a.get hx
  rw [List.getElem?_map, hx] at hb
  cases hb
  exact rq.yes
/-- what _are_rows answers: no rows -/
def NoRows (H : Hp) (v : V) : Prop := (∃ n, Is H v n ∧ n ≠ "list" ∧ n ≠ "tuple") ∨ ∃ a ws bs, v = .ref a ∧ Sq H a ws ∧ ws.length ≤ 1000 ∧ All2 (RowQ H) ws bs ∧ bs.all id = false
theorem c_is_row {te : TE} {σ : L2.St} {H : Hp} {v : V} {b : Bool} {Q : VK} {E : XK} (h : Val te σ H v) (r : RowQ H v b) (k : ∀ H', L2.Same H H' → Q (.bl b) H') : tCall (spRow K) [] E (tCons te tNil) σ H Q := by
  refine c_call (va_cons h va_nil) ⟨v, rfl, ?_⟩
  rcases r with ⟨n, i, n1, n2, rfl⟩ | ⟨a, xs, bs, rfl, q, l, al, rfl⟩
  · exact .inl ⟨n, i, n1, n2, k⟩
  · exact .inr ⟨a, xs, bs, rfl, q, l, al, k⟩
def spRows (K : PySem.W.Frag) : Sp := fun vs H Q _ => ∃ v, vs = [v] ∧ ((∃ n, Is H v n ∧ n ≠ "list" ∧ n ≠ "tuple" ∧ ∀ H', Same H H' → Q (.bl false) H') ∨ ∃ a xs bs, v = .ref a ∧ Sq H a xs ∧ xs.length ≤ 1000 ∧ All2 (RowQ H) xs bs ∧ ∀ H', Same H H' → Q (.bl (bs.all id)) H')
theorem ok_are_rows (T : Txt K mg) : FnOk P w K mg base CX0 6 (fA mg "_are_rows") (fDat K (fA mg "_are_rows")) ["value"] (spRows K) := by
  have Gis_row := ok_is_row (P := P) (w := w) (base := base) T
  refine T._are_rows.F.ok sc_are_rows (fun vs H Q E h => ?_) (fun cdv A outer s H vs Q E hr h => ?_)
  · obtain ⟨v, rfl, _⟩ := h
    rfl
  obtain ⟨v, rfl, h⟩ := h
  refine ⟨_, (pss_one (ps_ret (pe_and (pe_callB call_isiT (by rfl) T.isinstance (by decide +kernel) (pa_cons (pv 0) (pa_cons (pe_tup (pa_cons (pe_bltn (v := .ty "tuple") (by rfl) T.tuple (by decide +kernel) rfl) (pa_cons (pe_bltn (v := .ty "list") (by rfl) T.list (by decide +kernel) rfl) pa_nil))) pa_nil))) (pe_one (pe_callB (cr_all rfl) (by rfl) T.all (by decide +kernel) (pa_cons (pe_lc (own := [("row", 1)]) (g := gName 1) (tt := tYes) (by rfl) sc_are_rows.nd (pi_or (pi_list (pv 0)) (pi_tup (pv 0))) (blkOk_by (own := [("row", 1)]) (N := ["value", "row"]) (sc := defScope s_are_rows) (by decide +kernel)) (fun _ _ _ _ _ => pg_name (i := 1) sc_are_rows.nd rfl (Or.inl rfl)) (fun _ _ _ _ _ => pts_nil) (fun _ _ _ _ _ => (pe_c T.is_row Gis_row (hr.mono (by decide)) (pa_cons (pv 1) pa_nil)))) pa_nil)))))), ?_⟩
  have both : ∀ {n : String} {Q' : VK}, Is H v n → (∀ H2, Same H H2 → Q' (.bl (decide (n = "tuple") || decide (n = "list"))) H2) →
      tCB (rIsiT K) (tCons (tVar 0) (tCons (tTup (tCons (tC (.ty "tuple")) (tCons (tC (.ty "list")) tNil))) tNil)) [some v, none] H Q' := fun {n Q'} i q =>
    ⟨v, rfl, ⟨by show 2 ≤ sizeLine; decide, fun p hp => ⟨v, p, [.ty "tuple", .ty "list"], _, [.type "tuple", .type "list"], _, rfl, upd_same, .cons (.ty _) (.cons (.ty _) .nil), (i.same (Same.new' hp)).ty.1, kit_seq (i.ty (K := K)).2, q _ (Same.new' hp)⟩⟩⟩
  refine r_ret ?_
  rcases h with ⟨n, i, n1, n2, k⟩ | ⟨a, xs, bs, rfl, hS, hl, hR, k⟩
  · refine both i fun H2 s2 => ⟨_, rfl, ?_⟩
    rw [decide_eq_false n2, decide_eq_false n1]
    exact iteF (k H2 s2)
  · obtain ⟨n, i, o⟩ := hS.is
    refine both i fun H2 s2 => ⟨_, rfl, ?_⟩
    have e : (decide (n = "tuple") || decide (n = "list")) = true := by rcases o with rfl | rfl <;> decide
    rw [e]
    refine iteT (cb_one ?_)
    refine l_lcS (R := fun i v _ => ∃ b, bs[i]? = some b ∧ v = V.bl b) (fun _ _ _ _ _ h => h) (fun _ _ _ _ _ _ h _ => h) (val_var rfl) (hS.same s2).seq (by omega) (fun i x H3 e s3 => turn_name rfl fun Q q => ?_) (fun p ys H4 s4 e4 r4 => ⟨p, bs, rfl, ?_, k H4 (s2.trans s4)⟩)
    · obtain ⟨b, hb, rb⟩ := hR.get e
      exact c_is_row (val_var rfl) (rb.same (s2.trans s3)) fun H' s' => q _ H' s' ⟨b, hb, rfl⟩
    · rw [← rows_map r4 hR.len.symm]
      exact SqL.of e4


/-! ### a row told -/
def LosL (H : Hp) (l : Addr) (xs : List Rat) : Prop := ∃ vs, H l = some (.lst vs) ∧ All2 (fun v q => ∃ p, v = .ref p ∧ Lo H p q) vs xs
theorem LosL.same {H H' : Hp} {t : Addr} {xs : List Rat} (h : LosL H t xs) (s : L2.Same H H') : LosL H' t xs := by
  obtain ⟨vs, e, a⟩ := h
  exact ⟨vs, s _ _ e, a.imp fun v q ⟨p, e, l⟩ => ⟨p, e, l.same s⟩⟩
theorem call_one {sp : Sp} {L : List V} {E : XK} {te : TE} {σ : L2.St} {H : Hp} {Q : VK} (h : te σ H fun v H1 => sp ([v] ++ L) H1 Q E) : tCall sp L E (tCons te tNil) σ H Q := h
theorem sl_hi {te t : TE} {σ : L2.St} {H : Hp} {Q : VK} {v : V} {r : V → Option Int → Option Int → Hp → VK → Prop} (h : Val te σ H v) (q : t σ H fun x H1 => ∃ i, x = .int i ∧ r v none (some i) H1 Q) : tSl r te tNoPart (tPart t) σ H Q := h _ q
def spShort : Sp := fun vs H Q _ => ∃ (l : Addr) (xs : List Rat), vs = [.ref l] ∧ LosL H l xs ∧ xs.length ≤ 1000 ∧ ∀ t H', L2.Same H H' → Los H' t (trim xs) → Q (.ref t) H'
theorem cut_nat (ys : List V) (k : Nat) (h : k ≤ ys.length) : cutV ys none (some (k : Int)) = ys.take k := by
  unfold cutV
  rw [HT.sIx_none, HT.sIx_nat, List.drop_zero, Nat.sub_zero, Nat.min_eq_left h]
theorem all2_take {α β : Type} {R : α → β → Prop} {as : List α} {bs : List β} (h : All2 R as bs) (k : Nat) : All2 R (as.take k) (bs.take k) :=
  All2.mk (by rw [List.length_take, List.length_take, h.len]) fun i a b ha hb => by
    rw [List.getElem?_take] at ha hb
    split at ha
    · rename_i lt
      rw [if_pos lt] at hb
      obtain ⟨b', e, r⟩ := h.get ha
      rw [hb] at e
      cases e
      exact r
    · cases ha
theorem ok_shortened (T : Txt K mg) : FnOk P w K mg base CX0 2 (fA mg "_shortened") (fDat K (fA mg "_shortened")) ["pairs"] spShort := by
  have Gtop_power := ok_top_power (P := P) (w := w) (base := base) T
  refine T._shortened.F.ok sc_shortened (fun vs H Q E h => ?_) (fun cdv A outer s H vs Q E hr h => ?_)
  · obtain ⟨l, xs, rfl, _⟩ := h
    rfl
  obtain ⟨l, xs, rfl, ⟨ys, e2, al2⟩, hl, k⟩ := h
  refine ⟨_, (pss_one (ps_ret (pe_callTy call_tuple_of (by rfl) T.tuple (by decide +kernel) (pa_cons (pe_slice sl_list (pv 0) po_none (po_some (pe_op op_add (pe_c T.top_power Gtop_power (hr.mono (by decide)) (pa_cons (pe_lc (own := [("top", 1), ("_", 2)]) (g := gTup K 2 (gCons (gName 1) (gCons (gName 2) gNil))) (tt := tYes) (by rfl) sc_shortened.nd (pi_list (pv 0)) (blkOk_by (own := [("top", 1), ("_", 2)]) (N := ["pairs", "top", "_"]) (sc := defScope s_shortened) (by decide +kernel)) (fun _ _ _ _ _ => pg_tup rfl (pgs_cons (pg_name (i := 1) sc_shortened.nd rfl (Or.inl rfl)) (pgs_cons (pg_name (i := 2) sc_shortened.nd rfl (Or.inl rfl)) pgs_nil))) (fun _ _ _ _ _ => pts_nil) (fun _ _ _ _ _ => (pv 1))) pa_nil)) pe_int))) pa_nil)))), ?_⟩
  have ly := al2.len
  have l0 := tlen_le xs
  refine r_ret (cb_one (sl_hi (val_var rfl) (op_in (call_one (l_lcL (K := K) (R := fun i v _ => ∃ b, (xs.map (·.num))[i]? = some b ∧ v = V.int b) (fun _ _ _ _ _ h => h) (fun _ _ _ _ _ _ h _ => h) (val_var rfl) (SqL.of e2) (by omega) (fun i v H3 hv s3 => ?_) (fun l2 ns H3 s3 e3 r3 => ?_))))))
  · obtain ⟨q, hq, p, rfl, lo⟩ := al2.get hv
    exact turn_two (SqT.of (lo.same s3)) rfl (em_val (val_var rfl) ⟨_, by rw [List.getElem?_map, hq]; rfl, rfl⟩)
  rw [ly] at r3
  have en := rows_map r3 (List.length_map _)
  refine ⟨l2, xs.map (·.num), xs, rfl, by rw [← en]; exact SqL.of e3, by rw [List.length_map]; omega, All2.mk (List.length_map _) (fun i a b h1 h2 => ?_), ?_⟩
  · rw [List.getElem?_map, h2] at h1
    cases h1
    exact Rat.num_eq_zero
  refine val_c _ ⟨_, _, rfl, rfl, (tlen xs : Int) - 1 + 1, rfl, l, ys, rfl, SqL.of (s3 _ _ e2), fun p hp => ⟨p, _, rfl, .inl ⟨SqL.of upd_same, fun t ht => ?_⟩⟩⟩
  rw [show ((tlen xs : Int) - 1 + 1) = (tlen xs : Int) by omega, cut_nat ys (tlen xs) (by omega)] at ht ⊢
  have s4 := Same.new' (o := .lst (ys.take (tlen xs))) hp
  have s5 := Same.new' (o := .tup (ys.take (tlen xs))) ht
  refine k t _ ((s3.trans s4).trans s5) ⟨_, upd_same, ?_⟩
  exact (all2_take al2 (tlen xs)).imp fun v q ⟨p, e, lo⟩ => ⟨p, e, ((lo.same s3).same s4).same s5⟩
end
end LW

namespace LW
open PySem PySem.Spec PyProof.Rows L2 GL
section
variable {P : Program} {w : World} {K : PySem.W.Frag} {mg : Str → Option Value} {base : Heap}

/-! ### Plane.__init__ -/
theorem Los.tu {H H' : Hp} {t : Addr} {xs : List Rat} (h : Los H t xs) (s : ∀ b ys, H b = some (.tup ys) → H' b = some (.tup ys)) : Los H' t xs := by
  obtain ⟨vs, e, a⟩ := h
  exact ⟨vs, s _ _ e, a.imp fun v q ⟨p, e, l⟩ => ⟨p, e, s _ _ l⟩⟩
theorem Lss.tu {H H' : Hp} {t : Addr} {R : List (List Rat)} (h : Lss H t R) (s : ∀ b ys, H b = some (.tup ys) → H' b = some (.tup ys)) : Lss H' t R := by
  obtain ⟨vs, e, a⟩ := h
  exact ⟨vs, s _ _ e, a.imp fun v q ⟨p, e, l⟩ => ⟨p, e, l.tu s⟩⟩
theorem tu_lst {H : Hp} {D : Addr} {ys zs : List V} (e : H D = some (.lst ys)) : ∀ b xs, H b = some (.tup xs) → upd H D (.lst zs) b = some (.tup xs) := fun b xs eb => by
  rw [upd_ne (ne_of eb e (by intro z; cases z))]; exact eb
/-- rows as passed -/
def RwsR (H : Hp) (v : V) (R : List (List Rat)) : Prop := ∃ a ws, v = .ref a ∧ Sq H a ws ∧ ws.length ≤ 1000 ∧ All2 (RowR H) ws R
theorem RwsR.same {H H' : Hp} {v : V} {R : List (List Rat)} (h : RwsR H v R) (s : L2.Same H H') : RwsR H' v R := by
  obtain ⟨a, ws, e, q, l, al⟩ := h
  exact ⟨a, ws, e, q.same s, l, al.imp fun _ _ z => z.same s⟩
theorem c_are {te : TE} {σ : L2.St} {H : Hp} {v : V} {Q : VK} {E : XK} (h : Val te σ H v) {R : List (List Rat)} (r : RwsR H v R) (k : ∀ H', L2.Same H H' → Q (.bl true) H') : tCall (spRows K) [] E (tCons te tNil) σ H Q := by
  obtain ⟨a, ws, rfl, q, l, al⟩ := r
  refine c_call (va_cons h va_nil) ⟨_, rfl, .inr ⟨a, ws, ws.map fun _ => true, rfl, q, l, All2.mk (by rw [List.length_map]) (fun i x b hx hb => ?_), fun H' s => by rw [all_true]; exact k H' s⟩⟩
  obtain ⟨z, _, rq⟩ := al.get hx
  rw [List.getElem?_map, hx] at hb
  cases hb
  exact rq.yes
theorem c_areN {te : TE} {σ : L2.St} {H : Hp} {v : V} {Q : VK} {E : XK} (h : Val te σ H v) (r : NoRows H v) (k : ∀ H', L2.Same H H' → Q (.bl false) H') : tCall (spRows K) [] E (tCons te tNil) σ H Q := by
  rcases r with ⟨n, i, a, b⟩ | ⟨a, ws, bs, rfl, q, l, al, z⟩
  · exact c_call (va_cons h va_nil) ⟨_, rfl, .inl ⟨n, i, a, b, k⟩⟩
  · exact c_call (va_cons h va_nil) ⟨_, rfl, .inr ⟨a, ws, bs, rfl, q, l, al, fun H' s => by rw [z]; exact k H' s⟩⟩
def spPInit (mg : Str → Option Value) : Sp := fun vs H Q E => ∃ (a dx : Addr) (v : V), vs = [.ref a, v] ∧ H a = some (.ins (pnA mg) dx []) ∧ ((∃ R, RwsR H v R ∧
    ∀ t H', (∀ b o, H b = some o → b ≠ a → H' b = some o) → H' a = some (.ins (pnA mg) dx [("rows", .ref t)]) → Lss H' t (planeR R) → Q .non H') ∨ (NoRows H v ∧ BadR mg H a v E))
theorem ok_Plane_init (T : Txt K mg) (TP : PlaneT K mg) : FnOk P w K mg base (L2.CX P w) 8 (mA K (pnA mg) "__init__") (fDat K (mA K (pnA mg) "__init__")) ["self", "rows"] (spPInit mg) := by
  have G_are_rows := ok_are_rows (P := P) (w := w) (base := base) T
  have G_shortened := ok_shortened (P := P) (w := w) (base := base) T
  have Gtold := ok_told (P := P) (w := w) (base := base) T
  have Gtop_power := ok_top_power (P := P) (w := w) (base := base) T
  have Gi_BadRow := init_BadRow (P := P) (w := w) (base := base) T
  refine TP.m_init.F.okX scPlane_init (fun vs H Q E h => ?_) (fun cdv A outer s H vs Q E hr h => ?_)
  · obtain ⟨a, dx, v, rfl, _⟩ := h
    rfl
  obtain ⟨a, dx, v, rfl, ha, h⟩ := h
  refine ⟨_, (pss_cons (ps_if (pt_not (pt_val (pe_c T._are_rows G_are_rows (hr.mono (by decide)) (pa_cons (pv 1) pa_nil)))) (pss_one (ps_raise rfl (takes_of rfl rfl rfl rfl) (pmk_oex T.BadRow.o T.BadRow.i T.BadRow.t Gi_BadRow (hr.mono (by decide)) T.BadRow.b .nil pass0 (by rfl) T.BadRow.g (pa_cons (pv 1) pa_nil)))) pss_nil)
  (pss_cons (ps_setLc (i := 2) (own := [("row", 4)]) (g := gName 4) (tt := tYes) (by rfl) scPlane_init.nd rfl rfl (sw_true rfl rfl rfl (by decide +kernel)) (pi_or (pi_list (pv 1)) (pi_tup (pv 1))) (blkOk_by (own := [("row", 4)]) (N := ["self", "rows", "shortened", "number", "row", "many"]) (sc := defScope sPlane_init) (by decide +kernel)) (fun _ _ _ _ _ => pg_name (i := 4) scPlane_init.nd rfl (Or.inl rfl)) (fun _ _ _ _ _ => pts_nil) (fun _ _ _ _ _ => (pe_c T._shortened G_shortened (hr.mono (by decide)) (pa_cons (pe_lc (own := [("number", 3)]) (g := gName 3) (tt := tYes) (by rfl) scPlane_init.nd (show PI _ _ _ (fun σ H R => iList K (tVar 4) σ H R ∨ iTup K (tVar 4) σ H R) from (pi_or (pi_list (pv 4)) (pi_tup (pv 4)))) (blkOk_in (own := [("number", 3)]) (N := ["self", "rows", "shortened", "number", "row", "many"]) (defScope sPlane_init) rfl (by decide +kernel)) (fun _ _ _ _ _ => pg_name (i := 3) scPlane_init.nd rfl (Or.inl rfl)) (fun _ _ _ _ _ => pts_nil) (fun _ _ _ _ _ => (pe_call Gtold (hr.mono (by decide)) (by rfl) T.told.g T.told.F.kp T.told.b .nil passL (pa_cons (pv 3) (pa_cons pe_str pa_nil))))) pa_nil))))
  (pss_cons (ps_set (i := 5) scPlane_init.nd rfl (Or.inl rfl) (pe_op op_add (pe_c T.top_power Gtop_power (hr.mono (by decide)) (pa_cons (pe_lc (own := [("row", 4)]) (g := gName 4) (tt := tYes) (by rfl) scPlane_init.nd (pi_list (pv 2)) (blkOk_by (own := [("row", 4)]) (N := ["self", "rows", "shortened", "number", "row", "many"]) (sc := defScope sPlane_init) (by decide +kernel)) (fun _ _ _ _ _ => pg_name (i := 4) scPlane_init.nd rfl (Or.inl rfl)) (fun _ _ _ _ _ => pts_nil) (fun _ _ _ _ _ => (pe_callB (show CallR _ (.builtin "len") (fun xs H Q => ∃ p ys, xs = [.ref p] ∧ (SqL K H p ys ∨ SqT K H p ys) ∧ Q (.int ys.length) H) from call_len_seq) (by rfl) T.len PySem.boot_len (pa_cons (pv 4) pa_nil)))) pa_nil)) pe_int))
  (pss_one (ps_fld (pv 0) (pe_callTy call_tuple_of (by rfl) T.tuple (by decide +kernel) (pa_cons (pe_slice sl_list (pv 2) po_none (po_some (pv 5))) pa_nil)) (by rfl)))))), ?_⟩
  rcases h with ⟨R, rR, k⟩ | ⟨h, b⟩
  · refine q_ifNot (c_are (val_var rfl) rR fun H1 s1 => ⟨_, rfl, ?_⟩)
    refine iteF ?_
    obtain ⟨n, ws, rfl, sq, hl, al⟩ := rR.same s1
    have lR := al.len
    refine q_asg (l_lcS (R := fun i v H => ∃ r p, R[i]? = some r ∧ v = V.ref p ∧ Los H p (trim r)) (fun i v H1 H2 s ⟨r, p, h1, h2, lo⟩ => ⟨r, p, h1, h2, lo.same s⟩) (fun i v H D ys zs ⟨r, p, h1, h2, lo⟩ e => ⟨r, p, h1, h2, lo.tu (tu_lst e)⟩) (val_var rfl) sq.seq (by omega) (fun i x H2 hx s2 => turn_name rfl fun Q q => ?_) (fun l ys H2 s2 e2 r2 => ?_))
    · obtain ⟨r, hr, n2, us, rfl, sq2, l2, al2⟩ := al.get hx
      refine call_one (l_lcS (R := fun i v H => ∃ q p, r[i]? = some q ∧ v = V.ref p ∧ Lo H p q) (fun i v H1 H2 s ⟨q, p, h1, h2, lo⟩ => ⟨q, p, h1, h2, lo.same s⟩) (fun i v H D ys zs ⟨q, p, h1, h2, lo⟩ e => ⟨q, p, h1, h2, tu_lst e _ _ lo⟩) (val_var rfl) (sq2.same s2).seq (by omega) (fun j u H3 hu s3 => turn_name rfl fun Q2 q2 => ?_) (fun l3 zs H3 s3 e3 r3 => ?_))
      · obtain ⟨z, hz, rq⟩ := al2.get hu
        exact c_told (va_cons (val_var rfl) (va_cons val_c va_nil)) ((rq.same s2).same s3) fun p H' s' lo => q2 _ H' s' ⟨z, p, hz, rfl, lo⟩
      have lr := al2.len
      rw [lr] at r3
      refine ⟨l3, r, rfl, ⟨zs, e3, All2.mk r3.2 fun j v q hv hq => ?_⟩, by omega, fun t H4 s4 los => q _ H4 (s3.trans s4) ⟨r, t, hr, rfl, los⟩⟩
      obtain ⟨q', p, h1, h2, lo⟩ := r3.1.get hv
      rw [Nat.zero_add, hq] at h1
      cases h1
      exact ⟨p, h2, lo⟩
    rw [lR] at r2
    have al2 : All2 (fun v r => ∃ p, v = V.ref p ∧ Los H2 p r) ys (R.map trim) := All2.mk (by rw [r2.2, List.length_map]) fun i v q hv hq => by
      obtain ⟨r, p, h1, h2, los⟩ := r2.1.get hv
      rw [Nat.zero_add] at h1
      rw [List.getElem?_map, h1] at hq
      cases hq
      exact ⟨p, h2, los⟩
    have ly := al2.len
    rw [List.length_map] at ly
    refine q_asg (op_in (call_one (l_lcL (K := K) (R := fun i v _ => ∃ b, ((R.map trim).map fun r => (r.length : Int))[i]? = some b ∧ v = V.int b) (fun _ _ _ _ _ h => h) (fun _ _ _ _ _ _ h _ => h) (val_var rfl) (SqL.of e2) (by omega) (fun i v H3 hv s3 => turn_name rfl ?_) (fun l2 ns H3 s3 e3 r3 => ?_))))
    · obtain ⟨r, hr, p, rfl, los⟩ := al2.get hv
      exact em_val (v_lenL (val_var rfl) (los.same s3)) ⟨_, by rw [List.getElem?_map, hr]; rfl, rfl⟩
    rw [ly] at r3
    have en := rows_map r3 (by simp)
    have pl := tlen_le (lens (R.map trim))
    have pl2 : plen R ≤ R.length := by
      unfold plen
      unfold lens at pl ⊢
      rw [List.length_map, List.length_map] at pl
      exact pl
    refine ⟨l2, (R.map trim).map fun r => (r.length : Int), lens (R.map trim), rfl, by rw [← en]; exact SqL.of e3, by rw [List.length_map, List.length_map]; omega, All2.mk (by unfold lens; simp) (fun i a b h1 h2 => ?_), ?_⟩
    · unfold lens at h2
      rw [List.getElem?_map] at h1 h2
      cases e : (R.map trim)[i]? with
      | none => rw [e] at h1; cases h1
      | some r =>
        rw [e] at h1 h2
        cases h1
        cases h2
        exact ⟨fun z => nat_zero.mpr (by have z2 : (r.length : Int) = 0 := z; omega), fun z => by have z1 := nat_zero.mp z; show (r.length : Int) = 0; omega⟩
    refine val_c _ ⟨_, _, rfl, rfl, ?_⟩
    dsimp only
    rw [show ((tlen (lens (R.map trim)) : Int) - 1 + 1) = (plen R : Int) by show ((plen R : Nat) : Int) - 1 + 1 = _; omega]
    have s123 := (s1.trans s2).trans s3
    have ha3 := s123 _ _ ha
    refine cb_one (l_slHi (val_var rfl) (SqL.of (s3 _ _ e2)) (n := (plen R : Int)) (val_var rfl) fun p H4 s4 e4 => ⟨p, _, rfl, .inl ⟨SqL.of e4, fun t ht => ?_⟩⟩)
    rw [cut_nat ys (plen R) (by omega)] at e4; rw [cut_nat ys (plen R) (by omega)]
    refine val_var rfl _ ⟨a, pnA mg, dx, [], rfl, (Same.new' ht) _ _ (s4 _ _ ha3), TP.cls, TP.no, by show 0 < 1000; decide, ?_⟩
    have keep : ∀ b o, H b = some o → b ≠ a → (upd (upd H4 t (.tup (ys.take (plen R)))) a (.ins (pnA mg) dx (putF "rows" (.ref t) []))) b = some o := fun b o e nb => by
      rw [upd_ne nb]
      exact (Same.new' ht) _ _ (s4 _ _ (s123 _ _ e))
    have nt : t ≠ a := fun z => by
      have := (s4 _ _ ha3)
      rw [← z, ht] at this
      cases this
    refine k t _ keep upd_same ⟨ys.take (plen R), by rw [upd_ne nt, upd_same], (all2_take al2 (plen R)).imp fun v r ⟨p, e, los⟩ => ⟨p, e, los.tu fun b zs eb => ?_⟩⟩
    rw [upd_ne (ne_of (s4 _ _ (s3 _ _ eb)) (s4 _ _ ha3) (by intro z; cases z))]
    exact (Same.new' ht) _ _ (s4 _ _ (s3 _ _ eb))
  · refine q_ifNot (c_areN (val_var rfl) h fun H1 s1 => ⟨_, rfl, ?_⟩)
    exact iteT (x_made1 (va_cons (val_var rfl) va_nil) fun d H' s n e => b d H' (fun x o z _ => s _ _ (s1 _ _ z)) (s1.free n) e)
/-- a polynomial of two letters -/
def PnAt (C : Addr) (H : Hp) (a : Addr) (R : List (List Rat)) : Prop := ∃ dx t, H a = some (.ins C dx [("rows", .ref t)]) ∧ Lss H t R ∧ Can R
theorem PnAt.same {C : Addr} {H H' : Hp} {a : Addr} {R : List (List Rat)} (h : PnAt C H a R) (s : L2.Same H H') : PnAt C H' a R := by
  obtain ⟨dx, t, e, l, z⟩ := h
  exact ⟨dx, t, s _ _ e, l.same s, z⟩
theorem made_plane {H1 : Hp} {v : V} {R : List (List Rat)} {Q : VK} {E : XK} (r : RwsR H1 v R) (k : ∀ a H', L2.Same H1 H' → PnAt (pnA mg) H' a (planeR R) → H1 a = none → Q (.ref a) H') :
    ∀ x dx, H1 x = none → H1 dx = none → dx ≠ x → spPInit mg (.ref x :: ([v] ++ [])) (upd (upd H1 dx (.own x)) x (.ins (pnA mg) dx [])) (fun v H2 => v = .non ∧ Q (.ref x) H2) E := fun x dx hx hdx ne => by
  have S : L2.Same H1 (upd (upd H1 dx (.own x)) x (.ins (pnA mg) dx [])) := fun b o e => by
    rw [upd_ne (ne_of_none e hx), upd_ne (ne_of_none e hdx)]
    exact e
  exact ⟨x, dx, v, rfl, upd_same, .inl ⟨R, r.same S, fun t H' keep e los => ⟨rfl, k x H' (fun b o z => keep _ _ (S _ _ z) (ne_of_none z hx)) ⟨dx, t, e, los, can_planeR R⟩ hx⟩⟩⟩
end
end LW

namespace LW
open PySem PySem.Spec PyProof.Rows L2 GL
/-! ### ratios over one bottom -/
/-- q is a whole number over D, at most M in size -/
def Bd (D M : Nat) (q : Rat) : Prop := q.den ∣ D ∧ q.num.natAbs ≤ M * q.den
theorem Bd.of {i : Int} {j D M : Nat} (hj : 0 < j) (hd : j ∣ D) (h : i.natAbs ≤ M * j) : Bd D M (Rat.divInt i (j : Int)) := by
  have hj' : (0 : Int) < (j : Int) := by omega
  have l := low_rat i hj'
  have g0 := gI_pos (i := i) hj'
  have gd := gI_dvd i (j : Int)
  have en : (Rat.divInt i (j : Int)).num * gI i (j : Int) = i := by rw [← l.1]; exact Int.ediv_mul_cancel gd.1
  have ed : ((Rat.divInt i (j : Int)).den : Int) * gI i (j : Int) = (j : Int) := by rw [← l.2]; exact Int.ediv_mul_cancel gd.2
  generalize hq : Rat.divInt i (j : Int) = q at *
  obtain ⟨g, hg⟩ : ∃ g : Nat, gI i (j : Int) = (g : Int) := ⟨(gI i (j : Int)).toNat, by omega⟩
  rw [hg] at en ed g0
  have ed2 : q.den * g = j := by
    have : ((q.den * g : Nat) : Int) = (j : Int) := by rw [Int.natCast_mul]; exact ed
    omega
  have en2 : q.num.natAbs * g = i.natAbs := by
    rw [← en, Int.natAbs_mul, Int.natAbs_natCast]
  refine ⟨Nat.dvd_trans ⟨g, ed2.symm⟩ hd, ?_⟩
  have gp : 0 < g := by omega
  refine Nat.le_of_mul_le_mul_right ?_ gp
  rw [en2, Nat.mul_assoc, ed2]
  exact h
theorem Bd.mono {D E M N : Nat} {q : Rat} (h : Bd D M q) (d : D ∣ E) (m : M ≤ N) : Bd E N q := ⟨Nat.dvd_trans h.1 d, Nat.le_trans h.2 (Nat.mul_le_mul_right _ m)⟩
theorem Bd.le {D M N : Nat} {q : Rat} (h : Bd D M q) (m : M ≤ N) : Bd D N q := h.mono (Nat.dvd_refl _) m
theorem Bd.zero {D M : Nat} : Bd D M 0 := ⟨Nat.one_dvd _, Nat.zero_le _⟩
theorem Bd.nat {D : Nat} (c : Nat) : Bd D c ((c : Nat) : Rat) := ⟨by
  have : ((c : Nat) : Rat).den = 1 := Rat.den_natCast c
  rw [this]
  exact Nat.one_dvd _, by
  rw [Rat.num_natCast, Rat.den_natCast, Nat.mul_one, Int.natAbs_natCast]
  exact Nat.le_refl _⟩
theorem Bd.neg {D M : Nat} {q : Rat} (h : Bd D M q) : Bd D M (-q) := ⟨by rw [Rat.neg_den]; exact h.1, by rw [Rat.neg_num, Int.natAbs_neg, Rat.neg_den]; exact h.2⟩
theorem Bd.mul {D E M N : Nat} {q r : Rat} (h : Bd D M q) (k : Bd E N r) : Bd (D * E) (M * N) (q * r) := by
  have e : q * r = Rat.divInt (q.num * r.num) ((q.den * r.den : Nat) : Int) := by rw [Rat.mul_def', ← Rat.divInt_ofNat]
  rw [e]
  refine Bd.of (Nat.mul_pos q.den_pos r.den_pos) (Nat.mul_dvd_mul h.1 k.1) ?_
  rw [Int.natAbs_mul, show M * N * (q.den * r.den) = (M * q.den) * (N * r.den) by simp only [Nat.mul_assoc, Nat.mul_left_comm, Nat.mul_comm]]
  exact Nat.mul_le_mul h.2 k.2
theorem lcm_addB {i k : Int} {a b : Nat} (ha : 0 < a) (hb : 0 < b) : Rat.divInt i (a : Int) + Rat.divInt k (b : Int) = Rat.divInt (i * ((Nat.lcm a b / a : Nat) : Int) + k * ((Nat.lcm a b / b : Nat) : Int)) ((Nat.lcm a b : Nat) : Int) := by
  have l0 : 0 < Nat.lcm a b := Nat.lcm_pos ha hb
  rw [Rat.divInt_add_divInt _ _ (by omega) (by omega)]
  refine (Rat.divInt_eq_divInt_iff (Int.mul_ne_zero (by omega) (by omega)) (by omega)).mpr ?_
  have e1 : (a : Int) * ((Nat.lcm a b / a : Nat) : Int) = ((Nat.lcm a b : Nat) : Int) := by
    rw [← Int.natCast_mul, Nat.mul_div_cancel' (Nat.dvd_lcm_left a b)]
  have e2 : (b : Int) * ((Nat.lcm a b / b : Nat) : Int) = ((Nat.lcm a b : Nat) : Int) := by
    rw [← Int.natCast_mul, Nat.mul_div_cancel' (Nat.dvd_lcm_right a b)]
  generalize ((Nat.lcm a b / a : Nat) : Int) = x at e1 ⊢
  generalize ((Nat.lcm a b / b : Nat) : Int) = y at e2 ⊢
  generalize ((Nat.lcm a b : Nat) : Int) = L at e1 e2 ⊢
  rw [Int.add_mul, Int.add_mul]
  have h1 : i * (b : Int) * L = i * x * ((a : Int) * (b : Int)) := by rw [← e1]; simp only [Int.mul_assoc, Int.mul_left_comm, Int.mul_comm]
  have h2 : k * (a : Int) * L = k * y * ((a : Int) * (b : Int)) := by rw [← e2]; simp only [Int.mul_assoc, Int.mul_left_comm, Int.mul_comm]
  rw [h1, h2]
/-- the sum of two pairs over their common bottom -/
theorem lcm_bd {i k : Int} {a b M N : Nat} (hi : i.natAbs ≤ M * a) (hk : k.natAbs ≤ N * b) : (i * ((Nat.lcm a b / a : Nat) : Int) + k * ((Nat.lcm a b / b : Nat) : Int)).natAbs ≤ (M + N) * Nat.lcm a b := by
  refine Nat.le_trans (Int.natAbs_add_le _ _) ?_
  rw [Int.natAbs_mul, Int.natAbs_mul, Int.natAbs_natCast, Int.natAbs_natCast, Nat.add_mul]
  refine Nat.add_le_add ?_ ?_
  · refine Nat.le_trans (Nat.mul_le_mul_right _ hi) ?_
    rw [Nat.mul_assoc, Nat.mul_div_cancel' (Nat.dvd_lcm_left a b)]
    exact Nat.le_refl _
  · refine Nat.le_trans (Nat.mul_le_mul_right _ hk) ?_
    rw [Nat.mul_assoc, Nat.mul_div_cancel' (Nat.dvd_lcm_right a b)]
    exact Nat.le_refl _
theorem rat_divInt (q : Rat) : Rat.divInt q.num (q.den : Int) = q := by rw [Rat.divInt_ofNat, Rat.mkRat_self]
theorem Bd.add {D M N : Nat} {q r : Rat} (h : Bd D M q) (k : Bd D N r) : Bd D (M + N) (q + r) := by
  have e : q + r = Rat.divInt (q.num * ((Nat.lcm q.den r.den / q.den : Nat) : Int) + r.num * ((Nat.lcm q.den r.den / r.den : Nat) : Int)) ((Nat.lcm q.den r.den : Nat) : Int) := by
    rw [← lcm_addB q.den_pos r.den_pos, rat_divInt, rat_divInt]
  rw [e]
  exact Bd.of (Nat.lcm_pos q.den_pos r.den_pos) (Nat.lcm_dvd h.1 k.1) (lcm_bd h.2 k.2)
/-- what may be reckoned with -/
structure Fz (D M : Nat) : Prop where
  d0 : 0 < D
  db : D < 2 ^ 1000
  mb : M * D < 2 ^ 1000
theorem Fz.le {D M N : Nat} (h : Fz D M) (l : N ≤ M) : Fz D N := ⟨h.d0, h.db, Nat.lt_of_le_of_lt (Nat.mul_le_mul_right _ l) h.mb⟩
theorem Bd.sm {D M : Nat} {q : Rat} (h : Bd D M q) (f : Fz D M) : Sm 1000 q := by
  have dl := Nat.le_of_dvd f.d0 h.1
  exact ⟨Nat.lt_of_le_of_lt (Nat.le_trans h.2 (Nat.mul_le_mul_left _ dl)) f.mb, Nat.lt_of_le_of_lt dl f.db⟩
theorem Bd.smA {D M A : Nat} {q : Rat} (h : Bd D M q) (d0 : 0 < D) (db : D < 2 ^ A) (mb : M * D < 2 ^ A) : Sm A q := by
  have dl := Nat.le_of_dvd d0 h.1
  exact ⟨Nat.lt_of_le_of_lt (Nat.le_trans h.2 (Nat.mul_le_mul_left _ dl)) mb, Nat.lt_of_le_of_lt dl db⟩
def Bds (D M : Nat) (xs : List Rat) : Prop := ∀ q ∈ xs, Bd D M q
theorem Bds.sm {D M : Nat} {xs : List Rat} (h : Bds D M xs) (f : Fz D M) : Sms 1000 xs := fun q hq => (h q hq).sm f
theorem Bds.co {D M : Nat} {xs : List Rat} (h : Bds D M xs) (i : Nat) : Bd D M (LW.co xs i) := by
  rcases Nat.lt_or_ge i xs.length with lt | ge
  · have e : xs[i]? = some xs[i] := List.getElem?_eq_getElem lt
    rw [co_some e]
    exact h _ (get_mem e)
  · rw [co_none ge]
    exact Bd.zero
end LW

namespace L2
open PySem PySem.Spec PySem.SeqAt PyProof.Rows
theorem max_rawD {prog : Program} {w : World} {A : Around} {E : Value → Shared → Prop} {s : Shared} {l : Addr} {its : List Value} {ns : List Int} {Q : Value → Shared → Prop} {d : Value} (hh : A.handled = none) (hl : s.heap.IsList l its.toArray) (hi : IntsAre its ns)
    (h0 : ns = [] → ∀ h' tk, (∀ b o, s.heap.get? b = some o → h'.get? b = some o) → Q d { s with heap := h', toks := tk })
    (h : ∀ h' tk M t', (∀ b o, s.heap.get? b = some o → h'.get? b = some o) → M ∈ ns → (∀ a, a ∈ ns → a ≤ M) → Q (.int M t') { s with heap := h', toks := tk }) : wpAny (model prog w) A (call (.builtin "max") [.ref l] [(Str.ofString "default", d)]) Q E s := by
  obtain ⟨xs, e⟩ := hi.allInts.items
  have hn : numsOf (intItems xs).toList = ns := by rw [← e]; exact hi.numsOf
  rw [nums_intItems] at hn
  subst hn
  rw [e] at hl
  have hs : (intItems xs).size = xs.size := by simp [intItems]
  refine call_max_walkD (PySem.W.iter_listW (A := A.in1) hh hl fun s₂ e W st hfp hw hk => ?_)
  refine ⟨_, _, _, _, _, _, _, s.heap, (fun i j => decide (numAt xs i > numAt xs j)), rfl, W, st, hfp, hw, hk, fun hz s' m => ?_, fun hp => ⟨fun i j vi vj s' Q' E' _ hi hj q => CmpOf.ints_gt (numAt xs) (fun _ _ => intItems_at) i j vi vj s' _ _ hi hj q, fun v s' hP m => ?_⟩⟩
  · obtain ⟨h', tk, rfl, hk'⟩ := PySem.W.moved_old e rfl m
    exact h0 (List.eq_nil_of_length_eq_zero (by rw [List.length_map, Array.length_toList]; omega)) h' tk hk'
  · obtain ⟨h', tk, rfl, hk'⟩ := PySem.W.moved_old e rfl m
    rw [hs] at hP hp
    obtain ⟨t, rfl⟩ := intItems_at hP
    obtain ⟨h1, h2⟩ := argBest_gt (numAt xs) (xs.size - 1)
    refine h h' tk _ t hk' ?_ fun a ha => ?_
    · rw [numAt_eq]; exact PySem.getD_mem (by rw [List.length_map, Array.length_toList]; omega)
    · obtain ⟨j, hj, rfl⟩ := mem_getD ha
      rw [List.length_map, Array.length_toList] at hj
      rw [← numAt_eq]; exact h2 j (by omega)
variable {X : Cx}
/-- max(xs, default=d) of a list of ints -/
def rMaxD (K : PySem.W.Frag) : List V → List V → Hp → VK → Prop := fun vs zs H Q => ∃ (a : Addr) (ns : List Int) (d : V), vs = [V.ref a] ∧ zs = [d] ∧ SqL K H a (ns.map V.int) ∧ (ns = [] → Q d H) ∧ ∀ m, m ∈ ns → (∀ y, y ∈ ns → y ≤ m) → Q (.int m) H
theorem cr_maxDef (hc : X.calm = true) : CallRK X (.builtin "max") [Str.ofString "default"] (rMaxD X.K) := by
  intro pins s σ H vs zs us ws Q I r rz h
  obtain ⟨a, ns, d, rfl, rfl, hs, q0, q⟩ := h
  obtain rfl := Vals.ref1 r
  obtain ⟨w1, rfl, e1⟩ := vals1 rz
  obtain ⟨its, rv, hl, _⟩ := I.list hs
  exact max_rawD (I.ok.hd hc) hl.isList rv.ints (fun z h' tk hk => ⟨d, H, I.kept hk, e1, q0 z⟩) fun h' tk m t' hk h1 h2 => ⟨.int _, H, I.kept hk, ⟨_, rfl⟩, q m h1 h2⟩
end L2

namespace LW
open PySem PySem.Spec PyProof.Rows L2 GL
section
variable {P : Program} {w : World} {K : PySem.W.Frag} {mg : Str → Option Value} {base : Heap}
theorem ne_of_some {H : Hp} {a b : Addr} {o : HO} (h : H b = some o) (n : H a = none) : a ≠ b := fun z => by rw [z, h] at n; cases n
theorem PlaneT.tyI (TP : PlaneT K mg) {H : Hp} {a : Addr} {R : List (List Rat)} (h : PnAt (pnA mg) H a R) : TyX K H (.ref a) (.ref (pnA mg)) := by
  obtain ⟨dx, t, e, _⟩ := h
  exact .base (.ins e TP.cls TP.hc TP.hn TP.ht TP.hm)
/-! ### comprehensions that make lists -/
section
variable {σ : L2.St} {H : Hp} {g : TG} {te ti : TE} {vs : List Nat} {Q : VK} {a : Addr} {xs : List V} {R : Addr → Nat → V → Hp → Prop}
def LcD (R : Addr → Nat → V → Hp → Prop) (H : Hp) (D : Addr) (i : Nat) (H' : Hp) : Prop := ∃ ys, L2.Same H H' ∧ H' D = some (.lst ys) ∧ H D = none ∧ Rows (R D) 0 i ys H'
def OffL (R : Addr → Nat → V → Hp → Prop) : Prop := ∀ D k v H ys zs, R D k v H → H D = some (.lst ys) → R D k v (upd H D (.lst zs))
theorem Run.offL {D : Addr} (of : OffL R) {H : Hp} {ws zs : List V} (e : H D = some (.lst ws)) : ∀ {k : Nat} {ys : List V}, Run (R D) k ys H → Run (R D) k ys (upd H D (.lst zs))
  | _, [], _ => trivial
  | _, _ :: _, ⟨x, y⟩ => ⟨of _ _ _ _ _ _ x e, Run.offL of e y⟩
theorem lcD_step (st : ∀ D k, Stays (R D k)) (of : OffL R) {x : V} {i : Nat} {D : Addr} {H1 : Hp} (p : LcD R H D i H1) (hn : i < 10000) (ht : L2.Same H H1 → (∃ ys, H1 D = some (.lst ys)) → Turn1 g te vs σ x H1 (R D i)) :
    g x (wipe σ vs) H1 fun σ2 H2 => wipe σ2 vs = wipe σ vs ∧ tYes σ2 H2 fun b H3 => if b = true then te σ2 H3 fun y H4 => ∃ acc, H4 D = some (.lst acc) ∧ acc.length < sizeLine ∧ LcD R H D (i + 1) (upd H4 D (.lst (acc ++ [y]))) else LcD R H D (i + 1) H3 := by
  obtain ⟨ys, s, e, nD, r⟩ := p
  refine ht s ⟨ys, e⟩ _ fun σ2 hw em => ⟨hw, ?_⟩
  show (if true = true then te _ _ _ else LcD R H D (i + 1) H1)
  rw [if_pos rfl]
  refine em _ fun v H4 s4 rv => ⟨ys, s4 _ _ e, by rw [r.2]; exact Nat.lt_of_lt_of_le hn (by decide), ys ++ [v], ?_, upd_same, nD, ?_⟩
  · intro b o z
    rw [upd_ne (ne_of_none z nD)]
    exact s4 _ _ (s b o z)
  · have r4 := Rows.stays (st D) ys H1 H4 s4 r
    refine ⟨Run.offL of (s4 _ _ e) (Run.app r4.1 ⟨?_, trivial⟩), by rw [List.length_append, r4.2]; rfl⟩
    rw [r4.2, Nat.zero_add]
    exact rv
theorem d_lcL (st : ∀ D k, Stays (R D k)) (of : OffL R) (h : Val ti σ H (.ref a)) (hx : SqL K H a xs) (hn : xs.length ≤ 10000) (hs : ∀ D i x H1, xs[i]? = some x → L2.Same H H1 → (∃ ys, H1 D = some (.lst ys)) → Turn1 g te vs σ x H1 (R D i))
    (q : ∀ p ys H', L2.Same H H' → H p = none → H' p = some (.lst ys) → Rows (R p) 0 xs.length ys H' → Q (.ref p) H') : tLc (iList K ti) g tYes te vs σ H Q :=
  h _ ⟨a, rfl, ⟨xs, hx⟩, fun D hD => lc_list (K := K) (a := a) (xs := xs) (LcD R H D) ⟨[], Same.new' hD, upd_same, hD, trivial, rfl⟩ (fun i H1 _ p => p.choose_spec.1.seq hx) (fun i x H1 e p => lcD_step st of p (by
    have := (List.getElem?_eq_some_iff.mp e).1
    omega) (hs D i x H1 e)) (fun H1 ⟨ys, s, e, n, r⟩ => q D ys H1 s n e r)⟩
theorem d_lcT (st : ∀ D k, Stays (R D k)) (of : OffL R) (h : Val ti σ H (.ref a)) (hx : SqT K H a xs) (hn : xs.length ≤ 10000) (hs : ∀ D i x H1, xs[i]? = some x → L2.Same H H1 → (∃ ys, H1 D = some (.lst ys)) → Turn1 g te vs σ x H1 (R D i))
    (q : ∀ p ys H', L2.Same H H' → H p = none → H' p = some (.lst ys) → Rows (R p) 0 xs.length ys H' → Q (.ref p) H') : tLc (iTup K ti) g tYes te vs σ H Q :=
  h _ ⟨a, rfl, ⟨xs, hx⟩, fun D hD => lc_tup (K := K) (a := a) (xs := xs) (LcD R H D) ⟨[], Same.new' hD, upd_same, hD, trivial, rfl⟩ (fun i H1 _ p => sqt_same p.choose_spec.1 hx) (fun i x H1 e p => lcD_step st of p (by
    have := (List.getElem?_eq_some_iff.mp e).1
    omega) (hs D i x H1 e)) (fun H1 ⟨ys, s, e, n, r⟩ => q D ys H1 s n e r)⟩
theorem d_lcR {n : Nat} {ta : TA} (st : ∀ D k, Stays (R D k)) (of : OffL R) (h : VA ta σ H [.int (n : Int)]) (hn : n ≤ 10000) (hs : ∀ D i H1, i < n → L2.Same H H1 → (∃ ys, H1 D = some (.lst ys)) → Turn1 g te vs σ (.int (i : Int)) H1 (R D i))
    (q : ∀ p ys H', L2.Same H H' → H p = none → H' p = some (.lst ys) → Rows (R p) 0 n ys H' → Q (.ref p) H') : tLc (iRng1 ta) g tYes te vs σ H Q := by
  refine h _ ⟨(n : Int), rfl, by omega, by omega, fun D hD => lc_range (lo := 0) (n := (n : Int).toNat) (LcD R H D) ⟨[], Same.new' hD, upd_same, hD, trivial, rfl⟩ (fun i H1 hi p => ?_) (fun H1 ⟨ys, s, e, n, r⟩ => q D ys H1 s n e (by rw [Int.toNat_natCast] at r; exact r))⟩
  rw [Int.zero_add]
  exact lcD_step st of p (by omega) (hs D i H1 (by omega))
end
/-! ### lists of told ratios -/
theorem LosL.off {H : Hp} {l D : Addr} {xs : List Rat} {ys zs : List V} (h : LosL H l xs) (ne : l ≠ D) (e : H D = some (.lst ys)) : LosL (upd H D (.lst zs)) l xs := by
  obtain ⟨vs, ev, al⟩ := h
  exact ⟨vs, by rw [upd_ne ne]; exact ev, al.imp fun v q ⟨p, h1, lo⟩ => ⟨p, h1, tu_lst e _ _ lo⟩⟩
theorem All2.append {α β : Type} {R : α → β → Prop} {as cs : List α} {bs ds : List β} (h : All2 R as bs) (k : All2 R cs ds) : All2 R (as ++ cs) (bs ++ ds) := by
  induction h with
  | nil => exact k
  | cons r _ ih => exact .cons r ih
/-- rows of lists -/
def RwL (F : Nat → List Rat) : Addr → Nat → V → Hp → Prop := fun D i v H => ∃ l, v = V.ref l ∧ l ≠ D ∧ LosL H l (F i)
theorem rwl_st (F : Nat → List Rat) : ∀ D k, Stays (RwL F D k) := fun D k v H1 H2 s ⟨l, h1, h2, h3⟩ => ⟨l, h1, h2, h3.same s⟩
theorem rwl_off (F : Nat → List Rat) : OffL (RwL F) := fun D k v H ys zs ⟨l, h1, h2, h3⟩ e => ⟨l, h1, h2, h3.off h2 e⟩
theorem co_range {n : Nat} {f : Nat → Rat} (j : Nat) : co ((List.range n).map f) j = if j < n then f j else 0 := by
  split
  · rename_i h
    exact co_some (by rw [List.getElem?_map, List.getElem?_range h]; rfl)
  · exact co_none (by rw [List.length_map, List.length_range]; omega)
theorem cf2_grid {N : Nat} {F : Nat → List Rat} (i j : Nat) : cf2 ((List.range N).map F) i j = if i < N then co (F i) j else 0 := by
  unfold cf2
  split
  · rename_i h
    rw [rowAt_some (r := F i) (by rw [List.getElem?_map, List.getElem?_range h]; rfl)]
  · rw [rowAt_none (by rw [List.length_map, List.length_range]; omega)]
    rfl

/-! ### a row, and sums of rows -/
theorem v_rows (TP : PlaneT K mg) {σ : L2.St} {H : Hp} {te : TE} {a t dx : Addr} (h : Val te σ H (.ref a)) (e : H a = some (.ins (pnA mg) dx [("rows", .ref t)])) : Val (tFld K te "rows") σ H (.ref t) := fun Q q =>
  h _ ⟨a, pnA mg, dx, _, .ref t, rfl, e, TP.cls, TP.no, rfl, q⟩
/-! ### sums -/
/-- rows whose numbers lie over one bottom, with no powers above a degree -/
structure Nice (D M d : Nat) (R : List (List Rat)) : Prop where
  bd : ∀ i j, Bd D M (cf2 R i j)
  dg : ∀ i j, d < i + j → cf2 R i j = 0
theorem Can.rowT {R : List (List Rat)} (c : Can R) (i : Nat) : tlen (rowAt R i) = (rowAt R i).length := by
  rcases Nat.lt_or_ge i R.length with lt | ge
  · rw [rowAt_some (List.getElem?_eq_getElem lt)]
    exact c.row _ (List.getElem_mem lt)
  · rw [rowAt_none ge]; rfl
theorem Can.rowL {R : List (List Rat)} {d : Nat} (c : Can R) (z : ∀ i j, d < i + j → cf2 R i j = 0) (i : Nat) : (rowAt R i).length = 0 ∨ i + (rowAt R i).length ≤ d + 1 := by
  rcases Nat.eq_zero_or_pos (rowAt R i).length with h | h
  · exact .inl h
  · obtain ⟨n, hn⟩ : ∃ n, (rowAt R i).length = n + 1 := ⟨(rowAt R i).length - 1, by omega⟩
    obtain ⟨q, e, nz⟩ := tlen_last ((c.rowT i).trans hn)
    refine .inr ?_
    rcases Nat.lt_or_ge d (i + n) with lt | ge
    · have := z i n lt
      unfold cf2 at this
      rw [co_some e] at this
      exact (nz this).elim
    · omega
theorem Can.len {R : List (List Rat)} {d : Nat} (c : Can R) (z : ∀ i j, d < i + j → cf2 R i j = 0) : R.length ≤ d + 1 := by
  rcases Nat.eq_zero_or_pos R.length with h | h
  · omega
  · obtain ⟨n, hn⟩ : ∃ n, R.length = n + 1 := ⟨R.length - 1, by omega⟩
    obtain ⟨q, e, nz⟩ := tlen_last (xs := lens R) (c.top.trans hn)
    unfold lens at e
    have lt : n < R.length := by omega
    rw [List.getElem?_map, List.getElem?_eq_getElem lt] at e
    have e2 : ((R[n].length : Nat) : Rat) = q := Option.some.inj e
    have nz2 : R[n].length ≠ 0 := fun z0 => nz (by rw [← e2, z0]; rfl)
    have := c.rowL z n
    rw [rowAt_some (List.getElem?_eq_getElem lt)] at this
    omega
theorem Nice.len {D M d : Nat} {R : List (List Rat)} (h : Nice D M d R) (c : Can R) (i : Nat) : (rowAt R i).length ≤ d + 1 := by
  rcases c.rowL h.dg i with z | z <;> omega
theorem Nice.row {D M d : Nat} {R : List (List Rat)} (h : Nice D M d R) (i : Nat) : Bds D M (rowAt R i) := fun q hq => by
  obtain ⟨j, hj, e⟩ := List.getElem_of_mem hq
  have := h.bd i j
  unfold cf2 at this
  rw [co_some (by rw [List.getElem?_eq_getElem hj, e])] at this
  exact this
theorem rowAt_mem {R : List (List Rat)} {r : List Rat} (h : r ∈ R) : ∃ i, rowAt R i = r := by
  obtain ⟨i, hi, e⟩ := List.getElem_of_mem h
  exact ⟨i, rowAt_some (by rw [List.getElem?_eq_getElem hi, e])⟩
theorem Nice.mem {D M d : Nat} {R : List (List Rat)} (h : Nice D M d R) {r : List Rat} (hr : r ∈ R) : Bds D M r := by
  obtain ⟨i, rfl⟩ := rowAt_mem hr
  exact h.row i
theorem Nice.lenM {D M d : Nat} {R : List (List Rat)} (h : Nice D M d R) (c : Can R) {r : List Rat} (hr : r ∈ R) : r.length ≤ d + 1 := by
  obtain ⟨i, rfl⟩ := rowAt_mem hr
  exact h.len c i
theorem Nice.lenR {D M d : Nat} {R : List (List Rat)} (h : Nice D M d R) (c : Can R) : R.length ≤ d + 1 := c.len h.dg
end
end LW

namespace LW
open PySem PySem.Spec PyProof.Rows L2 GL
section
variable {P : Program} {w : World} {K : PySem.W.Frag} {mg : Str → Option Value} {base : Heap}

/-! ### pairs in any terms -/
end
end LW

namespace LW
open PySem PySem.Spec PyProof.Rows L2 GL
section
variable {P : Program} {w : World} {K : PySem.W.Frag} {mg : Str → Option Value} {base : Heap}


/-! ### sums of many pairs -/
theorem s_asg {te : TE} {g : TG} {D : Ends} {σ : L2.St} {H : Hp} (h : te σ H fun x H1 => g x σ H1 D.nx) : tAsg te g D σ H := h
end
end LW


/-! dicts whose keys are pairs of ints: copied by dict(d), written as a display, walked -/
namespace L2
open PySem PySem.Spec PyProof.Rows
section
variable {X : Cx}
/-- a pair's hash -/
def pairH (i j : Int) : Int := reduceHash (Builtin.Tuple.tupleHashOf [hashInt i, hashInt j])
abbrev kP (i j : Int) : List Key := [Sum.inl i, Sum.inl j]
def rDictT : List V → Hp → VK → Prop := fun xs H Q => ∃ (a : Addr) (kvs : List (List Key × V)) (ps : List (Int × Int)), xs = [.ref a] ∧ Rd H a (.dT kvs) ∧ kvs.map (·.1) = ps.map (fun p => kP p.1 p.2) ∧ (ps.map fun p => pairH p.1 p.2).Nodup ∧
  ∀ p, H p = none → Q (.ref p) (upd H p (.dT kvs))
theorem cr_dictT (hu : X.A.units + 64 < cLine) : CallR X (.type "dict") rDictT := by
  intro pins s σ H xs us Q I r q
  obtain ⟨o, kvs, ps, rfl, hd, hks, hap, q⟩ := q
  obtain ⟨u, rfl, rx⟩ := r.one
  cases rx
  obtain ⟨z, hoS, more, rel, ho⟩ := dt_rd I.hok hd
  have hl : more.length ≤ sizeLine := by rw [← Paired.length rel]; exact z
  have ek : more.map (·.1) = ps.map (fun p => kP p.1 p.2) := by
    rw [← hks]
    clear hks hd ho z hl q
    induction rel with
    | nil => rfl
    | cons h t ih => rw [List.map_cons, List.map_cons, ih, h.1]
  have hn : (more.map (·.1)).Nodup := ho.nodup
  have hh : (more.map fun x => (tupleKind (mixKind X.prog X.w)).hash x.1).Nodup := by
    have e : (more.map fun x => (tupleKind (mixKind X.prog X.w)).hash x.1) = ps.map fun p => pairH p.1 p.2 := by
      have e1 := congrArg (List.map (tupleKind (mixKind X.prog X.w)).hash) ek
      rw [List.map_map, List.map_map] at e1
      exact e1
    rw [e]; exact hap
  refine callType_codes (Q₁ := fun obj s₁ => obj = .ref s.heap.objs.size ∧ s₁ = { s with heap := s.heap.push { cls := .type "dict", data := .dict #[] } }) F.kt_called_dict (F.kt_typeCall_dict_1 _) F.entry_dict_init (kt_code_dict_new _ ⟨rfl, rfl⟩) ?_
  rintro obj s₁ ⟨rfl, rfl⟩
  have hnew : (s.heap.push { cls := .type "dict", data := .dict #[] }).DictOfH (tupleKind (mixKind X.prog X.w)) s.heap.objs.size [] := Heap.DictOfH.new s.heap
  have hty0 : ∀ x ∈ more, (tupleKind (mixKind X.prog X.w)).is s.heap x.1 x.2.1 := by
    obtain ⟨_, _, _, _, _, _, _, his, _⟩ := id ho
    exact his
  have pk : ∀ b ob, s.heap.get? b = some ob → (s.heap.push { cls := .type "dict", data := .dict #[] }).get? b = some ob := fun b ob e => Heap.get?_push_of_some _ e
  have ho' : (s.heap.push { cls := .type "dict", data := .dict #[] }).DictOfH (tupleKind (mixKind X.prog X.w)) o more := by
    obtain ⟨oo, es, ep, h1, h2, h3, h4, h5, h6⟩ := id ho
    exact ⟨oo, es, ep, pk _ _ h1, h2, h3, h4, fun x hx => tupleKind_stays.stays (fun b ob _ _ e _ => pk b ob e) (h5 x hx), h6⟩
  have hdo : s.heap.objs.size ≠ o := by
    obtain ⟨_, _, _, hg, _⟩ := ho
    exact fun e => absurd (Heap.lt_size hg) (by rw [e]; exact Nat.lt_irrefl _)
  refine ⟨hnew.typeIs, F.args_dict_init_2 _ _, ?_⟩
  unfold Builtin.«dict.__init__»
  refine wpAny_bind ?_
  unfold Builtin.Dict.selfAndRest
  refine wpAny_bind (wpAny_notOrdered_dict hnew.typeIs ?_)
  show wpAny _ _ (pure (s.heap.objs.size, [Value.ref o])) _ _ _
  refine wpAny_pure ?_
  show wpAny _ _ (Builtin.Dict.updateFrom "dict.__init__" s.heap.objs.size (.ref o) [] .none) _ _ _
  refine updateFrom_dictH (knd := tupleKind (mixKind X.prog X.w)) .none (show X.A.in1.in1.units < cLine from by have : X.A.in1.in1.units = X.A.units + 2 := rfl; omega) hdo hoS hnew ho' (.inr ⟨fun x hx => ?_, hh⟩) (by rw [List.length_nil]; omega) (fun h' hd' _ hs' => ?_)
  · exact tupleKind_stays.tuple (s := { s with heap := s.heap.push { cls := .type "dict", data := .dict #[] } }) (tupleKind_stays.stays (fun b ob _ _ e _ => pk b ob e) (hty0 x hx))
  · rw [storedAllH_nil_of_nodup more hn] at hd'
    refine ⟨rfl, ?_⟩
    have hm : (s.heap.objs.size == sysModules) = false := beq_eq_false_iff_ne.mpr (Nat.ne_of_gt I.big)
    obtain ⟨oo, es, ep, h1, h2, h3, h4, h5, h6⟩ := id hd'
    have fr := I.hok.fresh (Nat.le_refl s.heap.objs.size)
    refine ⟨.ref s.heap.objs.size, upd H s.heap.objs.size (.dT kvs), I.laid (t' := s.toks) (fun b u e => (hs'.2 b (Nat.ne_of_lt (Heap.lt_size e))).trans (Heap.get?_push_of_some _ e)) (Nat.le_refl _)
      (show ObjOk X.prog X.w _ _ _ (.dT kvs) from ⟨z, hm, more, ?_, oo, es, ep, h1, h2, h3, h4, h6⟩), rfl, q _ fr⟩
    exact KT.keeps rel fun b ys e => by rw [upd_ne (ne_of_none e fr)]; exact e
end
end L2

namespace L2
open PySem PySem.Spec PyProof.Rows
section
def mergeT (kvs more : List (List Key × V)) : List (List Key × V) := more.foldl (fun acc kv => putK acc kv.1 kv.2) kvs
theorem KT.merge {H : Hp} : ∀ {more : List (List Key × V)} {rs : List (List Key × Addr × Value)} {kvs : List (List Key × V)} {vs : List (List Key × Addr × Value)}, KT H more rs → KT H kvs vs → KT H (mergeT kvs more) (storedAllH vs rs) := by
  intro more rs kvs vs r
  unfold KT at r
  induction r generalizing kvs vs with
  | nil => intro q; exact q
  | @cons p q ps qs h t ih =>
    intro r0
    have e : KT H (putK kvs p.1 p.2) (storedH vs q.1 q.2.1 q.2.2) := by
      have := r0.put p.1 h.2.1 h.2.2
      rw [← h.1]; exact this
    exact ih e
theorem length_mergeT : ∀ (more kvs : List (List Key × V)), (mergeT kvs more).length ≤ kvs.length + more.length
  | [], kvs => by show kvs.length ≤ kvs.length + 0; omega
  | p :: r, kvs => by
    have h1 := length_mergeT r (putK kvs p.1 p.2)
    have h2 := length_putK kvs p.1 p.2
    show (mergeT (putK kvs p.1 p.2) r).length ≤ _
    rw [List.length_cons]; omega
/-- a pair of values is a key and its value -/
def KeyOf (H : Hp) (q : V × V) (kv : List Key × V) : Prop := (∃ b, q.1 = .ref b ∧ H b = some (.tup (kv.1.map kV))) ∧ q.2 = kv.2
theorem carriesT_of {P : Program} {w : World} {H : Hp} {h : Heap} (ok : HOk P w H h) : ∀ {ps : List (V × V)} {kvs : List (List Key × V)} {ws : List (Value × Value)}, Paired (KeyOf H) ps kvs → VV ps ws → ∃ rs, CarriesH (tupleKind (mixKind P w)) h ws rs ∧ KT H kvs rs
  | _, _, _, .nil, r => by cases r; exact ⟨[], True.intro, .nil⟩
  | (_, _) :: _, (k, v) :: _, _, .cons ⟨⟨b, e1, e2⟩, e3⟩ t, r => by
    cases r with
    | @cons a c as bs h1 t1 =>
      obtain ⟨rs, cr, q⟩ := carriesT_of ok t t1
      obtain ⟨b1, b2⟩ := c
      obtain ⟨r1, r2⟩ := h1
      dsimp only at e1 e2 e3 r1 r2
      subst e1
      subst e3
      cases (show b1 = Value.ref b from r1)
      exact ⟨(k, b, b2) :: rs, ⟨rfl, rfl, key_of ok e2, cr⟩, .cons ⟨rfl, e2, r2⟩ q⟩
/-- {k: v, ..} with keys tuples; the new dict stands empty while the pairs are made -/
def tDispT (trs : List (TE × TE)) : TE := fun σ H Q => ∀ p, H p = none → tPairs trs σ (upd H p (.dT [])) fun ps H2 => H2 p = some (.dT []) ∧ ∃ kvs : List (List Key × V), Paired (KeyOf H2) ps kvs ∧ kvs.length ≤ 15 ∧ Q (.ref p) (upd H2 p (.dT (mergeT [] kvs)))
theorem pe_dispT {X : Cx} {pos : Pos} {keys : List (Option Expr)} {values : List Expr} {trs : List (TE × TE)} (hu : X.A.units + 64 < cLine) (h : PPs X pos keys values trs) (hall : keys.all (·.isSome) = true) (hl : keys.length = values.length) (h0 : keys ≠ [])
    (h15 : keys.length ≤ 15) : PE X (.Dict keys values pos) (tDispT trs) := by
  refine ⟨fun pins s σ H Q I q => ?_⟩
  have hn := I.hok.fresh (Nat.le_refl s.heap.objs.size)
  have I1 := I.laid (a := s.heap.objs.size) (o := .dT []) (h' := s.heap.push { cls := .type "dict", data := .dict #[] }) (t' := s.toks) (fun _ _ q => Heap.get?_push_of_some _ q) (Nat.le_refl _) (dt_empty s.heap I.big)
  have ln := pairTrees_length keys values X.env pos hall hl
  rw [arm_eval_Dict, zip_pairTrees keys values X.env pos hall hl, dictDisplay_pairs (pairTrees keys values X.env pos) (fun he => by
    rw [he] at ln
    exact h0 (List.length_eq_zero_iff.mp ln.symm)) (by omega)]
  refine wpAny_bind (wpAny_standAt (wpAny_bind (wpAny_subDictH (knd := tupleKind (mixKind X.prog X.w)) (show X.A.units < cLine by omega) (by omega)
    (thn (h.run pins _ σ _ _ I1 (q _ hn)) fun ws s2 ⟨ps, H2, I2, rel, e, kvs, pr, lk, q2⟩ => ?_))))
  obtain ⟨rs, c, rk⟩ := carriesT_of I2.hok pr rel
  obtain ⟨z, hd, vs0, r0, dd⟩ := dt_of I2.hok e
  cases r0
  refine ⟨rs, c, dd, fun h' tk dd' hs => wpAny_pure ⟨.ref s.heap.objs.size, _, ?_, rfl, q2⟩⟩
  have hz : (mergeT [] kvs).length ≤ sizeLine := by
    have h1 := length_mergeT kvs []
    rw [List.length_nil] at h1
    rw [sizeLine_eq]; omega
  obtain ⟨qo, es, ep, hq, h2, h3, h4, _, h5⟩ := dd'
  have J := d_write (t' := tk) I2 (ob := .dT (mergeT [] kvs)) (by rw [e]; exact True.intro) hs ⟨qo, hq⟩ ⟨hz, hd, _, (rk.merge .nil).keeps fun c ys ec => by
    rw [upd_ne (ne_of ec e (fun z => nomatch z))]
    exact ec, qo, es, ep, hq, h2, h3, h4, h5⟩
  exact J
end
end L2

namespace L2
open PySem PySem.Spec PyProof.Rows
/-- locked, or locked by the caller -/
def tLockO (t : TS) : TS := fun D σ H => tLock t D σ H ∨ t D σ H
theorem ps_lockO {X : Cx} {st : Stmt} {t : TS} (h : PS X st t) : PS X st (tLockO t) := ⟨fun pins s σ H D I hw => hw.elim (fun z => (ps_lock h).run pins s σ H D I z) fun z => h.run pins s σ H D I z⟩
section
variable {σ : L2.St} {H : Hp} {d : Addr} {kvs : List (List Key × V)} {i j : Nat} {tb : TS} {D : Ends} {u : TS}
theorem tkeys_walk {HL : Hp} {od : Obj} (hi : σ[i]? = some (some (.ref d))) (e : HL d = some (.frz od (.dT kvs))) (Pv : Nat → L2.St → Hp → Prop) (h0 : Pv 0 σ HL)
    (hq : ∀ i σ H', Pv i σ H' → H' d = HL d)
    (hs : ∀ i k v q σ H', kvs[i]? = some (k, v) → Pv i σ H' → H' q = some (.tup (k.map kV)) → ∀ D' : Ends, D'.nx = Pv (i + 1) → D'.ct = Pv (i + 1) → tb D' (σ.set j (some (.ref q))) H')
    (hd : ∀ σ H', Pv kvs.length σ H' → D.nx σ H') : tFor (iKeys (tVar i)) (gName j) tb D σ HL := by
  refine ⟨_, hi, d, od, rfl, .inr ⟨kvs, e, fun n m σ H' => m = kvs.length - n ∧ n ≤ kvs.length ∧ Pv n σ H', ⟨_, rfl, Nat.zero_le _, h0⟩, ?_⟩⟩
  rintro n m σ H' ⟨rfl, hn, p⟩
  have q := hq n σ H' p
  rw [e] at q
  rcases Nat.lt_or_ge n kvs.length with lt | ge
  · refine .inr ⟨⟨q, lt⟩, Pv (n + 1), fun σ' H2 p' => ⟨kvs.length - (n + 1), by omega, rfl, lt, p'⟩, ?_⟩
    rintro v H2 ⟨rfl, k, w, t, hk, rfl, ht⟩
    exact hs n k w t σ H2 hk p ht _ rfl rfl
  · obtain rfl : n = kvs.length := by omega
    exact .inl ⟨⟨q, Nat.le_refl _⟩, hd σ H' p⟩
/-- for k in d: .., d a dict whose keys are tuples -/
theorem q_keys (hi : σ[i]? = some (some (.ref d))) (hd : Rd H d (.dT kvs)) (Pv : Hp → Nat → L2.St → Hp → Prop)
    (h0 : ∀ HL, (∀ b, b ≠ d → HL b = H b) → Rd HL d (.dT kvs) → Pv HL 0 σ HL)
    (hq : ∀ HL i σ H', Pv HL i σ H' → H' d = HL d)
    (hs : ∀ HL i k v q σ H', Rd HL d (.dT kvs) → kvs[i]? = some (k, v) → Pv HL i σ H' → H' q = some (.tup (k.map kV)) → ∀ D' : Ends, D'.nx = Pv HL (i + 1) → D'.ct = Pv HL (i + 1) → tb D' (σ.set j (some (.ref q))) H')
    (he : ∀ HL σ H', Pv HL kvs.length σ H' → ∀ H'', (∀ b, b ≠ d → H'' b = H' b) → H'' d = H d → u D σ H'') :
    tSeq (tLockO (tFor (iKeys (tVar i)) (gName j) tb)) u D σ H := by
  rcases hd with hd | ⟨od, hd⟩
  · refine .inl ⟨d, _, hd, True.intro, fun od => ?_⟩
    have e : upd H d (.frz od (.dT kvs)) d = some (.frz od (.dT kvs)) := upd_same
    refine tkeys_walk hi e (Pv (upd H d (.frz od (.dT kvs)))) (h0 _ (fun b nb => upd_ne nb) (.inr ⟨od, e⟩)) (fun i σ H' p => hq _ i σ H' p) (fun i k v q σ H' hk p ht => hs _ i k v q σ H' (.inr ⟨od, e⟩) hk p ht) (fun σ H' p => ⟨?_, ?_⟩)
    · have z := hq _ _ σ H' p
      rw [e] at z
      exact z
    · exact he _ σ H' p _ (fun b nb => upd_ne nb) (by rw [upd_same, hd])
  · refine .inr ?_
    exact tkeys_walk (D := { D with nx := u D }) hi hd (Pv H) (h0 H (fun b nb => rfl) (.inr ⟨od, hd⟩)) (fun i σ H' p => hq _ i σ H' p) (fun i k v q σ H' hk p ht => hs _ i k v q σ H' (.inr ⟨od, hd⟩) hk p ht) (fun σ H' p => he H σ H' p H' (fun b nb => rfl) (hq _ _ σ H' p))
end
end L2

/-! sums of entries: polynomials of two letters as lists of powers and ratios -/
namespace LW
open PySem PySem.Spec PyProof.Rows L2 GL
abbrev En := (Nat × Nat) × Rat
def rs {α : Type} (f : α → Rat) : List α → Rat
  | [] => 0
  | a :: l => f a + rs f l
theorem rs_app {α : Type} (f : α → Rat) : ∀ (l m : List α), rs f (l ++ m) = rs f l + rs f m
  | [], m => by show rs f m = 0 + rs f m; grind
  | a :: l, m => by
    show f a + rs f (l ++ m) = f a + rs f l + rs f m
    rw [rs_app f l m]; grind
theorem rs_congr {α : Type} {f g : α → Rat} : ∀ {l : List α}, (∀ a ∈ l, f a = g a) → rs f l = rs g l
  | [], _ => rfl
  | a :: l, h => by
    show f a + rs f l = g a + rs g l
    rw [h a (List.mem_cons_self ..), rs_congr (l := l) fun b hb => h b (List.mem_cons_of_mem _ hb)]
theorem rs_add {α : Type} (f g : α → Rat) : ∀ (l : List α), rs (fun a => f a + g a) l = rs f l + rs g l
  | [] => by show (0 : Rat) = 0 + 0; grind
  | a :: l => by
    show f a + g a + rs _ l = f a + rs f l + (g a + rs g l)
    rw [rs_add f g l]; grind
theorem rs_mulL {α : Type} (c : Rat) (f : α → Rat) : ∀ (l : List α), rs (fun a => c * f a) l = c * rs f l
  | [] => by show (0 : Rat) = c * 0; grind
  | a :: l => by
    show c * f a + rs _ l = c * (f a + rs f l)
    rw [rs_mulL c f l]; grind
theorem rs_zero {α : Type} {f : α → Rat} : ∀ {l : List α}, (∀ a ∈ l, f a = 0) → rs f l = 0
  | [], _ => rfl
  | a :: l, h => by
    show f a + rs f l = 0
    rw [h a (List.mem_cons_self ..), rs_zero (l := l) fun b hb => h b (List.mem_cons_of_mem _ hb)]; grind
theorem rs_perm {α : Type} {f : α → Rat} {l m : List α} (h : l.Perm m) : rs f l = rs f m := by
  induction h with
  | nil => rfl
  | cons a _ ih => show f a + rs f _ = f a + rs f _; rw [ih]
  | swap a b l => show f b + (f a + rs f l) = f a + (f b + rs f l); grind
  | trans _ _ a b => exact a.trans b
theorem rs_map {α β : Type} (f : β → Rat) (g : α → β) : ∀ (l : List α), rs f (l.map g) = rs (fun a => f (g a)) l
  | [] => rfl
  | a :: l => by show f (g a) + rs f (l.map g) = _; rw [rs_map f g l]; rfl
/-- the coefficient at x ^ i y ^ j -/
def cf (L : List En) (i j : Nat) : Rat := rs (fun e => if e.1 = (i, j) then e.2 else 0) L
theorem cf_nil {i j : Nat} : cf [] i j = 0 := rfl
theorem cf_app {L M : List En} {i j : Nat} : cf (L ++ M) i j = cf L i j + cf M i j := rs_app _ _ _
theorem cf_one {k : Nat × Nat} {q : Rat} {i j : Nat} : cf [(k, q)] i j = if k = (i, j) then q else 0 := by
  show (if k = (i, j) then q else 0) + 0 = _
  grind
theorem cf_cons {e : En} {L : List En} {i j : Nat} : cf (e :: L) i j = (if e.1 = (i, j) then e.2 else 0) + cf L i j := rfl
theorem cf_out {L : List En} {i j : Nat} (h : (i, j) ∉ L.map (·.1)) : cf L i j = 0 := rs_zero fun a ha => by
  rw [if_neg]
  intro z
  exact h (List.mem_map.mpr ⟨a, ha, z⟩)
theorem cf_in {k : Nat × Nat} {q : Rat} : ∀ {L : List En}, (k, q) ∈ L → (L.map (·.1)).Nodup → cf L k.1 k.2 = q
  | [], h, _ => nomatch h
  | e :: L, h, nd => by
    rw [List.map_cons, List.nodup_cons] at nd
    rw [cf_cons]
    rcases List.mem_cons.mp h with rfl | h
    · rw [if_pos rfl, cf_out nd.1]; grind
    · have : e.1 ≠ k := fun z => nd.1 (by rw [z]; exact List.mem_map.mpr ⟨_, h, rfl⟩)
      rw [if_neg this, cf_in h nd.2]; grind
/-- an entry stored -/
def putE (L : List En) (k : Nat × Nat) (q : Rat) : List En := if L.any (fun e => decide (e.1 = k)) then L.map (fun e => if e.1 = k then (e.1, q) else e) else L ++ [(k, q)]
theorem keys_put {L : List En} {k : Nat × Nat} {q : Rat} : (putE L k q).map (·.1) = if k ∈ L.map (·.1) then L.map (·.1) else L.map (·.1) ++ [k] := by
  unfold putE
  by_cases h : k ∈ L.map (·.1)
  · have h2 : L.any (fun e => decide (e.1 = k)) = true := by
      rw [List.any_eq_true]
      obtain ⟨e, he, rfl⟩ := List.mem_map.mp h
      exact ⟨e, he, by simp⟩
    rw [if_pos h2, if_pos h, List.map_map]
    exact List.map_congr_left fun e _ => by
      show (if e.1 = k then (e.1, q) else e).1 = e.1
      split <;> rfl
  · have h2 : ¬ L.any (fun e => decide (e.1 = k)) = true := by
      intro z
      obtain ⟨e, he, hk⟩ := List.any_eq_true.mp z
      exact h (List.mem_map.mpr ⟨e, he, by simpa using hk⟩)
    rw [if_neg h2, if_neg h, List.map_append]
    rfl
theorem nodup_put {L : List En} {k : Nat × Nat} {q : Rat} (h : (L.map (·.1)).Nodup) : ((putE L k q).map (·.1)).Nodup := by
  rw [keys_put]
  split
  · exact h
  · rename_i z
    exact List.nodup_append.mpr ⟨h, by simp, fun a ha b hb => by
      rw [List.mem_singleton.mp hb]
      exact fun e => z (e ▸ ha)⟩
theorem cf_put {L : List En} {k : Nat × Nat} {q : Rat} {i j : Nat} (nd : (L.map (·.1)).Nodup) : cf (putE L k q) i j = if k = (i, j) then q else cf L i j := by
  by_cases h : k ∈ L.map (·.1)
  · by_cases e : k = (i, j)
    · subst e
      rw [if_pos rfl]
      have hm : ((i, j), q) ∈ putE L (i, j) q := by
        unfold putE
        have h2 : L.any (fun e => decide (e.1 = (i, j))) = true := by
          rw [List.any_eq_true]
          obtain ⟨e, he, z⟩ := List.mem_map.mp h
          exact ⟨e, he, by simpa using z⟩
        rw [if_pos h2]
        obtain ⟨e, he, z⟩ := List.mem_map.mp h
        exact List.mem_map.mpr ⟨e, he, by rw [if_pos z, z]⟩
      exact cf_in hm (nodup_put nd)
    · rw [if_neg e]
      unfold putE
      split
      · unfold cf
        rw [rs_map]
        refine rs_congr fun a _ => ?_
        by_cases z : a.1 = k
        · rw [if_pos z]
          show (if a.1 = (i, j) then q else 0) = _
          rw [if_neg (by rw [z]; exact e), if_neg (by rw [z]; exact e)]
        · rw [if_neg z]
      · rw [cf_app, cf_one, if_neg e]; grind
  · have h2 : ¬ L.any (fun e => decide (e.1 = k)) = true := by
      intro z
      obtain ⟨e, he, hk⟩ := List.any_eq_true.mp z
      exact h (List.mem_map.mpr ⟨e, he, by simpa using hk⟩)
    unfold putE
    rw [if_neg h2, cf_app, cf_one]
    split
    · rename_i z
      rw [cf_out (z ▸ h)]; grind
    · grind
theorem mem_put {L : List En} {k : Nat × Nat} {q : Rat} {e : En} (h : e ∈ putE L k q) : e = (k, q) ∨ e ∈ L := by
  unfold putE at h
  split at h
  · obtain ⟨a, ha, rfl⟩ := List.mem_map.mp h
    split
    · rename_i z
      exact .inl (by rw [z])
    · exact .inr ha
  · rcases List.mem_append.mp h with h | h
    · exact .inr h
    · exact .inl (List.mem_singleton.mp h)
theorem len_put {L : List En} {k : Nat × Nat} {q : Rat} : (putE L k q).length ≤ L.length + 1 := by
  unfold putE
  split
  · rw [List.length_map]; omega
  · rw [List.length_append]; exact Nat.le_refl _
/-- a sum over entries, taken by coefficients over a row of powers that holds all -/
theorem rs_box (g : Nat × Nat → Rat) {B : List (Nat × Nat)} (nb : B.Nodup) : ∀ {L : List En}, (∀ e ∈ L, g e.1 ≠ 0 → e.1 ∈ B) → rs (fun e => e.2 * g e.1) L = rs (fun p => cf L p.1 p.2 * g p) B
  | [], _ => (rs_zero fun p _ => by show (0 : Rat) * _ = 0; grind).symm
  | e :: L, h => by
    show e.2 * g e.1 + rs _ L = _
    rw [rs_box g nb (L := L) fun a ha => h a (List.mem_cons_of_mem _ ha)]
    have e1 : rs (fun p => cf (e :: L) p.1 p.2 * g p) B = rs (fun p => (if e.1 = p then e.2 else 0) * g p + cf L p.1 p.2 * g p) B := rs_congr fun p _ => by
      rw [cf_cons]
      grind
    rw [e1, rs_add]
    have e2 : rs (fun p => (if e.1 = p then e.2 else 0) * g p) B = e.2 * g e.1 := by
      by_cases z : g e.1 = 0
      · rw [z]
        refine (rs_zero fun p _ => ?_).trans (by grind)
        by_cases y : e.1 = p
        · rw [← y, z]; grind
        · rw [if_neg y]; grind
      · have hb := h e (List.mem_cons_self ..) z
        clear e1 h
        induction B with
        | nil => exact nomatch hb
        | cons b B ih =>
          rw [List.nodup_cons] at nb
          show (if e.1 = b then e.2 else 0) * g b + rs _ B = _
          by_cases y : e.1 = b
          · rw [if_pos y, rs_zero fun p hp => ?_]
            · rw [y]; grind
            · rw [if_neg (fun w => nb.1 (by rw [← y, w]; exact hp))]; grind
          · rw [if_neg y, ih nb.2 ((List.mem_cons.mp hb).resolve_left y)]; grind
    rw [e2]
/-- the product's coefficient, entry by entry -/
def tm1 (a : En) (M : List En) (i j : Nat) : Rat := rs (fun b => if (a.1.1 + b.1.1, a.1.2 + b.1.2) = (i, j) then a.2 * b.2 else 0) M
def tm (L M : List En) (i j : Nat) : Rat := rs (fun a => tm1 a M i j) L
def box (i j : Nat) : List (Nat × Nat) := (List.range (i + 1)).flatMap fun a => (List.range (j + 1)).map fun b => (a, b)
theorem mem_box {i j : Nat} {p : Nat × Nat} : p ∈ box i j ↔ p.1 ≤ i ∧ p.2 ≤ j := by
  unfold box
  rw [List.mem_flatMap]
  constructor
  · rintro ⟨a, ha, h⟩
    obtain ⟨b, hb, rfl⟩ := List.mem_map.mp h
    rw [List.mem_range] at ha hb
    exact ⟨by omega, by omega⟩
  · rintro ⟨h1, h2⟩
    exact ⟨p.1, List.mem_range.mpr (by omega), List.mem_map.mpr ⟨p.2, List.mem_range.mpr (by omega), rfl⟩⟩
theorem nodup_box (i j : Nat) : (box i j).Nodup := by
  unfold box
  rw [List.flatMap]
  show List.Pairwise _ _
  rw [List.pairwise_flatten]
  refine ⟨fun l hl => ?_, ?_⟩
  · obtain ⟨a, _, rfl⟩ := List.mem_map.mp hl
    show List.Pairwise _ _
    rw [List.pairwise_map]
    exact (List.nodup_range (n := j + 1)).imp fun ne e => ne (Prod.mk.inj e).2
  · rw [List.pairwise_map]
    refine List.Pairwise.imp_of_mem ?_ (List.nodup_range (n := i + 1))
    intro a b _ _ ne x hx y hy
    obtain ⟨_, _, rfl⟩ := List.mem_map.mp hx
    obtain ⟨_, _, rfl⟩ := List.mem_map.mp hy
    exact fun e => ne (Prod.mk.inj e).1
end LW

namespace LW
open PySem PySem.Spec PyProof.Rows L2 GL
section
variable {P : Program} {w : World} {K : PySem.W.Frag} {mg : Str → Option Value} {base : Heap}



/-! ### products of rows -/
theorem rs_range_succ (f : Nat → Rat) (n : Nat) : rs f (List.range (n + 1)) = rs f (List.range n) + f n := by
  rw [List.range_succ, rs_app]
  show _ + (f n + 0) = _
  grind
theorem rs_flat {α β : Type} (f : β → Rat) (g : α → List β) : ∀ l : List α, rs f (l.flatMap g) = rs (fun a => rs f (g a)) l
  | [] => rfl
  | a :: l => by
    rw [List.flatMap_cons, rs_app, rs_flat f g l]
    rfl
/-! ### rows that face one another -/
end
end LW

namespace LW
open PySem PySem.Spec PyProof.Rows L2 GL
section
variable {P : Program} {w : World} {K : PySem.W.Frag} {mg : Str → Option Value} {base : Heap}




/-! ### comprehensions over a list, then over a range -/
theorem t_yes {σ : L2.St} {H : Hp} {Q : Bool → Hp → Prop} (h : Q true H) : tYes σ H Q := h
end
end LW

namespace LW
open PySem PySem.Spec PyProof.Rows L2 GL
section
variable {P : Program} {w : World} {K : PySem.W.Frag} {mg : Str → Option Value} {base : Heap}




/-! ### products -/
theorem kw_one {r : List V → List V → Hp → VK → Prop} {te tf : TE} {σ : L2.St} {H : Hp} {Q : VK} (h : te σ H fun v H1 => tf σ H1 fun u H2 => r [v] [u] H2 Q) : tCKw r (tCons te tNil) (tCons tf tNil) σ H Q := h
end
end LW

/-! enumerate of a tuple. -/
namespace GL
open PySem PySem.Spec PyProof.Rows L2
open AutoSeq1 (wpAny_loadPart')
def tupIt (t : Addr) : Obj := { cls := .type "tuple_iterator", data := .fields #[.ref t, .int 0 0] }
def enumO (i : Addr) : Obj := { cls := .type "enumerate", data := .fields #[.none, .bool false, .ref i, rawInt 0, .none, .none] }
theorem meets_enumT (t : Addr) (items : Array Value) (n : Nat) (dd : Option Addr) (sl : Array (Option Value)) :
    Meets (Builtin.«enumerate.__new__» ⟨[.type "enumerate", .ref t], []⟩) (fun _ R s => s.heap.get? t = some { cls := .type "tuple", dict := dd, data := .seq items n, slots := sl } ∧
      R (.ok (.ret (.ref (s.heap.push (tupIt t)).objs.size))) { s with heap := (s.heap.push (tupIt t)).push (enumO s.heap.objs.size) }) :=
  .of_wp fun P w A R s h => by
    obtain ⟨hh, g, d, tk, os⟩ := s
    obtain ⟨ht, h⟩ := h
    have sub := sub_enumerate
    have hT : Heap.IsTuple (Shared.heap ⟨hh, g, d, tk, os⟩) t items := ⟨_, ht, rfl, n, rfl⟩
    wp_walk using wpAny_loadPart' ht
    refine wpAny_stack_any (fun stk => wpAny_pure ?_)
    split
    · rename_i c _ _ _ _ _
      cases (c == Value.type "enumerate") <;> (wp_walk using wpAny_loadPart' ht, wpAny_pyIter_tuple hT) <;> exact ⟨_, rfl, h⟩
    · (wp_walk using wpAny_loadPart' ht, wpAny_pyIter_tuple hT)
      exact ⟨_, rfl, h⟩
theorem call_enumT {P : Program} {w : World} {A : Around} {E : Value → Shared → Prop} {s : Shared} {t : Addr} {items : Array Value} {Q : Value → Shared → Prop} (hT : s.heap.IsTuple t items)
    (h : ∀ h', IsEnum h' (s.heap.objs.size + 1) s.heap.objs.size 0 .none → h'.IsTupleIter s.heap.objs.size t 0 → (∀ b o, s.heap.get? b = some o → h'.get? b = some o) → Q (.ref (s.heap.objs.size + 1)) { s with heap := h' }) :
    wpAny (model P w) A (call (.type "enumerate") [.ref t]) Q E s := by
  obtain ⟨⟨c, dd, dt, sl⟩, ht, hc, n, hd⟩ := hT
  have e1 : c = .type "tuple" := hc
  have e2 : dt = .seq items n := hd
  subst e1 e2
  refine callType_new F.called_enumerate (by decide) (F.typeCall_enumerate_1 _) (F.newCall_enumerate_1 _) (fun ob => F.args_object_init_2 ob _) F.entry_enumerate_new (meets_enumT t items n dd sl) ⟨ht, ?_⟩
  have z : (s.heap.push (tupIt t)).objs.size = s.heap.objs.size + 1 := Heap.size_push ..
  show _ ∧ _
  rw [z]
  have he : IsEnum ((s.heap.push (tupIt t)).push (enumO s.heap.objs.size)) (s.heap.objs.size + 1) s.heap.objs.size 0 .none := by
    have q := Heap.get?_push_size (s.heap.push (tupIt t)) (o := enumO s.heap.objs.size) rfl
    rw [z] at q
    exact q
  exact ⟨⟨_, he, rfl⟩, h _ he ⟨_, Heap.get?_push_of_some _ (Heap.get?_push_size _ rfl), rfl, rfl⟩ fun b o x => Heap.get?_push_of_some _ (Heap.get?_push_of_some _ x)⟩
/-- the tuple at a, each item in a new pair -/
def IteT (K : PySem.W.Frag) (a : Addr) : It :=
  ⟨fun i H => ∃ (xs : List V) (x : V), SqT K H a xs ∧ xs[i]? = some x, fun i H v H' => ∃ T x, v = .ref T ∧ H T = none ∧ H' = upd H T (.tup [.int (i : Nat), x]) ∧ ∀ xs, SqT K H a xs → xs[i]? = some x, fun i H => ∃ xs : List V, SqT K H a xs ∧ xs.length = i⟩
theorem turn_enumT {P : Program} {w : World} {K : PySem.W.Frag} {elts : List Expr} {kk : Nat} {tpos : Pos} (a e it : Addr) :
    Turn P w K (.Tuple elts kk tpos) (IteT K a) [e, it] e (fun i h => (∃ old, IsEnum h e it ((i : Nat) : Int) old) ∧ h.IsTupleIter it a i ∧ e ≠ it) where
  mem := by simp
  obj := fun i h st b hb => by
    obtain ⟨⟨old, he⟩, ⟨o, ho, hc, hd⟩, _⟩ := st
    rcases (show b = e ∨ b = it by simpa using hb) with z | z
    · rw [z]; exact ⟨_, he, fun v q => nomatch q⟩
    · rw [z]; exact ⟨o, ho, fun v q => by rw [hd] at q; cases q⟩
  keep := fun i h h' st k => by
    obtain ⟨⟨old, he⟩, hi, hne⟩ := st
    exact ⟨⟨old, k e (by simp) _ he⟩, hi.at (fun o q => k it (by simp) o q), hne⟩
  item := by
    intro X hP hw hK hc i pins s σ H E I hf st hg
    subst hP hw hK
    obtain ⟨⟨old, he⟩, hit, hne⟩ := st
    obtain ⟨xs, x, hq, hx⟩ := hg
    obtain ⟨its, rv, p, hz⟩ := I.tuple hq
    have hh := I.ok.hd hc
    obtain ⟨u, hu, ru⟩ := rv.get hx
    have le : e < s.heap.objs.size := Heap.lt_size he
    have li : it < s.heap.objs.size := by obtain ⟨_, q, _⟩ := hit; exact Heap.lt_size q
    have ai : a ≠ it := fun z => by
      obtain ⟨o1, h1, c1, _⟩ := p
      obtain ⟨o2, h2, c2, _⟩ := hit
      rw [z, h2] at h1
      cases h1
      rw [c1] at c2
      exact absurd (Value.type.inj c2) (by decide)
    have ae : a ≠ e := fun z => by
      obtain ⟨o1, h1, c1, _⟩ := p
      rw [z] at h1
      have h2 := he.symm.trans h1
      cases h2
      exact absurd (Value.type.inj c1) (by decide)
    have lt : i < its.toArray.size := by
      have := (List.getElem?_eq_some_iff.mp hu).1
      simpa using this
    refine wpAny_pyNext_enum_itemD (Draws.tuple (prog := X.prog) (w := X.w) (A := X.A.in1) hh it a ai its.toArray) he ⟨hit, p⟩ lt hne (by simp [hne, Ne.symm ae]) fun y h' tk hy ho hst hT hsz hk => ?_
    have ey : y = u := by
      have e1 : its.toArray[i]? = some u := by simpa using hu
      rw [e1] at hy
      cases hy
      rfl
    subst ey
    refine ⟨_, rfl, wpAny_letOwnedTupleGo_enum (s := { s with heap := h', toks := tk + 1 }) ho (fun h2 he' sb => ?_)⟩
    have t2 : h2.get? s.heap.objs.size = some { cls := .type "tuple", data := .seq #[.int i tk, y] } := (sb.2 _ (Nat.ne_of_gt le)).trans hT
    have new : ObjOk X.prog X.w (upd H s.heap.objs.size (.tup [.int (i : Nat), x])) h2 s.heap.objs.size (.tup [.int (i : Nat), x]) :=
      ⟨by show 2 ≤ sizeLine; decide, [.int i tk, y], .cons ⟨_, rfl⟩ (.cons ru .nil), ⟨_, t2, rfl, _, rfl⟩⟩
    have I1 : Inv X pins σ (upd H s.heap.objs.size (.tup [.int (i : Nat), x])) { s with heap := h2, toks := tk + 1 } :=
      I.turnedNew (ch := [e, it]) (fun b ob hb q => (sb.2 b (fun z => hb (by simp [z]))).trans (hk b ob (fun z => hb (by simp [z])) (fun z => hb (by simp [z])) q)) hf (Nat.le_refl _) new
    refine ⟨.ref s.heap.objs.size, _, I1, rfl, ⟨_, x, rfl, I.hok.fresh (Nat.le_refl _), rfl, fun ys hy2 => ?_⟩, ⟨⟨y, ?_⟩, hst.1.at (fun o q => (sb.2 it (Ne.symm hne)).trans q), hne⟩, fun b hb => ?_⟩
    · obtain ⟨its2, rv2, p2, _⟩ := I.tuple hy2
      have e3 : ys = xs := I.tuple_inj hy2 hq
      rw [e3]; exact hx
    · have e1 : ((i + 1 : Nat) : Int) = (i : Int) + 1 := by omega
      rw [e1]; exact he'
    · have lb : b < s.heap.objs.size := by
        rcases (show b = e ∨ b = it by simpa using hb) with z | z
        · rw [z]; exact le
        · rw [z]; exact li
      rw [upd_ne (Nat.ne_of_lt lb)]
      exact (hf b hb).1
  done := by
    intro X hP hw hK hc i pins s σ H E I hf st hg
    subst hP hw hK
    obtain ⟨⟨old, he⟩, hit, hne⟩ := st
    obtain ⟨xs, hq, hx⟩ := hg
    obtain ⟨its, rv, p, hz⟩ := I.tuple hq
    obtain ⟨f0, f1, f2, f3, f4, f5⟩ := hf it (by simp)
    have hh := I.ok.hd hc
    have ai : a ≠ it := fun z => by
      obtain ⟨o1, h1, c1, _⟩ := p
      obtain ⟨o2, h2, c2, _⟩ := hit
      rw [z, h2] at h1
      cases h1
      rw [c1] at c2
      exact absurd (Value.type.inj c2) (by decide)
    have ei : i = its.toArray.size := by
      rw [List.size_toArray, ← rv.length]
      exact hx.symm
    subst ei
    exact wpAny_pyNext_enum_endD (Draws.tuple (prog := X.prog) (w := X.w) (A := X.A.in1) hh it a ai its.toArray) he ⟨hit, p⟩ fun h' eb => ⟨rfl, I.turned (t' := s.toks) (fun b o hb q => eb b o hb q) f0 f1 f3 f4 f5⟩
  self := fun A i s Q E st h => by
    obtain ⟨⟨_, he⟩, _⟩ := st
    exact wpAny_pyIter_enum he h
def iEnumT (K : PySem.W.Frag) (ta : TA) : TI := fun σ H R => ta σ H fun vs H1 => ∃ a xs, vs = [.ref a] ∧ SqT K H1 a xs ∧ R (IteT K a) H1
theorem pi_enumT {X : Cx} {e : Expr} {ta : TA} {p pos tpos : Pos} {elts : List Expr} {kk : Nat} (hg : Gl X "enumerate") (hm : X.mg "enumerate" = none) (ha : PA X [e] ta) (hs : starEach [e] X.env = [(false, eval e X.env)] := by rfl) :
    PI X (.Tuple elts kk tpos) (.Call (.Name "enumerate" p) [e] [] pos) (iEnumT X.K ta) := by
  refine ⟨fun pins s σ H R I h => Call_ (ld_blt I hg hm boot_enumerate (PyProof.Rows.callWith_type1 (thn (ha.run pos pins s σ H _ I h) fun us s1 ⟨vs, H1, I1, r1, q1⟩ => ?_) hs rfl))⟩
  obtain ⟨a, xs, rfl, hq, q⟩ := q1
  cases r1 with
  | cons r rr =>
    cases rr
    cases r
    obtain ⟨its, rv, p', hz⟩ := I1.tuple hq
    refine call_enumT p' fun h' he hit hk => wpAny_pyIter_enum he ?_
    have I2 : Inv X pins σ H1 { s1 with heap := h' } := I1.kept (t' := s1.toks) hk
    refine ⟨s1.heap.objs.size + 1, [s1.heap.objs.size + 1, s1.heap.objs.size], _, _, H1, rfl, I2, turn_enumT a (s1.heap.objs.size + 1) s1.heap.objs.size, ⟨⟨.none, he⟩, hit, Nat.succ_ne_self _⟩, fun b hb => ?_, q⟩
    have lb : s1.heap.objs.size ≤ b := by
      rcases (show b = s1.heap.objs.size + 1 ∨ b = s1.heap.objs.size by simpa using hb) with z | z
      · rw [z]; exact Nat.le_add_right _ _
      · rw [z]; exact Nat.le_refl _
    exact I1.fpOk lb (I1.hok.fresh lb)
end GL

namespace LW
open PySem PySem.Spec PyProof.Rows L2 GL
section
variable {P : Program} {w : World} {K : PySem.W.Frag} {mg : Str → Option Value} {base : Heap}




/-! ### enumerate of a tuple, in a comprehension -/
theorem l_lcEG {σ : L2.St} {H : Hp} {g : TG} {tt : TT} {te : TE} {ta : TA} {vs : List Nat} {Q : VK} {a : Addr} {xs : List V} (Pv : Addr → Nat → Hp → Prop) (h : VA ta σ H [.ref a]) (hx : SqT K H a xs) (h0 : ∀ D, H D = none → Pv D 0 (upd H D (.lst []))) (hl : ∀ D i H1, H D = none → Pv D i H1 → SqT K H1 a xs) (grow : ∀ D i H1 H2, Pv D i H1 → L2.Same H1 H2 → Pv D i H2)
    (hs : ∀ D (i : Nat) x T H1, H D = none → xs[i]? = some x → Pv D i H1 → H1 T = some (.tup [.int (i : Int), x]) → g (.ref T) (wipe σ vs) H1 fun σ2 H2 => wipe σ2 vs = wipe σ vs ∧ tt σ2 H2 fun b H3 => if b = true then te σ2 H3 fun y H4 => ∃ acc, H4 D = some (.lst acc) ∧ acc.length < sizeLine ∧ Pv D (i + 1) (upd H4 D (.lst (acc ++ [y]))) else Pv D (i + 1) H3)
    (hd : ∀ D H1, H D = none → Pv D xs.length H1 → Q (.ref D) H1) : tLc (iEnumT K ta) g tt te vs σ H Q := by
  refine h _ ⟨a, xs, rfl, hx, fun D hD => ⟨fun i m H1 => m = xs.length - i ∧ i ≤ xs.length ∧ Pv D i H1, ⟨_, rfl, Nat.zero_le _, h0 D hD⟩, ?_⟩⟩
  rintro i m H1 ⟨rfl, hi, p⟩
  have q1 := hl D i H1 hD p
  rcases Nat.lt_or_ge i xs.length with lt | ge
  · have e : xs[i]? = some xs[i] := List.getElem?_eq_getElem lt
    refine .inr ⟨⟨xs, xs[i], q1, e⟩, Pv D (i + 1), fun H' p' => ⟨xs.length - (i + 1), by omega, rfl, lt, p'⟩, ?_⟩
    rintro v H' ⟨T, x, rfl, hT, rfl, f⟩
    have ex : x = xs[i] := by
      have := f xs q1
      rw [e] at this
      exact (Option.some.inj this).symm
    subst ex
    exact hs D i _ T _ hD e (grow D i _ _ p (Same.new' (o := .tup [.int ((i : Nat) : Int), xs[i]]) hT)) upd_same
  · obtain rfl : i = xs.length := by omega
    exact .inl ⟨⟨xs, q1, rfl⟩, hd D H1 hD p⟩
def pr (x y : Int) : PyData := .tuple [.int x, .int y]

def polyD (xs : List Rat) : PyData := .tuple (xs.map fun q => pr q.num (q.den : Int))
theorem lo_dp {H : Hp} {p : Addr} {q : Rat} (h : Lo H p q) : Dp K H (.ref p) (pr q.num (q.den : Int)) := .tup (SqT.of h) (.cons (.int _) (.cons (.int _) .nil))
theorem lo_dd {H : Hp} {p : Addr} {q : Rat} (h : Lo H p q) : Dd K H (.ref p) (pr q.num (q.den : Int)) := .tup (SqT.of h) (.cons (.int _) (.cons (.int _) .nil))
theorem los_dd {H : Hp} {t : Addr} {xs : List Rat} (h : Los H t xs) : Dd K H (.ref t) (polyD xs) := by
  obtain ⟨vs, e, al⟩ := h
  refine .tup (SqT.of e) ?_
  clear e
  induction al with
  | nil => exact .nil
  | cons h _ ih =>
    obtain ⟨p, rfl, lo⟩ := h
    exact .cons (lo_dd lo) ih
theorem polyD_shaped (xs : List Rat) : SeqAt.shaped (polyD xs) = true := by
  have h : ∀ xs : List Rat, PyData.canLayAll0 (xs.map fun q => pr q.num (q.den : Int)) = true ∧ PyData.depthAll (xs.map fun q => pr q.num (q.den : Int)) ≤ 2 := fun xs => by
    induction xs with
    | nil => exact ⟨rfl, by simp [PyData.depthAll]⟩
    | cons x xs ih =>
      rw [List.map_cons]
      refine ⟨?_, ?_⟩
      · simp only [PyData.canLayAll0, ih.1, Bool.and_true]
        rfl
      · have : (pr x.num (x.den : Int)).depth ≤ 2 := by simp [pr, PyData.depth, PyData.depthAll]
        simp only [PyData.depthAll]
        omega
  have h2 := (h xs).2
  refine Bool.and_eq_true_iff.mpr ⟨(h xs).1, decide_eq_true ?_⟩
  have e : (polyD xs).depth = 1 + PyData.depthAll (xs.map fun q => pr q.num (q.den : Int)) := by unfold polyD; simp [PyData.depth]; omega
  rw [e]
  omega

/-! ### minus -/
theorem losL_of {f : Nat → Rat} {n : Nat} {D : Addr} {H : Hp} {vs : List V} {xs : List Rat} (e : H D = some (.lst vs)) (r : Rows (fun i v H => ∃ p q, v = V.ref p ∧ xs[i]? = some q ∧ Lo H p q) 0 n vs H) (hn : n = xs.length) : LosL H D xs :=
  ⟨vs, e, All2.mk (by rw [r.2, hn]) fun i v q hv hq => by
    obtain ⟨p, q', rfl, h2, lo⟩ := r.1.get hv
    rw [Nat.zero_add, hq] at h2
    cases h2
    exact ⟨p, rfl, lo⟩⟩
/-- items that are told ratios of a row -/
def Itm (xs : List Rat) : Addr → Nat → V → Hp → Prop := fun _ i v H => ∃ p q, v = V.ref p ∧ xs[i]? = some q ∧ Lo H p q
theorem itm_st (xs : List Rat) : ∀ D k, Stays (Itm xs D k) := fun D k v H1 H2 s ⟨p, q, h1, h2, lo⟩ => ⟨p, q, h1, h2, lo.same s⟩
theorem itm_off (xs : List Rat) : OffL (Itm xs) := fun D k v H ys zs ⟨p, q, h1, h2, lo⟩ e => ⟨p, q, h1, h2, tu_lst e _ _ lo⟩
theorem itm_los {xs : List Rat} {D : Addr} {H : Hp} {vs : List V} {n : Nat} (e : H D = some (.lst vs)) (r : Rows (Itm xs D) 0 n vs H) (hn : n = xs.length) : LosL H D xs := losL_of (f := fun _ => 0) e r hn
/-! ### slopes -/
theorem rq_nat {H : Hp} {i : Nat} (li : i < 400) : Rq H (.int (i : Int)) ((i : Nat) : Rat) := ⟨(i : Int), 1, .int _, ⟨by rw [Int.natAbs_natCast]; exact Nat.lt_of_lt_of_le li (Nat.le_trans (m := 2 ^ 9) (by decide) (Nat.pow_le_pow_right (by decide) (by decide))), Nat.one_lt_two_pow (by decide)⟩, by
  rw [Rat.divInt_eq_div]
  show ((i : Nat) : Rat) = ((i : Int) : Rat) / ((1 : Int) : Rat)
  rw [Rat.intCast_one]
  have := Rat.mul_div_cancel (a := ((i : Int) : Rat)) (b := 1) (by decide)
  rw [Rat.mul_one] at this
  rw [this]
  rfl⟩
/-! ### the signs -/
end
end LW

namespace LW
open PySem PySem.Spec PyProof.Rows L2 GL
section
variable {P : Program} {w : World} {K : PySem.W.Frag} {mg : Str → Option Value} {base : Heap}



theorem q_two {te : TE} {i j : Nat} {tz : TS} {D : Ends} {σ : L2.St} {H : Hp} (h : te σ H fun v H1 => gTup K 2 (gCons (gName i) (gCons (gName j) gNil)) v σ H1 fun σ2 H2 => tz D σ2 H2) : tSeq (tAsg te (gTup K 2 (gCons (gName i) (gCons (gName j) gNil)))) tz D σ H := h
theorem q_par {ta : TA} {tz : TS} {D : Ends} {σ : L2.St} {H : Hp} {i j : Nat} (h : ta σ H fun vs H1 => ∃ v w, vs = [v, w] ∧ tz D ((σ.set i (some v)).set j (some w)) H1) : tSeq (tPar i j ta) tz D σ H := h

theorem q_forRev {g : TG} {ta : TA} {tb tz : TS} {D : Ends} {σ : L2.St} {H : Hp} {a : Addr} {xs : List V} (h : VA ta σ H [.ref a]) (hx : SqL K H a xs) (Pv : Nat → L2.St → Hp → Prop) (h0 : Pv 0 σ H) (hq : ∀ i σ H, Pv i σ H → SqL K H a xs)
    (hs : ∀ i x σ H, i < xs.length → xs[xs.length - 1 - i]? = some x → Pv i σ H → g x σ H fun σ2 H2 => tb { D with nx := Pv (i + 1), ct := Pv (i + 1), bk := tz D } σ2 H2) (hd : ∀ σ H, Pv xs.length σ H → tz D σ H) : tSeq (tFor (iRev K ta) g tb) tz D σ H := by
  refine h _ ⟨a, xs, rfl, hx, fun i m σ H => m = xs.length - i ∧ i ≤ xs.length ∧ Pv i σ H, ⟨_, rfl, Nat.zero_le _, h0⟩, ?_⟩
  rintro i m σ H ⟨rfl, hi, p⟩
  have q := hq i σ H p
  rcases Nat.lt_or_ge i xs.length with lt | ge
  · have e : xs[xs.length - 1 - i]? = some xs[xs.length - 1 - i] := List.getElem?_eq_getElem (by omega)
    refine .inr ⟨⟨lt, xs, _, q, e⟩, Pv (i + 1), fun σ' H' p' => ⟨xs.length - (i + 1), by omega, rfl, lt, p'⟩, ?_⟩
    rintro v H' ⟨rfl, f⟩
    exact hs i v σ _ lt (f xs q) p
  · obtain rfl : i = xs.length := by omega
    exact .inl ⟨Nat.le_refl _, hd σ H p⟩
def peval : List Rat → Rat → Rat
  | [], _ => 0
  | x :: r, q => x + q * peval r q

/-! ### values of rows of whole numbers -/
theorem q_forRm {g : TG} {tb tz : TS} {D : Ends} {σ : L2.St} {H : Hp} {ta : TA} {m : Int} (h : VA ta σ H [.int m]) (hm : -1000 ≤ m ∧ m ≤ 100000) (Pv : Nat → L2.St → Hp → Prop) (h0 : Pv 0 σ H)
    (hs : ∀ i σ H, i < m.toNat → Pv i σ H → g (.int (i : Int)) σ H fun σ2 H2 => tb { D with nx := Pv (i + 1), ct := Pv (i + 1), bk := tz D } σ2 H2) (hd : ∀ σ H, Pv m.toNat σ H → tz D σ H) : tSeq (tFor (iRng1 ta) g tb) tz D σ H :=
  h _ ⟨m, rfl, by omega, by omega, for_range (lo := 0) (n := m.toNat) (D := { D with nx := tz D }) Pv h0 (fun i σ H hi p => by
    rw [Int.zero_add]
    exact hs i σ H hi p) hd⟩
def vAt : List Int → Int → Int → Int
  | [], _, _ => 0
  | a :: r, t, b => vAt r t b * t + a * b ^ r.length
theorem abs_pow {b : Int} {B : Nat} (h : b.natAbs < 2 ^ B) (k : Nat) : (b ^ k).natAbs ≤ 2 ^ (B * k) := by
  rw [Int.natAbs_pow, Nat.pow_mul]
  exact Nat.pow_le_pow_left (Nat.le_of_lt h) k
theorem vAt_lt {t b : Int} {A B : Nat} (ht : t.natAbs < 2 ^ B) (hb : b.natAbs < 2 ^ B) : ∀ ns : List Int, (∀ a ∈ ns, a.natAbs < 2 ^ A) → (vAt ns t b).natAbs < 2 ^ (A + (B + 1) * ns.length)
  | [], _ => Nat.two_pow_pos _
  | a :: r, h => by
    have ih := vAt_lt ht hb r fun x hx => h x (List.mem_cons_of_mem _ hx)
    have ha := h a (List.mem_cons_self ..)
    rw [vAt, List.length_cons]
    have e : (2 : Nat) ^ (A + (B + 1) * (r.length + 1)) = 2 ^ (A + (B + 1) * r.length) * 2 ^ B + 2 ^ (A + (B + 1) * r.length) * 2 ^ B := by
      rw [← Nat.mul_two, ← Nat.pow_add, ← Nat.pow_succ]
      congr 1
      rw [Nat.mul_succ]
      omega
    rw [e]
    refine Nat.lt_of_le_of_lt (Int.natAbs_add_le _ _) (Nat.add_lt_add_of_lt_of_le ?_ ?_)
    · rw [Int.natAbs_mul]
      exact Nat.mul_lt_mul'' ih ht
    · rw [Int.natAbs_mul]
      refine Nat.le_trans (Nat.mul_le_mul (Nat.le_of_lt ha) (abs_pow hb r.length)) ?_
      rw [← Nat.pow_add, ← Nat.pow_add]
      refine Nat.pow_le_pow_right (by decide) ?_
      have : B * r.length ≤ (B + 1) * r.length := Nat.mul_le_mul_right _ (Nat.le_succ B)
      omega
theorem wide_5 {i j : Int} (h : i.natAbs < 2 ^ 5000) (g : j.natAbs < 2 ^ 5000) : CMulW i j := wide_mul h g (by decide) (by decide) (by decide)
def spVal : Sp := fun vs H Q _ => ∃ (l : Addr) (ns : List Int) (t b : Int) (A B : Nat), vs = [.ref l, .int t, .int b] ∧ SqL K H l (ns.map V.int) ∧ (∀ a ∈ ns, a.natAbs < 2 ^ A) ∧ t.natAbs < 2 ^ B ∧ b.natAbs < 2 ^ B ∧ A + (B + 1) * ns.length + B ≤ 4000 ∧ ns.length ≤ 1000 ∧ ∀ H', L2.Same H H' → Q (.int (vAt ns t b)) H'
theorem ok_value_at (T : Txt K mg) : FnOk P w K mg base CX0 1 (fA mg "_value_at") (fDat K (fA mg "_value_at")) ["tops", "top", "bottom"] (spVal (K := K)) := by
  refine T._value_at.F.ok sc_value_at (fun vs H Q E h => ?_) (fun cdv A outer s H vs Q E hr h => ?_)
  · obtain ⟨l, ns, t, b, A, B, rfl, _⟩ := h
    rfl
  obtain ⟨l, ns, t, b, A, B, rfl, hl, hA, ht, hb, hB, hn, q⟩ := h
  refine ⟨_, (pss_cons (ps_asg (pe_tup (pa_cons pe_int (pa_cons pe_int pa_nil))) (pg_tup rfl (pgs_cons (pg_name (i := 3) sc_value_at.nd rfl (Or.inl rfl)) (pgs_cons (pg_name (i := 4) sc_value_at.nd rfl (Or.inl rfl)) pgs_nil))))
  (pss_cons (ps_for PassesOwn.never rfl (pi_reversed (by rfl) T.reversed (pa_cons (pv 0) pa_nil)) (pg_name (i := 5) sc_value_at.nd rfl (Or.inl rfl))
  (pss_cons (ps_set (i := 3) sc_value_at.nd rfl (Or.inl rfl) (pe_op op_add (pe_op op_mulW (pv 3) (pv 1)) (pe_op op_mulW (pv 5) (pv 4))))
  (pss_one (ps_set (i := 4) sc_value_at.nd rfl (Or.inl rfl) (pe_op op_mulW (pv 4) (pv 2))))))
  (pss_one (ps_ret (pv 3))))), ?_⟩
  have P0 : ∀ {a : Nat}, a ≤ 4000 → (2 : Nat) ^ a < 2 ^ 5000 := fun h => Nat.pow_lt_pow_right (by decide) (by omega)
  refine q_two (l_tup (va_cons val_c (va_cons val_c va_nil)) (by decide) fun pz hpz => g_two (SqT.of upd_same) ?_)
  have sz := Same.new' (o := .tup [.int 0, .int 1]) hpz
  have hl := sz.seq hl
  revert hl sz
  generalize upd H pz (.tup [.int 0, .int 1]) = H1
  intro sz hl
  refine q_forRev (K := K) (xs := ns.map V.int) (va_cons (val_var rfl) va_nil) hl (fun k σ H3 => H3 = H1 ∧ ∃ z : Option V, σ = [some (.ref l), some (.int t), some (.int b), some (.int (vAt (ns.drop (ns.length - k)) t b)), some (.int (b ^ k)), z]) ⟨rfl, none, by rw [Nat.sub_zero, List.drop_length, Int.pow_zero]; rfl⟩ (fun k σ H3 z => by rw [z.1]; exact hl) (fun k x σ H3 hk hx z => ?_) (fun σ H3 z => ?_)
  · obtain ⟨rfl, z, rfl⟩ := z
    rw [List.length_map] at hk hx
    have i1 : ns.length - (k + 1) = ns.length - 1 - k := by omega
    have lt : ns.length - (k + 1) < ns.length := by omega
    rw [← i1, List.getElem?_map, List.getElem?_eq_getElem lt] at hx
    cases hx
    have ed : ns.drop (ns.length - (k + 1)) = ns[ns.length - (k + 1)] :: ns.drop (ns.length - k) := by
      rw [List.drop_eq_getElem_cons lt]
      congr 2
      omega
    have ll : (ns.drop (ns.length - k)).length = k := by rw [List.length_drop]; omega
    have vb := vAt_lt ht hb (ns.drop (ns.length - k)) fun a ha => hA a (List.mem_of_mem_drop ha)
    rw [ll] at vb
    have kB : (B + 1) * k ≤ (B + 1) * ns.length := Nat.mul_le_mul_left _ (by omega)
    have kB2 : B * k ≤ (B + 1) * k := Nat.mul_le_mul_right _ (Nat.le_succ B)
    have pb : (b ^ k).natAbs < 2 ^ 5000 := Nat.lt_of_le_of_lt (abs_pow hb k) (P0 (by omega))
    have ha := hA _ (List.getElem_mem lt)
    refine g_name ((v_add (v_mul (i := vAt (ns.drop (ns.length - k)) t b) (j := t) (val_var rfl) (val_var rfl) (wide_5 (Nat.lt_trans vb (P0 (by omega))) (Nat.lt_trans ht (P0 (by omega))))) (v_mul (i := ns[ns.length - (k + 1)]) (j := b ^ k) (val_var rfl) (val_var rfl) (wide_5 (Nat.lt_trans ha (P0 (by omega))) pb))) _ ?_)
    refine (v_mul (i := b ^ k) (j := b) (val_var rfl) (val_var rfl) (wide_5 pb (Nat.lt_trans hb (P0 (by omega))))) _ ⟨rfl, some (.int ns[ns.length - (k + 1)]), ?_⟩
    rw [ed, vAt, ll, Int.pow_succ]
    rfl
  · obtain ⟨rfl, z, rfl⟩ := z
    rw [List.length_map, Nat.sub_self, List.drop_zero]
    exact st_ret (val_var rfl) (q _ sz)
def spScaled : Sp := fun vs H Q _ => ∃ (a b m : Int) (A B : Nat), vs = [.int a, .int b, .int m] ∧ a.natAbs < 2 ^ A ∧ b.natAbs < 2 ^ B ∧ A + B * m.toNat + B ≤ 4000 ∧ -1000 ≤ m ∧ m ≤ 1000 ∧ Q (.int (a * b ^ m.toNat)) H
theorem ok_scaled (T : Txt K mg) : FnOk P w K mg base CX0 1 (fA mg "_scaled") (fDat K (fA mg "_scaled")) ["number", "bottom", "many"] spScaled := by
  refine T._scaled.F.ok sc_scaled (fun vs H Q E h => ?_) (fun cdv A outer s H vs Q E hr h => ?_)
  · obtain ⟨a, b, m, A, B, rfl, _⟩ := h
    rfl
  obtain ⟨a, b, m, A, B, rfl, ha, hb, hB, m0, m1, q⟩ := h
  refine ⟨_, (pss_cons (ps_for PassesOwn.never rfl (pi_range1 (by rfl) T.range (pa_cons (pv 2) pa_nil)) (pg_name (i := 3) sc_scaled.nd rfl (Or.inl rfl))
  (pss_one (ps_set (i := 0) sc_scaled.nd rfl (Or.inl rfl) (pe_op op_mulW (pv 0) (pv 1)))))
  (pss_one (ps_ret (pv 0)))), ?_⟩
  have P0 : ∀ {a : Nat}, a ≤ 4000 → (2 : Nat) ^ a < 2 ^ 5000 := fun h => Nat.pow_lt_pow_right (by decide) (by omega)
  refine q_forRm (m := m) (va_cons (val_var rfl) va_nil) ⟨by omega, by omega⟩ (fun k σ H3 => H3 = H ∧ ∃ z : Option V, σ = [some (.int (a * b ^ k)), some (.int b), some (.int m), z]) ⟨rfl, none, by rw [Int.pow_zero, Int.mul_one]; rfl⟩ (fun k σ H3 hk z => ?_) (fun σ H3 z => ?_)
  · obtain ⟨rfl, z, rfl⟩ := z
    have kB : B * k ≤ B * m.toNat := Nat.mul_le_mul_left _ (by omega)
    have vb : (a * b ^ k).natAbs < 2 ^ 5000 := by
      rw [Int.natAbs_mul]
      refine Nat.lt_of_lt_of_le (Nat.mul_lt_mul_of_lt_of_le ha (abs_pow hb k) (Nat.two_pow_pos _)) ?_
      rw [← Nat.pow_add]
      exact Nat.le_of_lt (P0 (by omega))
    refine g_name ((v_mul (i := a * b ^ k) (j := b) (val_var rfl) (val_var rfl) (wide_5 vb (Nat.lt_trans hb (P0 (by omega))))) _ ⟨rfl, some (.int (k : Int)), ?_⟩)
    rw [Int.pow_succ, ← Int.mul_assoc]
    rfl
  · obtain ⟨rfl, z, rfl⟩ := z
    exact st_ret (val_var rfl) q
end
end LW

namespace LW
open PySem PySem.Spec PyProof.Rows L2 GL
section
variable {P : Program} {w : World} {K : PySem.W.Frag} {mg : Str → Option Value} {base : Heap}



theorem tops_bd {B D M : Nat} {xs : List Rat} (d0 : 0 < D) (hB : B ∣ D) (b : Bds D M xs) (dd : ∀ q ∈ xs, q.den ∣ B) : ∀ a ∈ tops B xs, a.natAbs ≤ M * D := fun a ha => by
  unfold tops at ha
  obtain ⟨q, hq, rfl⟩ := List.mem_map.mp ha
  rw [Int.natAbs_mul, Int.natAbs_natCast]
  refine Nat.le_trans (Nat.mul_le_mul_right _ (b q hq).2) ?_
  rw [Nat.mul_assoc, Nat.mul_div_cancel' (dd q hq)]
  exact Nat.mul_le_mul_left _ (Nat.le_of_dvd d0 hB)
/-! ### whole numbers over one bottom, row by row -/
theorem l_lc2TT {ti te : TE} {vs vs1 : List Nat} {σ : L2.St} {H : Hp} {a : Addr} {rows : List V} {Q : VK} {j j1 : Nat} (P1 : Addr → Nat → Hp → Prop) (h : Val ti σ H (.ref a)) (hx : SqT K H a rows) (h0 : ∀ D, H D = none → P1 D 0 (upd H D (.lst [])))
    (hl : ∀ D i H1, H D = none → P1 D i H1 → SqT K H1 a rows) (w1 : ∀ v : V, wipe ((wipe σ vs).set j (some v)) vs = wipe σ vs) (hj : j < (wipe σ vs).length)
    (turn : ∀ D i v H1, H D = none → rows[i]? = some v → P1 D i H1 → ∃ (r : Addr) (xs : List V) (P2 : Nat → Hp → Prop), v = V.ref r ∧ P2 0 H1 ∧ (∀ k H2, P2 k H2 → SqT K H2 r xs) ∧
      (∀ k x H3, xs[k]? = some x → P2 k H3 → gName j1 x (wipe ((wipe σ vs).set j (some v)) vs1) H3 fun σ3 H5 => wipe σ3 vs1 = wipe ((wipe σ vs).set j (some v)) vs1 ∧ tYes σ3 H5 fun b H6 => if b = true then te σ3 H6 fun y H7 => ∃ acc, H7 D = some (.lst acc) ∧ acc.length < sizeLine ∧ P2 (k + 1) (upd H7 D (.lst (acc ++ [y]))) else P2 (k + 1) H6) ∧ ∀ H3, P2 xs.length H3 → P1 D (i + 1) H3)
    (hd : ∀ D H1, H D = none → P1 D rows.length H1 → Q (.ref D) H1) : tLc2 (iTup K ti) (gName j) tYes (iTup K (tVar j)) (gName j1) tYes te vs vs1 σ H Q := by
  refine h _ ⟨a, rfl, ⟨rows, hx⟩, fun D hD => ?_⟩
  refine ⟨fun i m H' => m = rows.length - i ∧ i ≤ rows.length ∧ P1 D i H', ⟨rows.length, by simp, Nat.zero_le _, h0 D hD⟩, ?_⟩
  rintro i m H1 ⟨rfl, hi, p⟩
  have sq := hl D i H1 hD p
  by_cases hlt : i < rows.length
  · have e1 : rows[i]? = some rows[i] := List.getElem?_eq_getElem hlt
    obtain ⟨r, xs, P2, ev, p0, sx, step, fin⟩ := turn D i _ H1 hD e1 p
    refine .inr ⟨⟨rows, _, sq, e1⟩, fun H2 => P1 D (i + 1) H2, fun H' p' => ⟨rows.length - (i + 1), by omega, rfl, hlt, p'⟩, fun x H' y => ?_⟩
    obtain ⟨e, y⟩ := y
    subst e
    have := y rows sq
    rw [e1] at this
    cases this
    refine ⟨w1 _, t_yes ?_⟩
    refine iteT ((show Val (tVar j) _ _ (.ref r) from val_var (by rw [List.getElem?_set_self hj, ev])) _ ⟨r, rfl, ⟨xs, sx 0 _ p0⟩, ?_⟩)
    refine ⟨fun k m H3 => m = xs.length - k ∧ k ≤ xs.length ∧ P2 k H3, ⟨_, rfl, Nat.zero_le _, p0⟩, ?_⟩
    rintro k m H3 ⟨rfl, hk, p2⟩
    have sk := sx k H3 p2
    by_cases hk2 : k < xs.length
    · refine .inr ⟨⟨xs, xs[k], sk, List.getElem?_eq_getElem hk2⟩, fun H4 => P2 (k + 1) H4, fun H' p' => ⟨xs.length - (k + 1), by omega, rfl, hk2, p'⟩, fun x H' y => ?_⟩
      obtain ⟨e, y⟩ := y
      subst e
      exact step k x _ (y xs sk) p2
    · have ek : k = xs.length := by omega
      subst ek
      exact .inl ⟨⟨xs, sk, Nat.le_refl _⟩, fin H3 p2⟩
  · have e : i = rows.length := by omega
    subst e
    exact .inl ⟨⟨rows, sq, Nat.le_refl _⟩, hd D H1 hD p⟩
/-- a list of lists of whole numbers -/
def LsI (H : Hp) (l : Addr) (W : List (List Int)) : Prop := ∃ us, H l = some (.lst us) ∧ All2 (fun v (ns : List Int) => ∃ a, v = V.ref a ∧ H a = some (.lst (ns.map V.int))) us W
theorem LsI.same {H H' : Hp} {l : Addr} {W : List (List Int)} (h : LsI H l W) (s : L2.Same H H') : LsI H' l W := by
  obtain ⟨us, e, al⟩ := h
  exact ⟨us, s _ _ e, al.imp fun v ns ⟨a, h1, h2⟩ => ⟨a, h1, s _ _ h2⟩⟩
def spWhR : Sp := fun vs H Q _ => ∃ (t : Addr) (R : List (List Rat)) (D0 M d0 : Nat), vs = [.ref t] ∧ Lss H t R ∧ Can R ∧ Nice D0 M d0 R ∧ Fz D0 M ∧ d0 ≤ 60 ∧ ∀ (p l : Addr) (D : Nat) (H' : Hp), L2.Same H H' → 0 < D → D ∣ D0 → (∀ r ∈ R, ∀ q ∈ r, q.den ∣ D) → H' p = some (.tup [.ref l, .int (D : Int)]) → LsI H' l (R.map (tops D)) → Q (.ref p) H'
theorem flat_len {k : Nat} : ∀ {R : List (List Rat)}, (∀ r ∈ R, r.length ≤ k) → R.flatten.length ≤ R.length * k
  | [], _ => Nat.zero_le _
  | r :: R, h => by
    rw [List.flatten_cons, List.length_append, List.length_cons, Nat.succ_mul]
    have h1 := h r (List.mem_cons_self ..)
    have h2 := flat_len (R := R) fun x hx => h x (List.mem_cons_of_mem _ hx)
    omega
theorem ok_whole_rows (T : Txt K mg) : FnOk P w K mg base CX0 3 (fA mg "whole_rows") (fDat K (fA mg "whole_rows")) ["rows"] spWhR := by
  have Gbottom_of := ok_bottom_of (P := P) (w := w) (base := base) T
  refine T.whole_rows.F.ok scwhole_rows (fun vs H Q E h => ?_) (fun cdv A outer s H vs Q E hr h => ?_)
  · obtain ⟨t, R, D0, M, d0, rfl, _⟩ := h
    rfl
  obtain ⟨t, R, D0, M, d0, rfl, ⟨vs, e, al⟩, cR, nR, fz, hd, q⟩ := h
  refine ⟨_, (pss_cons (ps_set (i := 1) scwhole_rows.nd rfl (Or.inr rfl) (pe_c T.bottom_of Gbottom_of (hr.mono (by decide)) (pa_cons (pe_lc2 (own := [("row", 2), ("pair", 3)]) (vs1 := [3]) (g := gName 2) (g1 := gName 3) (tt := tYes) (tt1 := tYes) (by rfl) scwhole_rows.nd (pi_tup (pv 0)) (blkOk_by (own := [("row", 2), ("pair", 3)]) (N := ["rows", "below", "row", "pair", "top", "bottom"]) (sc := defScope swhole_rows) (by decide +kernel)) (by decide) (fun _ _ _ _ _ => pg_name (i := 2) scwhole_rows.nd rfl (Or.inl rfl)) (fun _ _ _ _ _ => pts_nil) (fun _ _ _ _ _ => (show PI _ _ _ (iTup K (tVar 2)) from (pi_tup (pv 2)))) (fun _ _ _ _ _ => pg_name (i := 3) scwhole_rows.nd rfl (Or.inl rfl)) (fun _ _ _ _ _ => pts_nil) (fun _ _ _ _ _ => (pv 3))) pa_nil)))
  (pss_one (ps_ret (pe_tup (pa_cons (pe_lc (own := [("row", 2)]) (g := gName 2) (tt := tYes) (by rfl) scwhole_rows.nd (pi_tup (pv 0)) (blkOk_by (own := [("row", 2)]) (N := ["rows", "below", "row", "pair", "top", "bottom"]) (sc := defScope swhole_rows) (by decide +kernel)) (fun _ _ _ _ _ => pg_name (i := 2) scwhole_rows.nd rfl (Or.inl rfl)) (fun _ _ _ _ _ => pts_nil) (fun _ _ _ _ _ => (pe_lc (own := [("top", 4), ("bottom", 5)]) (g := gTup K 2 (gCons (gName 4) (gCons (gName 5) gNil))) (tt := tYes) (by rfl) scwhole_rows.nd (show PI _ _ _ (iTup K (tVar 2)) from (pi_tup (pv 2))) (blkOk_in (own := [("top", 4), ("bottom", 5)]) (N := ["rows", "below", "row", "pair", "top", "bottom"]) (defScope swhole_rows) rfl (by decide +kernel)) (fun _ _ _ _ _ => pg_tup rfl (pgs_cons (pg_name (i := 4) scwhole_rows.nd rfl (Or.inl rfl)) (pgs_cons (pg_name (i := 5) scwhole_rows.nd rfl (Or.inl rfl)) pgs_nil))) (fun _ _ _ _ _ => pts_nil) (fun _ _ _ _ _ => (pe_op op_mulW (pv 4) (pe_op op_fdivW (pv 1) (pv 5))))))) (pa_cons (pv 1) pa_nil)))))), ?_⟩
  have lv := al.len
  have lR := nR.lenR cR
  have kk : (d0 + 1) * (d0 + 1) ≤ 3721 := by
    have h1 : d0 + 1 ≤ 61 := by omega
    exact Nat.mul_le_mul h1 h1
  have wd2 : ∀ r ∈ R, r.length ≤ d0 + 1 := fun r hr => nR.lenM cR hr
  have fl : R.flatten.length ≤ (d0 + 1) * (d0 + 1) := Nat.le_trans (flat_len wd2) (Nat.mul_le_mul_right _ lR)
  refine q_asg (call_one (l_lc2TT (rows := vs) (fun D i H1 => ∃ us, L2.Same H H1 ∧ H1 D = some (.lst us) ∧ All2 (fun v q => ∃ p, v = V.ref p ∧ Lo H1 p q) us (R.take i).flatten) (val_var rfl) (SqT.of e) (fun D hD => ⟨[], Same.new' hD, upd_same, .nil⟩) (fun D i H1 _ ⟨us, s, _⟩ => SqT.of (s _ _ e)) (fun v => rfl) (by show 2 < 6; decide) (fun D i v H1 hD hv p => ?_) (fun D H1 hD ⟨us, s1, e1, al1⟩ => ?_)))
  · obtain ⟨us, s1, e1, al1⟩ := p
    obtain ⟨r, hr2, p, rfl, xs, ex, ax⟩ := al.get hv
    have lr : r.length ≤ d0 + 1 := wd2 r (get_mem hr2)
    have efl : (R.take (i + 1)).flatten = (R.take i).flatten ++ r := by
      rw [List.take_add_one, hr2, List.flatten_append]
      simp
    refine ⟨p, xs, fun m H2 => ∃ us, L2.Same H H2 ∧ H2 D = some (.lst us) ∧ All2 (fun v q => ∃ p, v = V.ref p ∧ Lo H2 p q) us ((R.take i).flatten ++ r.take m), rfl, ⟨us, s1, e1, by rw [List.take_zero, List.append_nil]; exact al1⟩, fun m H2 ⟨us, s2, _⟩ => SqT.of (s2 _ _ ex), fun m x H3 hx ⟨us, s3, e3, al3⟩ => ?_, fun H3 ⟨us, s3, e3, al3⟩ => ⟨us, s3, e3, by
      rw [efl]
      rw [ax.len, List.take_length] at al3
      exact al3⟩⟩
    obtain ⟨x0, hx0, p0, rfl, lo⟩ := ax.get hx
    have lu := al3.len
    have lt : ((R.take i).flatten ++ r.take m).length ≤ 5000 := by
      have h1 := flat_len (R := R.take i) (k := d0 + 1) fun r hr => wd2 r (List.mem_of_mem_take hr)
      have h2 : (R.take i).length * (d0 + 1) ≤ (d0 + 1) * (d0 + 1) := Nat.mul_le_mul_right _ (by rw [List.length_take]; omega)
      rw [List.length_append, List.length_take]
      omega
    refine g_name ⟨rfl, t_yes (iteT (val_var rfl _ ⟨us, e3, by rw [lu]; exact Nat.lt_of_le_of_lt lt (by decide), us ++ [.ref p0], ?_, upd_same, ?_⟩))⟩
    · intro c o z
      rw [upd_ne (ne_of_none z hD)]
      exact s3 _ _ z
    · rw [List.take_add_one, hx0, ← List.append_assoc]
      exact (al3.imp fun v q ⟨p, h1, lo⟩ => ⟨p, h1, tu_lst e3 _ _ lo⟩).append (.cons ⟨p0, rfl, tu_lst e3 _ _ (lo.same s3)⟩ .nil)
  rw [lv, List.take_length] at al1
  have dF : ∀ q ∈ R.flatten, q.den ∣ D0 := fun q hq => by
    obtain ⟨r, hr2, hq2⟩ := List.mem_flatten.mp hq
    exact (nR.mem hr2 q hq2).1
  refine ⟨D, R.flatten, D0, rfl, ⟨us, .inl e1, al1⟩, fz.d0, fz.db, dF, by omega, fun B H2 s2 b0 bl bd => ?_⟩
  have dd : ∀ r ∈ R, ∀ q ∈ r, q.den ∣ B := fun r hr2 q hq => bd q (List.mem_flatten.mpr ⟨r, hr2, hq⟩)
  have s12 := s1.trans s2
  refine r_ret (tup_two ?_)
  refine d_lcT (R := fun D i v H => ∃ a, v = V.ref a ∧ a ≠ D ∧ H a = some (.lst ((tops B (rowAt R i)).map V.int))) (fun D k v H1 H2 s ⟨a, h1, h2, h3⟩ => ⟨a, h1, h2, s _ _ h3⟩) (fun D k v H ys zs ⟨a, h1, h2, h3⟩ e => ⟨a, h1, h2, by rw [upd_ne h2]; exact h3⟩) (val_var rfl) (SqT.of (s12 _ _ e)) (by omega) (fun D i v H3 hv s3 eD => turn_name rfl fun Q' q' => ?_) (fun l zs H3 s3 nl e3 r3 => ?_)
  · obtain ⟨r, hr2, p, rfl, xs, ex, ax⟩ := al.get hv
    have er := rowAt_some hr2
    have rm : r ∈ R := get_mem hr2
    have sr := (nR.mem rm).sm fz
    have lr : r.length ≤ d0 + 1 := wd2 r rm
    have lx := ax.len
    obtain ⟨ys, eD⟩ := eD
    refine d_lcT (R := fun _ i v _ => ∃ b, (tops B r)[i]? = some b ∧ v = V.int b) (fun _ _ _ _ _ _ h => h) (fun _ _ _ _ _ _ h _ => h) (val_var rfl) (SqT.of (s3 _ _ (s12 _ _ ex))) (by omega) (fun D2 j u H4 hu s4 _ => ?_) (fun p2 ws H4 s4 n4 e4 r4 => q' _ H4 s4 ⟨p2, rfl, ne_of_some eD n4, ?_⟩)
    · obtain ⟨x, hx, p, rfl, lo⟩ := ax.get hu
      have sq := sr x (get_mem hx)
      have fn := (sq.fit (by decide)).1
      have fd := (sq.fit (by decide)).2
      have dpos := x.den_pos
      have fD : ((B / x.den : Nat) : Int).natAbs < 2 ^ 1000 := by rw [Int.natAbs_natCast]; exact Nat.lt_of_le_of_lt (Nat.le_trans (Nat.div_le_self _ _) (Nat.le_of_dvd fz.d0 bl)) fz.db
      refine turn_two (SqT.of (((lo.same s12).same s3).same s4)) rfl (em_val (v := .int (x.num * ((B / x.den : Nat) : Int))) (v_mul (val_var rfl) (Val.is (GL.v_div (i := (B : Int)) (j := (x.den : Int)) (val_var rfl) (val_var rfl) (wide_div (b := 1000) (by omega) fd (by decide) (by decide))) (by rw [Int.natCast_ediv])) (fit_mul fn fD)) ⟨_, ?_, rfl⟩)
      unfold tops
      rw [List.getElem?_map, hx]
      rfl
    · rw [lx] at r4
      show H4 p2 = some (.lst ((tops B (rowAt R i)).map V.int))
      rw [er, ← rows_map r4 (by unfold tops; rw [List.length_map])]
      exact e4
  · refine val_var rfl _ ⟨by decide, fun p2 hp2 => ?_⟩
    have s4 := Same.new' (o := .tup [.ref l, .int (B : Int)]) hp2
    refine q p2 l B _ ((s12.trans s3).trans s4) b0 bl dd upd_same ⟨zs, s4 _ _ e3, All2.mk (by rw [r3.2, lv, List.length_map]) fun i v ns hv hns => ?_⟩
    obtain ⟨a, rfl, _, ea⟩ := r3.1.get hv
    rw [Nat.zero_add] at ea
    rw [List.getElem?_map] at hns
    cases hr3 : R[i]? with
    | none => rw [hr3] at hns; cases hns
    | some r =>
      rw [hr3] at hns
      cases hns
      rw [rowAt_some hr3] at ea
      exact ⟨a, rfl, s4 _ _ ea⟩
end
end LW

namespace LW
open PySem PySem.Spec PyProof.Rows L2 GL
section
variable {P : Program} {w : World} {K : PySem.W.Frag} {mg : Str → Option Value} {base : Heap}



theorem num_den (q : Rat) : (q.num : Rat) = q * (q.den : Rat) := by
  have h : (q.den : Rat) ≠ 0 := by
    intro z
    have : (0 : Rat) < (q.den : Rat) := Rat.natCast_pos.mpr q.den_pos
    rw [z] at this
    exact Rat.lt_irrefl this
  have e := Rat.num_divInt_den q
  rw [Rat.divInt_eq_div] at e
  have e2 := Rat.div_mul_cancel (a := (q.num : Rat)) h
  rw [show ((q.num : Rat) / (q.den : Rat)) = q from e] at e2
  exact e2.symm
theorem tops_len (D : Nat) (xs : List Rat) : (tops D xs).length = xs.length := List.length_map _

/-! ### values -/
def rp (x : Rat) : Nat → Rat
  | 0 => 1
  | n + 1 => rp x n * x
theorem rp_add (x : Rat) (m : Nat) : ∀ n, rp x (m + n) = rp x m * rp x n
  | 0 => by rw [Nat.add_zero, rp, Rat.mul_one]
  | n + 1 => by rw [← Nat.add_assoc, rp, rp_add x m n, rp, Rat.mul_assoc]
theorem rp_cast (b : Int) : ∀ n : Nat, ((b ^ n : Int) : Rat) = rp (b : Rat) n
  | 0 => by rw [Int.pow_zero]; rfl
  | n + 1 => by rw [Int.pow_succ, Rat.intCast_mul, rp_cast b n, rp]
theorem rs_zero_succ (f : Nat → Rat) (n : Nat) : rs f (List.range (n + 1)) = f 0 + rs (fun j => f (j + 1)) (List.range n) := by
  rw [List.range_succ_eq_map]
  show f 0 + rs f ((List.range n).map Nat.succ) = _
  rw [rs_map]
theorem peval_rs (x : Rat) : ∀ (xs : List Rat) (N : Nat), xs.length ≤ N → peval xs x = rs (fun j => co xs j * rp x j) (List.range N)
  | [], N, _ => by
    rw [peval]
    exact (rs_zero fun j _ => by rw [co_none (Nat.zero_le j), Rat.zero_mul]).symm
  | a :: r, 0, h => absurd h (by show ¬ r.length + 1 ≤ 0; omega)
  | a :: r, N + 1, h => by
    have ih := peval_rs x r N (by have h2 : r.length + 1 ≤ N + 1 := h; omega)
    rw [peval, ih, rs_zero_succ, ← rs_mulL]
    have e : (fun j => co (a :: r) (j + 1) * rp x (j + 1)) = fun j => x * (co r j * rp x j) := funext fun j => by
      show co r j * (rp x j * x) = _
      grind
    rw [e]
    show a + _ = a * 1 + _
    rw [Rat.mul_one]
def ev2 (N : Nat) (f : Nat → Nat → Rat) (x y : Rat) : Rat := rs (fun p => f p.1 p.2 * (rp x p.1 * rp y p.2)) (box N N)
def evP (R : List (List Rat)) (x y : Rat) : Rat := peval (R.map fun r => peval r y) x
theorem evP_box {R : List (List Rat)} {N k : Nat} (h : Wd k k R) (hN : k ≤ N + 1) (x y : Rat) : evP R x y = ev2 N (cf2 R) x y := by
  unfold evP ev2 box
  rw [peval_rs x _ (N + 1) (by rw [List.length_map]; exact Nat.le_trans h.1 hN), rs_flat]
  refine rs_congr fun i _ => ?_
  have e : co (R.map fun r => peval r y) i = peval (rowAt R i) y := by
    rcases Nat.lt_or_ge i R.length with lt | ge
    · have e1 : R[i]? = some R[i] := List.getElem?_eq_getElem lt
      rw [rowAt_some e1]
      exact co_some (by rw [List.getElem?_map, e1]; rfl)
    · rw [rowAt_none ge, co_none (by rw [List.length_map]; exact ge)]
      rfl
  rw [e, peval_rs y (rowAt R i) (N + 1) (Nat.le_trans (h.row i) hN), rs_map]
  show rs _ _ * rp x i = rs (fun j => cf2 R i j * (rp x i * rp y j)) _
  have e2 : (fun j => cf2 R i j * (rp x i * rp y j)) = fun j => rp x i * (co (rowAt R i) j * rp y j) := funext fun j => by
    unfold cf2
    grind
  rw [e2, rs_mulL]
  grind
theorem vAt_math {t b : Int} {X : Rat} (h : (t : Rat) = X * (b : Rat)) : ∀ ns : List Int, ((vAt ns t b : Int) : Rat) * (b : Rat) = rp (b : Rat) ns.length * peval (ns.map fun (n : Int) => (n : Rat)) X
  | [] => by
    rw [vAt, List.map_nil, peval]
    show ((0 : Int) : Rat) * _ = _ * 0
    rw [Rat.mul_zero]
    exact Rat.zero_mul _
  | a :: r => by
    have ih := vAt_math h r
    rw [vAt, List.length_cons, rp, List.map_cons, peval, Rat.intCast_add, Rat.intCast_mul, Rat.intCast_mul, rp_cast, h]
    grind
theorem peval_mul (c x : Rat) : ∀ xs : List Rat, peval (xs.map fun q => c * q) x = c * peval xs x
  | [] => by
    rw [List.map_nil, peval, Rat.mul_zero]
  | a :: r => by
    rw [List.map_cons, peval, peval_mul c x r, peval]
    grind
theorem peval_zeros (x : Rat) (n : Nat) : ∀ xs : List Rat, peval (xs ++ List.replicate n 0) x = peval xs x
  | [] => by
    rw [List.nil_append]
    induction n with
    | zero => rfl
    | succ n ih =>
      rw [List.replicate_succ]
      show (0 : Rat) + x * peval (List.replicate n 0) x = 0
      rw [show peval (List.replicate n 0) x = 0 from ih, Rat.mul_zero, Rat.add_zero]
  | a :: r => by
    rw [List.cons_append, peval, peval_zeros x n r, peval]
theorem cast_tops {D : Nat} {xs : List Rat} (dd : ∀ q ∈ xs, q.den ∣ D) : (tops D xs).map (fun (n : Int) => (n : Rat)) = xs.map fun q => (D : Rat) * q := by
  unfold tops
  rw [List.map_map]
  refine List.map_congr_left fun q hq => ?_
  obtain ⟨c, hc⟩ := dd q hq
  show ((q.num * ((D / q.den : Nat) : Int) : Int) : Rat) = _
  rw [hc, Nat.mul_div_cancel_left _ (Rat.den_pos _), Rat.intCast_mul, num_den, Rat.mul_assoc, Rat.natCast_mul]
  rw [show (((c : Nat) : Int) : Rat) = ((c : Nat) : Rat) from rfl]
  grind
/-- the padded rows' values -/
def innerI (D w : Nat) (y b : Int) (r : List Rat) : Int := vAt (tops D r ++ List.replicate (w - r.length) 0) y b
theorem inner_math {D w : Nat} {y b : Int} {Y : Rat} {r : List Rat} (h : (y : Rat) = Y * (b : Rat)) (dd : ∀ q ∈ r, q.den ∣ D) (hw : r.length ≤ w) : ((innerI D w y b r : Int) : Rat) * (b : Rat) = rp (b : Rat) w * ((D : Rat) * peval r Y) := by
  unfold innerI
  rw [vAt_math h, List.length_append, List.length_replicate, tops_len, show r.length + (w - r.length) = w by omega, List.map_append, cast_tops dd, List.map_replicate]
  rw [show ((0 : Int) : Rat) = 0 from rfl, peval_zeros, peval_mul]
theorem at_math {D w : Nat} {x y b : Int} {X Y : Rat} {R : List (List Rat)} (hb : 0 < b) (d0 : 0 < D) (hx : (x : Rat) = X * (b : Rat)) (hy : (y : Rat) = Y * (b : Rat)) (dd : ∀ r ∈ R, ∀ q ∈ r, q.den ∣ D) (hw : ∀ r ∈ R, r.length ≤ w) (w1 : 1 ≤ w) :
    evP R X Y = Rat.divInt (vAt (R.map (innerI D w y b)) x b) ((D : Int) * b ^ (((w : Int) + (R.length : Int)) - 2).toNat) := by
  have b0 : (b : Rat) ≠ 0 := fun z => by
    have : (0 : Rat) < (b : Rat) := Rat.intCast_pos.mpr hb
    rw [z] at this
    exact Rat.lt_irrefl this
  have D0 : ((D : Nat) : Rat) ≠ 0 := fun z => by
    have : (0 : Rat) < (D : Rat) := Rat.natCast_pos.mpr d0
    rw [z] at this
    exact Rat.lt_irrefl this
  by_cases hR : R = []
  · subst hR
    rw [List.map_nil, vAt, Rat.divInt_eq_div]
    show (0 : Rat) = ((0 : Int) : Rat) / _
    rw [Rat.div_def]
    exact (Rat.zero_mul _).symm
  have n1 : 1 ≤ R.length := List.length_pos_iff.mpr hR
  rw [Rat.divInt_eq_div, Rat.intCast_mul, rp_cast, show ((((w : Int) + (R.length : Int)) - 2).toNat) = w + R.length - 2 by omega]
  have T := vAt_math hx (R.map (innerI D w y b))
  rw [List.length_map] at T
  have e1 : (R.map (innerI D w y b)).map (fun (n : Int) => (n : Rat)) = (R.map fun r => peval r Y).map fun q => (rp (b : Rat) w * (D : Rat) / (b : Rat)) * q := by
    rw [List.map_map, List.map_map]
    refine List.map_congr_left fun r hr => ?_
    have im := inner_math hy (dd r hr) (hw r hr)
    show ((innerI D w y b r : Int) : Rat) = _ * peval r Y
    have e2 : ((innerI D w y b r : Int) : Rat) = ((innerI D w y b r : Int) : Rat) * (b : Rat) / (b : Rat) := (Rat.mul_div_cancel b0).symm
    rw [e2, im, Rat.div_def, Rat.div_def]
    grind
  rw [e1, peval_mul] at T
  have hp : ∀ n, rp (b : Rat) n ≠ 0 := fun n => by
    induction n with
    | zero => exact fun z => absurd (show (1 : Rat) = 0 from z) (by decide)
    | succ n ih =>
      intro z
      rw [rp] at z
      rcases Rat.mul_eq_zero.mp z with h | h
      · exact ih h
      · exact b0 h
  have e3 : rp (b : Rat) w * rp (b : Rat) R.length = rp (b : Rat) (w + R.length - 2) * (b : Rat) * (b : Rat) := by
    rw [← rp_add]
    have : w + R.length = (w + R.length - 2) + 1 + 1 := by omega
    rw [this, rp, rp]
    rfl
  have ev : ((vAt (R.map (innerI D w y b)) x b : Int) : Rat) = evP R X Y * ((D : Rat) * rp (b : Rat) (w + R.length - 2)) := by
    have e4 : ((vAt (R.map (innerI D w y b)) x b : Int) : Rat) * (b : Rat) * (b : Rat) = evP R X Y * ((D : Rat) * rp (b : Rat) (w + R.length - 2)) * (b : Rat) * (b : Rat) := by
      rw [T]
      show rp (b : Rat) R.length * (rp (b : Rat) w * (D : Rat) / (b : Rat) * evP R X Y) * (b : Rat) = _
      have e5 : rp (b : Rat) w * (D : Rat) / (b : Rat) * (b : Rat) = rp (b : Rat) w * (D : Rat) := Rat.div_mul_cancel b0
      have e6 : rp (b : Rat) R.length * (rp (b : Rat) w * (D : Rat) / (b : Rat) * evP R X Y) * (b : Rat) = (rp (b : Rat) w * (D : Rat) / (b : Rat) * (b : Rat)) * rp (b : Rat) R.length * evP R X Y := by grind
      rw [e6, e5]
      grind
    have c1 : ∀ u v : Rat, u * (b : Rat) = v * (b : Rat) → u = v := fun u v h => by
      have := congrArg (fun z => z / (b : Rat)) h
      rw [Rat.mul_div_cancel b0, Rat.mul_div_cancel b0] at this
      exact this
    exact c1 _ _ (c1 _ _ e4)
  rw [ev]
  exact (Rat.mul_div_cancel (show ((D : Int) : Rat) * rp (b : Rat) (w + R.length - 2) ≠ 0 from fun z => by
    rcases Rat.mul_eq_zero.mp z with h | h
    · exact D0 h
    · exact hp _ h)).symm
end
end LW

namespace LW
open PySem PySem.Spec PyProof.Rows L2 GL
section
variable {P : Program} {w : World} {K : PySem.W.Frag} {mg : Str → Option Value} {base : Heap}



theorem c_told2 {H : Hp} {v wh : V} {q : Rat} {Q : VK} {E : XK} (r : Rq H v q) (k : ∀ p H', Same H H' → Lo H' p q → Q (.ref p) H') : sp_told mg ([v, wh] ++ []) H Q E :=
  c_told (mg := mg) (σ := []) (ta := fun _ H Q => Q [v, wh] H) (Q := Q) (E := E) (fun Q q => q) r k

theorem maxD_nat {H : Hp} {a : Addr} {ns : List Nat} {d : Nat} {Q : VK} (h : SqL K H a (ns.map fun (n : Nat) => V.int (n : Int))) (q : ∀ w : Nat, (∀ y ∈ ns, y ≤ w) → (w ∈ ns ∨ (ns = [] ∧ w = d)) → Q (.int (w : Int)) H) : rMaxD K [.ref a] [.int (d : Int)] H Q := by
  refine ⟨a, ns.map fun (n : Nat) => (n : Int), .int (d : Int), rfl, rfl, by rw [List.map_map]; exact h, fun z => ?_, fun m hm hx => ?_⟩
  · have e : ns = [] := List.map_eq_nil_iff.mp z
    subst e
    exact q d (fun y hy => nomatch hy) (.inr ⟨rfl, rfl⟩)
  · obtain ⟨w, hw, rfl⟩ := List.mem_map.mp hm
    exact q w (fun y hy => by have := hx _ (List.mem_map.mpr ⟨y, hy, rfl⟩); omega) (.inl hw)
theorem flat_rep (n : Nat) (v : V) : (List.replicate n [v]).flatten = List.replicate n v := by
  induction n with
  | zero => rfl
  | succ n ih => rw [List.replicate_succ, List.flatten_cons, ih, List.replicate_succ]; rfl
theorem c_is_place {te : TE} {σ : L2.St} {H : Hp} {v : V} {b : Bool} {Q : VK} {E : XK} (h : Val te σ H v) (r : PlQ H v b) (k : ∀ H', L2.Same H H' → Q (.bl b) H') : tCall spPl [] E (tCons te tNil) σ H Q :=
  c_call (va_cons h va_nil) ⟨v, b, rfl, r, k⟩
end
end LW

/-! sorted(d), d a dict whose keys are pairs of ints: a list of the keys, in some order. -/
namespace L2
open PySem PySem.Spec PyProof.Rows
section
variable {X : Cx}
def rSortDT : List V → Hp → VK → Prop := fun xs H Q => ∃ (d : Addr) (kvs : List (List Key × V)), xs = [V.ref d] ∧ Rd H d (.dT kvs) ∧ (∀ p ∈ kvs, ∃ i j : Int, p.1 = [Sum.inl i, Sum.inl j]) ∧ ∀ (p : Addr) (bs cs : List Addr), H p = none → IsKeys H kvs cs → bs.Perm cs → Q (.ref p) (upd H p (.lst (bs.map V.ref)))
theorem cr_sortedDT (hc : X.calm = true) : CallR X (.builtin "sorted") rSortDT := by
  intro pins s σ H xs us Q I r h
  obtain ⟨d, kvs, rfl, hd, hk2, q⟩ := h
  obtain ⟨u, rfl, rx⟩ := r.one
  cases rx
  have there : ObjOk X.prog X.w H s.heap d (.dT kvs) := hd.ok I.hok
  obtain ⟨z, hs, ks, pr, o, es, ep, ho, hx, hdt, he, _⟩ := there
  have len := Paired.length pr
  have kk := isKeys_of pr
  refine Calls.call_function_entry PyProof.Rows.kind_sorted PyProof.Rows.plain_sorted PyProof.Rows.entry_sorted (PyProof.Rows.args_sorted1 _) ?_
  unfold Builtin.«sorted»
  refine wpAny_bind (m := checkCount "sorted" 1 1 _) (wpAny_pure ?_)
  refine wpAny_bind (PySem.W.kdu_collect (A := X.A.in1) (kdl_raw hs hx hdt) (I.ok.hd hc) ho (by rw [size_of_entries he]; omega) fun h' tk acc' kp it => ?_)
  have eb : acc'.toList = (ks.map fun x => x.2.1).map Value.ref := List.ext_getElem? fun j => by
    have same : acc'.toList.length = ks.length := by rw [Array.length_toList, it.1, size_of_entries he]
    rcases Nat.lt_or_ge j ks.length with lt | ge
    · have la : j < acc'.toList.length := by omega
      have got : acc'[j]? = some acc'.toList[j] := by rw [← Array.getElem?_toList, List.getElem?_eq_getElem la]
      obtain ⟨en, there, is⟩ := it.2 j _ got
      have here := entry_at he j
      rw [there, List.getElem?_eq_getElem lt] at here
      rw [List.getElem?_eq_getElem la, is, Option.some.inj here, List.getElem?_map, List.getElem?_map, List.getElem?_eq_getElem lt]
      rfl
    · rw [List.getElem?_eq_none (by omega), List.getElem?_eq_none (by rw [List.length_map, List.length_map]; exact ge)]
  have I1 : Inv X pins σ H { s with heap := h', toks := tk } := I.kept kp
  have ll : acc'.toList.length ≤ sizeLine := by rw [eb, List.length_map, List.length_map]; omega
  refine wpAny_bind (wpAny_newList ?_ ll)
  have hoL : (h'.push (seqObj "list" acc'.toList.toArray 0)).get? h'.objs.size = some (seqObj "list" acc'.toList.toArray 0) := Heap.get?_push_size _ rfl
  show wpAny _ _ _ _ _ { s with heap := h'.push (seqObj "list" acc'.toList.toArray 0), toks := tk }
  have key : ∀ {kvs : List (List Key × V)} {cs : List Addr}, IsKeys H kvs cs → (∀ p ∈ kvs, ∃ i j : Int, p.1 = [Sum.inl i, Sum.inl j]) → ∀ b ∈ cs, ∃ i j : Int, H b = some (.tup [.int i, .int j]) := fun {kvs cs} ik hp => by
    unfold IsKeys at ik
    induction ik with
    | nil => exact fun b hb => nomatch hb
    | @cons p b ps bs h t ih =>
      intro c hc
      rcases List.mem_cons.mp hc with rfl | hc
      · obtain ⟨i, j, e⟩ := hp p (List.mem_cons_self ..)
        rw [e] at h
        exact ⟨i, j, h⟩
      · exact ih (fun p hm => hp p (List.mem_cons_of_mem _ hm)) c hc
  have pairs : ∀ v ∈ acc'.toList, ∃ x y, Srt.IsPair (h'.push (seqObj "list" acc'.toList.toArray 0)) v x y := fun v hv => by
    rw [eb] at hv
    obtain ⟨b, hb, rfl⟩ := List.mem_map.mp hv
    obtain ⟨i, j, e⟩ := key kk hk2 b hb
    obtain ⟨_, its2, r2, o, ho, hc, n, hd⟩ := I1.hok _ _ e
    obtain ⟨u1, u2, rfl, ri, rj⟩ := vals2 r2
    obtain ⟨t1, rfl⟩ := ri
    obtain ⟨t2, rfl⟩ := rj
    exact ⟨i, j, b, o, t1, t2, n, rfl, Heap.get?_push_of_some _ ho, hc, hd⟩
  refine wpAny_bind (wpAny_holding (wpAny_call_entry slot_list_sort ⟨_, hoL, rfl⟩ entry_list_sort (Srt.list_sort_any (s := { s with heap := h'.push (seqObj "list" acc'.toList.toArray 0), toks := tk }) hoL ll (fun h2 => Srt.pairs_sortable (by omega) pairs fun o e => ?_) fun out hp => ⟨_, rfl, ?_⟩) (args_list_sort _)))
  · have e' : some o = some (seqObj "list" acc'.toList.toArray 0) := e.symm.trans hoL
    cases e'
    intro c
    exact absurd (Value.type.inj c) (by decide)
  · let f : Value → Addr := fun v => match v with
      | .ref a => a
      | _ => 0
    have ff : ∀ cs : List Addr, (cs.map Value.ref).map f = cs := fun cs => by
      induction cs with
      | nil => rfl
      | cons c r ih => rw [List.map_cons, List.map_cons, ih]
    have hp2 : (out.map f).Perm (ks.map fun x => x.2.1) := by
      have := hp.map f
      rwa [eb, ff] at this
    have refs : ∀ u ∈ out, ∃ a, u = Value.ref a := fun u hu => by
      have := hp.mem_iff.mp hu
      rw [eb] at this
      obtain ⟨b, _, rfl⟩ := List.mem_map.mp this
      exact ⟨b, rfl⟩
    have eo : ∀ {us : List Value}, (∀ u ∈ us, ∃ a, u = Value.ref a) → us = (us.map f).map Value.ref := fun {us} h => by
      induction us with
      | nil => rfl
      | cons u r ih =>
        obtain ⟨a, rfl⟩ := h u (List.mem_cons_self ..)
        rw [List.map_cons, List.map_cons, ← ih fun x hx => h x (List.mem_cons_of_mem _ hx)]
    have rv : Vals ((out.map f).map V.ref) out := by
      have e := eo refs
      exact Eq.mp (by rw [← e]) (vals_refs (out.map f))
    obtain ⟨e', he'⟩ := PyProof.Rows.sortedHeap_at (vs := acc'.toList) (out := out.toArray) hoL
    have hlen : ((out.map f).map V.ref).length ≤ sizeLine := by
      rw [List.length_map, List.length_map, hp.length_eq]
      exact ll
    refine wpAny_pure ⟨_, rfl, .ref h'.objs.size, upd H h'.objs.size (.lst ((out.map f).map V.ref)), I1.laid (t' := tk) (fun b u e => ?_) (Nat.le_refl _)
      (show ObjOk X.prog X.w _ _ _ (.lst ((out.map f).map V.ref)) from ⟨hlen, out, e', rv, he'⟩), rfl, q _ _ _ (I1.hok.fresh (Nat.le_refl _)) kk hp2⟩
    have before := Heap.lt_size e
    have old := PyProof.Rows.sortedHeap_old (h := h'.push (seqObj "list" acc'.toList.toArray 0)) (vs := acc'.toList) (out := out.toArray) (Nat.ne_of_lt before) (by rw [size_push']; exact Nat.le_succ_of_le before)
    exact old.trans (Heap.get?_push_of_some _ e)
end
end L2

/-! dicts that hold polynomials of two letters -/
namespace LW
open PySem PySem.Spec PyProof.Rows L2 GL
section
variable {P : Program} {w : World} {K : PySem.W.Frag} {mg : Str → Option Value} {base : Heap}
/-- tuples stay -/
def Tu (H H' : Hp) : Prop := ∀ b xs, H b = some (.tup xs) → H' b = some (.tup xs)
theorem Tu.trans {H H1 H2 : Hp} (a : Tu H H1) (b : Tu H1 H2) : Tu H H2 := fun c xs e => b c xs (a c xs e)
theorem Tu.of {H H' : Hp} (s : L2.Same H H') : Tu H H' := fun b xs e => s _ _ e
theorem Tu.putT {H : Hp} {d : Addr} {kvs kvs' : List (List Key × V)} (e : H d = some (.dT kvs)) : Tu H (upd H d (.dT kvs')) := fun b xs eb => by
  rw [upd_ne (ne_of eb e (by intro z; cases z))]; exact eb
theorem Lo.tu {H H' : Hp} {t : Addr} {q : Rat} (h : Lo H t q) (s : Tu H H') : Lo H' t q := s _ _ h
abbrev kN (k : Nat × Nat) : List Key := kP (k.1 : Int) (k.2 : Int)
theorem kN_inj {k l : Nat × Nat} (e : kN k = kN l) : k = l := by
  have e1 := List.cons.inj e
  have e2 := List.cons.inj e1.2
  exact Prod.ext (Int.ofNat.inj (Sum.inl.inj e1.1)) (Int.ofNat.inj (Sum.inl.inj e2.1))
def EnOk (H : Hp) (kv : List Key × V) (e : En) : Prop := kv.1 = kN e.1 ∧ ∃ t, kv.2 = .ref t ∧ Lo H t e.2
def DE (H : Hp) (kvs : List (List Key × V)) (L : List En) : Prop := All2 (EnOk H) kvs L ∧ (L.map (·.1)).Nodup
/-- d holds the polynomial L, to be read -/
def DP (H : Hp) (d : Addr) (L : List En) : Prop := ∃ kvs, Rd H d (.dT kvs) ∧ DE H kvs L
/-- .. to be written -/
def DW (H : Hp) (d : Addr) (L : List En) : Prop := ∃ kvs, H d = some (.dT kvs) ∧ DE H kvs L
theorem DW.dp {H : Hp} {d : Addr} {L : List En} (h : DW H d L) : DP H d L := h.imp fun _ z => ⟨.inl z.1, z.2⟩
theorem DE.tu {H H' : Hp} {kvs : List (List Key × V)} {L : List En} (h : DE H kvs L) (s : Tu H H') : DE H' kvs L := ⟨h.1.imp fun _ _ ⟨a, t, b, lo⟩ => ⟨a, t, b, lo.tu s⟩, h.2⟩
theorem Rd.same {H H' : Hp} {d : Addr} {u : HO} (h : Rd H d u) (s : L2.Same H H') : Rd H' d u := h.elim (fun z => .inl (s _ _ z)) fun ⟨o, z⟩ => .inr ⟨o, s _ _ z⟩
theorem DP.same {H H' : Hp} {d : Addr} {L : List En} (h : DP H d L) (s : L2.Same H H') : DP H' d L := h.imp fun _ z => ⟨Rd.same z.1 s, z.2.tu (Tu.of s)⟩
theorem DW.same {H H' : Hp} {d : Addr} {L : List En} (h : DW H d L) (s : L2.Same H H') : DW H' d L := h.imp fun _ z => ⟨s _ _ z.1, z.2.tu (Tu.of s)⟩
theorem DE.val {H : Hp} {kvs : List (List Key × V)} {L : List En} (h : All2 (EnOk H) kvs L) (k : Nat × Nat) : (valV kvs (kN k) = none ∧ k ∉ L.map (·.1)) ∨ ∃ t q, valV kvs (kN k) = some (.ref t) ∧ Lo H t q ∧ (k, q) ∈ L := by
  induction h with
  | nil => exact .inl ⟨rfl, by simp⟩
  | @cons kv e as bs r _ ih =>
    obtain ⟨e1, t, e2, lo⟩ := r
    by_cases z : e.1 = k
    · exact .inr ⟨t, e.2, by rw [valV_pos (by rw [e1, z]), e2], lo, by rw [← z]; exact List.mem_cons_self ..⟩
    · have n : ¬ kv.1 = kN k := fun y => z (kN_inj (e1.symm.trans y))
      rw [valV_neg n]
      rcases ih with ⟨a, b⟩ | ⟨t, q, a, b, c⟩
      · exact .inl ⟨a, fun y => by
          rw [List.map_cons] at y
          exact (List.mem_cons.mp y).elim (fun w => z w.symm) b⟩
      · exact .inr ⟨t, q, a, b, List.mem_cons_of_mem _ c⟩
theorem All2.app {α β : Type} {R : α → β → Prop} {as as' : List α} {bs bs' : List β} (h : All2 R as bs) (g : All2 R as' bs') : All2 R (as ++ as') (bs ++ bs') := by
  induction h with
  | nil => exact g
  | cons r _ ih => exact .cons r ih
theorem all2_putany {H : Hp} {kvs : List (List Key × V)} {L : List En} (h : All2 (EnOk H) kvs L) (k : Nat × Nat) : (kvs.any fun kv => decide (kv.1 = kN k)) = L.any (fun e => decide (e.1 = k)) := by
  induction h with
  | nil => rfl
  | @cons kv e as bs r _ ih =>
    rw [List.any_cons, List.any_cons, ih]
    have : decide (kv.1 = kN k) = decide (e.1 = k) := decide_eq_decide.mpr ⟨fun y => kN_inj (r.1.symm.trans y), fun y => by rw [r.1, y]⟩
    rw [this]
theorem all2_putmap {H : Hp} {kvs : List (List Key × V)} {L : List En} (h : All2 (EnOk H) kvs L) {k : Nat × Nat} {t : Addr} {q : Rat} (lo : Lo H t q) :
    All2 (EnOk H) (kvs.map fun kv => if kv.1 = kN k then (kv.1, .ref t) else kv) (L.map fun e => if e.1 = k then (e.1, q) else e) := by
  induction h with
  | nil => exact .nil
  | @cons kv e as bs r _ ih =>
    rw [List.map_cons, List.map_cons]
    refine .cons ?_ ih
    by_cases z : e.1 = k
    · rw [if_pos z, if_pos (by rw [r.1, z])]
      exact ⟨r.1, t, rfl, lo⟩
    · rw [if_neg z, if_neg (fun y => z (kN_inj (r.1.symm.trans y)))]
      exact r
theorem DE.put {H : Hp} {kvs : List (List Key × V)} {L : List En} (h : DE H kvs L) {k : Nat × Nat} {t : Addr} {q : Rat} (lo : Lo H t q) : DE H (putK kvs (kN k) (.ref t)) (putE L k q) := by
  refine ⟨?_, nodup_put h.2⟩
  unfold putK putE
  rw [all2_putany h.1 k]
  split
  · exact all2_putmap h.1 lo
  · exact h.1.app (.cons ⟨rfl, t, rfl, lo⟩ .nil)
theorem DE.len {H : Hp} {kvs : List (List Key × V)} {L : List En} (h : DE H kvs L) : kvs.length = L.length := h.1.len
theorem perm_all2 {α β : Type} {R : α → β → Prop} {as bs : List α} (p : as.Perm bs) : ∀ {L : List β}, All2 R bs L → ∃ M, M.Perm L ∧ All2 R as M := by
  induction p with
  | nil => intro L h; exact ⟨L, .refl _, h⟩
  | cons a _ ih =>
    intro L h
    cases h with
    | cons r t =>
      obtain ⟨M, pm, am⟩ := ih t
      exact ⟨_ :: M, pm.cons _, .cons r am⟩
  | swap a b l =>
    intro L h
    cases h with
    | cons r t =>
      cases t with
      | cons r2 t => exact ⟨_, .swap _ _ _, .cons r2 (.cons r t)⟩
  | trans _ _ ih1 ih2 =>
    intro L h
    obtain ⟨M, pm, am⟩ := ih2 h
    obtain ⟨N, pn, an⟩ := ih1 am
    exact ⟨N, pn.trans pm, an⟩
theorem DE.keysAt {H : Hp} {kvs : List (List Key × V)} {L : List En} (h : All2 (EnOk H) kvs L) : ∀ {cs : List Addr}, IsKeys H kvs cs → All2 (fun b (e : En) => H b = some (.tup [.int (e.1.1 : Int), .int (e.1.2 : Int)])) cs L := by
  induction h with
  | nil => intro cs ik; cases ik; exact .nil
  | @cons kv e as bs r _ ih =>
    intro cs ik
    cases ik with
    | cons h1 t1 =>
      rw [r.1] at h1
      exact .cons h1 (ih t1)
theorem DE.pairs {H : Hp} {kvs : List (List Key × V)} {L : List En} (h : All2 (EnOk H) kvs L) : ∀ p ∈ kvs, ∃ i j : Int, p.1 = [Sum.inl i, Sum.inl j] := by
  induction h with
  | nil => exact fun p hp => nomatch hp
  | @cons kv e as bs r _ ih =>
    intro p hp
    rcases List.mem_cons.mp hp with rfl | hp
    · exact ⟨_, _, r.1⟩
    · exact ih p hp
theorem v_dgetT {td ty : TE} {σ : L2.St} {H : Hp} {d b : Addr} {kvs : List (List Key × V)} {k : List Key} {v : V} (h1 : Val td σ H (.ref d)) (h2 : Val ty σ H (.ref b)) (hd : Rd H d (.dT kvs)) (hb : H b = some (.tup (k.map kV))) (e : valV kvs k = some v) :
    Val (tDGet td ty) σ H v := fun Q q => h1 _ (h2 _ ⟨d, v, rfl, .inr ⟨kvs, k, b, hd, rfl, hb, e.symm⟩, q⟩)
end
end LW

/-! the law's own polynomials of two letters -/
namespace LW
open PySem PySem.Spec PyProof.Rows L2 GL
section
variable {P : Program} {w : World} {K : PySem.W.Frag} {mg : Str → Option Value} {base : Heap}

def spVPlain : Sp := fun vs H Q _ => ∃ (d : Addr) (L : List En), vs = [.ref d] ∧ DP H d L ∧ L.length ≤ 900 ∧ ∀ (p : Addr) (H' : Hp) (M : List En), L2.Same H H' → H p = none → DW H' p M → (∀ i j, cf M i j = cf L i j) → (∀ e ∈ M, e ∈ L ∧ e.2 ≠ 0) → M.length ≤ L.length → Q (.ref p) H'
theorem ok_law_v_plain (T : Txt K mg) : FnOk P w K mg base CX0 1 (fA mg "_law_v_plain") (fDat K (fA mg "_law_v_plain")) ["_law_plane"] spVPlain := by
  refine T._law_v_plain.F.ok sc_law_v_plain (fun vs H Q E h => ?_) (fun cdv A outer s H vs Q E hr h => ?_)
  · obtain ⟨d, L, rfl, _⟩ := h
    rfl
  obtain ⟨d, L, rfl, ⟨kvs, rd, de⟩, hl, k⟩ := h
  refine ⟨_, (pss_cons (ps_set (i := 1) sc_law_v_plain.nd rfl (Or.inl rfl) pe_dnewT)
  (pss_cons (ps_for PassesOwn.never rfl (pi_list (pe_callB (cr_sortedDT rfl) (by rfl) T.sorted (by decide +kernel) (pa_cons (pv 0) pa_nil))) (pg_name (i := 2) sc_law_v_plain.nd rfl (Or.inl rfl))
  (pss_one (ps_if (pt_cmpR op_ne (pe_ix ix_tup (pe_dget (hu_of hr) (pv 0) (pv 2) (fun _ _ => rfl)) pe_int (fun _ _ => rfl)) pe_int (nomark _)) (pss_one (ps_dput (hu_of hr) (pv 1) (pv 2) (pe_dget (hu_of hr) (pv 0) (pv 2) (fun _ _ => rfl)) rfl)) pss_nil)))
  (pss_one (ps_ret (pv 1))))), ?_⟩
  refine q_asg fun f hf => ?_
  have sf := Same.new' (o := .dT []) hf
  have rd1 := Rd.same rd sf
  have de1 := de.tu (Tu.of sf)
  show tFor (iList K (tCB rSortDT (tCons (tVar 0) tNil))) (gName 2) _ _ _ _
  refine (val_var rfl) _ ⟨d, kvs, rfl, rd1, DE.pairs de.1, fun l bs cs hlN ik pm => ?_⟩
  obtain ⟨Lp, pL, all⟩ := perm_all2 pm (DE.keysAt de1.1 ik)
  have sl := Same.new' (o := .lst (bs.map V.ref)) hlN
  have S0 := sf.trans sl
  have nf : f ≠ l := ne_of_none upd_same hlN
  have ndp : (Lp.map (·.1)).Nodup := (pL.map (·.1)).nodup_iff.mpr de.2
  have lp : Lp.length = L.length := pL.length_eq
  have lb : bs.length = L.length := by rw [all.len, lp]
  refine ⟨l, rfl, ⟨_, SqL.of upd_same⟩, for_list (K := K) (a := l) (xs := bs.map V.ref) (fun m σ H' => ∃ (c : Option V) (F : List En), σ = [some (.ref d), some (.ref f), c] ∧ L2.Same H H' ∧ H' l = some (.lst (bs.map V.ref)) ∧ (∀ b ∈ bs, ∀ o, (upd (upd H f (.dT [])) l (.lst (bs.map V.ref))) b = some o → b ≠ f → H' b = some o) ∧ DW H' f F ∧ (∀ i j, cf F i j = cf (Lp.take m) i j) ∧ (∀ e ∈ F, e ∈ L ∧ e.2 ≠ 0) ∧ F.length ≤ m)
    ⟨none, [], rfl, S0, upd_same, fun b _ o e _ => e, ⟨[], by rw [upd_ne nf, upd_same], .nil, by simp⟩, fun i j => rfl, (fun e he => nomatch he), Nat.le_refl _⟩ (fun i σ H' _ ⟨_, _, _, _, e, _⟩ => SqL.of e) ?_ ?_⟩
  · rintro m x σ H' hm ⟨c, F, rfl, sH, eL, keysT, ⟨fk, ef, df⟩, hcf, hmem, hln⟩
    obtain ⟨b, hb, rfl⟩ : ∃ b, bs[m]? = some b ∧ x = .ref b := by
      rw [List.getElem?_map] at hm
      cases e : bs[m]? with
      | none => rw [e] at hm; cases hm
      | some z => rw [e] at hm; exact ⟨z, rfl, (Option.some.inj hm).symm⟩
    obtain ⟨e, he, eb⟩ := all.get hb
    have mlt : m < L.length := by
      have := (List.getElem?_eq_some_iff.mp hb).1
      omega
    have eb' : H' b = some (.tup ((kN e.1).map kV)) := by
      have e0 : (upd (upd H f (.dT [])) l (.lst (bs.map V.ref))) b = some (.tup ((kN e.1).map kV)) := sl _ _ eb
      refine keysT b (List.mem_of_getElem? hb) _ e0 (fun z => ?_)
      rw [z, upd_same] at eb
      cases eb
    have rdH := Rd.same rd sH
    have deH := de.tu (Tu.of sH)
    have eL' : e ∈ L := pL.mem_iff.mp (List.mem_of_getElem? he)
    obtain ⟨t, q, ev, lo, hq⟩ : ∃ t q, valV kvs (kN e.1) = some (.ref t) ∧ Lo H' t q ∧ (e.1, q) ∈ L := by
      rcases DE.val deH.1 e.1 with ⟨_, n⟩ | z
      · exact (n (List.mem_map.mpr ⟨e, eL', rfl⟩)).elim
      · exact z
    have eq : q = e.2 := by
      have a1 := cf_in hq de.2
      have a2 := cf_in (k := e.1) (q := e.2) eL' de.2
      exact a1.symm.trans a2
    subst eq
    have tk : ∀ i j, cf (Lp.take (m + 1)) i j = cf (Lp.take m) i j + (if e.1 = (i, j) then e.2 else 0) := fun i j => by
      rw [List.take_succ, he, cf_app]
      show _ + cf [e] i j = _
      rw [show e = (e.1, e.2) from rfl, cf_one]
    have fresh : cf (Lp.take m) e.1.1 e.1.2 = 0 := cf_out fun z => by
      have nd2 : ((Lp.take m ++ Lp.drop m).map (·.1)).Nodup := by rw [List.take_append_drop]; exact ndp
      rw [List.map_append, List.nodup_append] at nd2
      have h2 : e ∈ Lp.drop m := by
        have hh : (Lp.drop m)[0]? = some e := by rw [List.getElem?_drop]; exact he
        exact List.mem_of_getElem? hh
      exact nd2.2.2 _ z _ (List.mem_map.mpr ⟨e, h2, rfl⟩) rfl
    refine g_name ?_
    have get : ∀ {σ : L2.St}, σ[0]? = some (some (V.ref d)) → σ[2]? = some (some (V.ref b)) → Val (tDGet (tVar 0) (tVar 2)) σ H' (.ref t) := fun h1 h2 => v_dgetT (val_var h1) (val_var h2) rdH eb' ev
    refine t_op ((v_ixT (n := 0) (get rfl rfl) val_c (SqT.of lo) rfl) _ (val_c _ ⟨rfl, _, rfl, ?_⟩))
    by_cases z0 : e.2.num = 0
    · rw [if_neg (by rw [decide_eq_true (by rw [z0])]; decide)]
      refine ⟨_, F, rfl, sH, eL, keysT, ⟨fk, ef, df⟩, fun i j => ?_, hmem, by omega⟩
      rw [hcf, tk, Rat.num_eq_zero.mp z0]
      split <;> grind
    · rw [if_pos (by rw [decide_eq_false (fun e => z0 (V.int.inj e))]; rfl)]
      refine (get rfl rfl) _ ((val_var rfl) _ ((val_var rfl) _ ⟨f, _, rfl, DPut.t ef eb' (Nat.lt_of_le_of_lt (show fk.length ≤ 1000 by have := df.len; omega) (by decide)), ?_⟩))
      have tu : Tu H' (upd H' f (.dT (putK fk (kN e.1) (.ref t)))) := Tu.putT ef
      refine ⟨_, putE F e.1 e.2, rfl, fun b o eb => ?_, ?_, fun b hb o eo nb => ?_, ⟨_, upd_same, (df.put lo).tu tu⟩, fun i j => ?_, fun e' he' => ?_, Nat.le_trans len_put (by omega)⟩
      · rw [upd_ne (ne_of_none eb hf)]
        exact sH _ _ eb
      · rw [upd_ne (Ne.symm nf)]
        exact eL
      · rw [upd_ne nb]
        exact keysT b hb o eo nb
      · rw [cf_put df.2, hcf, tk]
        split
        · rename_i z
          have := congrArg Prod.fst z
          have h1 : i = e.1.1 := by rw [z]
          have h2 : j = e.1.2 := by rw [z]
          rw [h1, h2, fresh]; grind
        · grind
      · rcases mem_put he' with rfl | h
        · exact ⟨eL', fun z => z0 (by rw [show e.2 = 0 from z]; rfl)⟩
        · exact hmem _ h
  · rintro σ H' ⟨c, F, rfl, sH, eL, keysT, dw, hcf, hmem, hln⟩
    have h3 := hln
    rw [List.length_map, lb] at h3
    refine r_ret ((val_var rfl) _ (k f H' F sH hf dw (fun i j => ?_) hmem h3))
    rw [hcf, List.length_map, List.take_of_length_le (by omega)]
    exact rs_perm pL

/-! ### keys of a box have hashes of their own -/
def bxN : Nat := 16
def boxP : List (Nat × Nat) := (List.range bxN).flatMap fun i => (List.range bxN).map fun j => (i, j)
def boxH : List Int := boxP.map fun p => pairH (p.1 : Int) (p.2 : Int)
theorem boxH_nodup : boxH.Nodup := by decide +kernel
theorem map_inj {α β : Type} {f : α → β} : ∀ {l : List α}, (l.map f).Nodup → ∀ {a b : α}, a ∈ l → b ∈ l → f a = f b → a = b
  | [], _, _, _, h, _, _ => nomatch h
  | x :: l, nd, a, b, ha, hb, e => by
    rw [List.map_cons, List.nodup_cons] at nd
    rcases List.mem_cons.mp ha with h1 | h1
    · rcases List.mem_cons.mp hb with h2 | h2
      · rw [h1, h2]
      · exact (nd.1 (List.mem_map.mpr ⟨b, h2, by rw [← e, h1]⟩)).elim
    · rcases List.mem_cons.mp hb with h2 | h2
      · exact (nd.1 (List.mem_map.mpr ⟨a, h1, by rw [e, h2]⟩)).elim
      · exact map_inj nd.2 h1 h2 e
def Bx (N : Nat) (L : List En) : Prop := ∀ e ∈ L, e.1.1 < N ∧ e.1.2 < N
theorem pairH_inj {p q : Nat × Nat} (hp : p.1 < bxN ∧ p.2 < bxN) (hq : q.1 < bxN ∧ q.2 < bxN) (e : pairH (p.1 : Int) (p.2 : Int) = pairH (q.1 : Int) (q.2 : Int)) : p = q := by
  have nd := boxH_nodup
  unfold boxH at nd
  have mem : ∀ {p : Nat × Nat}, p.1 < bxN ∧ p.2 < bxN → p ∈ boxP := fun {p} h =>
    List.mem_flatMap.mpr ⟨p.1, List.mem_range.mpr h.1, List.mem_map.mpr ⟨p.2, List.mem_range.mpr h.2, rfl⟩⟩
  exact map_inj nd (mem hp) (mem hq) e
theorem apart : ∀ {L : List En}, Bx bxN L → (L.map (·.1)).Nodup → (L.map fun e => pairH (e.1.1 : Int) (e.1.2 : Int)).Nodup
  | [], _, _ => by simp
  | e :: L, b, nd => by
    rw [List.map_cons, List.nodup_cons] at nd ⊢
    refine ⟨fun h => ?_, apart (fun a ha => b a (List.mem_cons_of_mem _ ha)) nd.2⟩
    obtain ⟨a, ha, z⟩ := List.mem_map.mp h
    exact nd.1 (List.mem_map.mpr ⟨a, ha, pairH_inj (b a (List.mem_cons_of_mem _ ha)) (b e (List.mem_cons_self ..)) z⟩)
theorem DE.kvs {H : Hp} {kvs : List (List Key × V)} {L : List En} (h : All2 (EnOk H) kvs L) : kvs.map (·.1) = (L.map fun e => ((e.1.1 : Int), (e.1.2 : Int))).map fun p => kP p.1 p.2 := by
  induction h with
  | nil => rfl
  | cons r _ ih => rw [List.map_cons, List.map_cons, List.map_cons, ih, r.1]
/-! ### while a dict is walked -/
structure Wk (H0 HL : Hp) (d f : Addr) (kvs : List (List Key × V)) (H' : Hp) : Prop where
  off : ∀ b, b ≠ d → HL b = H0 b
  rd : Rd HL d (.dT kvs)
  but : But f HL H'
  ne : d ≠ f
theorem Wk.at {H0 HL H' : Hp} {d f : Addr} {kvs : List (List Key × V)} (w : Wk H0 HL d f kvs H') : H' d = HL d := by
  rcases w.rd with e | ⟨o, e⟩
  · rw [e]; exact w.but _ _ e w.ne
  · rw [e]; exact w.but _ _ e w.ne
theorem Wk.rdH {H0 HL H' : Hp} {d f : Addr} {kvs : List (List Key × V)} (w : Wk H0 HL d f kvs H') : Rd H' d (.dT kvs) := by
  have := w.rd
  unfold Rd at this ⊢
  rw [w.at]
  exact this
theorem Wk.step {H0 HL H' H2 : Hp} {d f : Addr} {kvs : List (List Key × V)} (w : Wk H0 HL d f kvs H') (b : But f H' H2) : Wk H0 HL d f kvs H2 := ⟨w.off, w.rd, w.but.trans b, w.ne⟩
theorem Wk.fin {H0 HL H' H2 : Hp} {d f : Addr} {kvs : List (List Key × V)} (w : Wk H0 HL d f kvs H') (h : ∀ b, b ≠ d → H2 b = H' b) (hd : H2 d = H0 d) : But f H0 H2 ∧ Tu H' H2 ∧ H2 f = H' f := by
  refine ⟨fun b o e nb => ?_, fun b xs e => ?_, h f (Ne.symm w.ne)⟩
  · by_cases z : b = d
    · rw [z, hd, ← z]; exact e
    · rw [h b z]
      exact w.but b o (by rw [w.off b z]; exact e) nb
  · by_cases z : b = d
    · rw [z, w.at] at e
      rcases w.rd with y | ⟨o, y⟩ <;> rw [y] at e <;> cases e
    · rw [h b z]; exact e
theorem Wk.tu {H0 HL H' : Hp} {d f : Addr} {kvs fk : List (List Key × V)} (w : Wk H0 HL d f kvs H') (n : H0 f = some (.dT fk)) (r : Rd H0 d (.dT kvs)) : Tu H0 H' := fun b xs e => by
  by_cases z : b = d
  · rw [z] at e
    rcases r with y | ⟨o, y⟩ <;> rw [y] at e <;> cases e
  · exact w.but b _ (by rw [w.off b z]; exact e) (fun y => by rw [y, n] at e; cases e)
def SmC (n : Nat) (L : List En) : Prop := ∀ i j, Sm n (cf L i j)
def spVPlus : Sp := fun vs H Q _ => ∃ (d1 d2 : Addr) (La Lb : List En) (n m : Nat), vs = [.ref d1, .ref d2] ∧ DP H d1 La ∧ DP H d2 Lb ∧ Bx bxN La ∧ La.length ≤ 400 ∧ Lb.length ≤ 400 ∧ SmC n La ∧ SmC m Lb ∧ n ≤ 1000 ∧ m ≤ 1000 ∧
  ∀ (p : Addr) (H' : Hp) (M : List En), L2.Same H H' → H p = none → DW H' p M → (∀ i j, cf M i j = cf La i j + cf Lb i j) → (∀ e ∈ M, (e.1 ∈ La.map (·.1) ∨ e.1 ∈ Lb.map (·.1)) ∧ e.2 ≠ 0) → M.length ≤ La.length + Lb.length → Q (.ref p) H'
end
end LW

/-! the law's own polynomials of two letters -/
namespace LW
open PySem PySem.Spec PyProof.Rows L2 GL
section
variable {P : Program} {w : World} {K : PySem.W.Frag} {mg : Str → Option Value} {base : Heap}
theorem int_lo {H : Hp} {t : Addr} {i : Int} (e : H t = some (.tup [.int i, .int 1])) : Lo H t (i : Rat) := by
  unfold Lo
  rw [Rat.num_intCast, Rat.den_intCast]
  exact e
theorem int_sm {i : Int} {n : Nat} (h : i.natAbs < 2 ^ n) (n1 : 1 ≤ n) : Sm n (i : Rat) := by
  refine ⟨by rw [Rat.num_intCast]; exact h, ?_⟩
  rw [Rat.den_intCast]
  exact Nat.one_lt_two_pow (by omega)
theorem c_lplus {H : Hp} {ta : TA} {σ : L2.St} {p q : Addr} {x y : Rat} {n m : Nat} {Q : VK} {E : XK} (h : VA ta σ H [.ref p, .ref q]) (a : Lo H p x) (b : Lo H q y) (hx : Sm n x) (hy : Sm m y) (hn : n ≤ 1000) (hm : m ≤ 1000) (k : ∀ c H', Same H H' → Lo H' c (x + y) → Q (.ref c) H') : tCall sp_law_plus [] E ta σ H Q := by
  have d1 := x.den_pos
  have d2 := y.den_pos
  refine c_call h ⟨p, q, _, _, _, _, rfl, a, b, hx.fit hn, hy.fit hm, by omega, by omega, fun c H' s z => k c H' s ?_⟩
  unfold Lo
  have e : x + y = Rat.divInt (x.num * (y.den : Int) + y.num * (x.den : Int)) ((x.den : Int) * (y.den : Int)) := by rw [Rat.add_def', ← Rat.divInt_ofNat, Int.natCast_mul]
  rw [e, ← (low_rat _ (Int.mul_pos (by omega) (by omega))).1, ← (low_rat _ (Int.mul_pos (by omega) (by omega))).2]
  exact z
theorem c_ltimes {H : Hp} {ta : TA} {σ : L2.St} {p q : Addr} {x y : Rat} {n m : Nat} {Q : VK} {E : XK} (h : VA ta σ H [.ref p, .ref q]) (a : Lo H p x) (b : Lo H q y) (hx : Sm n x) (hy : Sm m y) (hn : n ≤ 1000) (hm : m ≤ 1000) (k : ∀ c H', Same H H' → Lo H' c (x * y) → Q (.ref c) H') : tCall sp_law_times [] E ta σ H Q := by
  have d1 := x.den_pos
  have d2 := y.den_pos
  refine c_call h ⟨p, q, _, _, _, _, rfl, a, b, hx.fit hn, hy.fit hm, by omega, by omega, fun c H' s z => k c H' s ?_⟩
  unfold Lo
  have e : x * y = Rat.divInt (x.num * y.num) ((x.den : Int) * (y.den : Int)) := by rw [Rat.mul_def', ← Rat.divInt_ofNat, Int.natCast_mul]
  rw [e, ← (low_rat _ (Int.mul_pos (by omega) (by omega))).1, ← (low_rat _ (Int.mul_pos (by omega) (by omega))).2]
  exact z

theorem cs_lplus {H : Hp} {p q : Addr} {x y : Rat} {n m : Nat} {Q : VK} {E : XK} (a : Lo H p x) (b : Lo H q y) (hx : Sm n x) (hy : Sm m y) (hn : n ≤ 1000) (hm : m ≤ 1000) (k : ∀ c H', L2.Same H H' → Lo H' c (x + y) → Q (.ref c) H') : sp_law_plus ([.ref p, .ref q] ++ []) H Q E :=
  c_lplus (E := E) (ta := tCons (tC (.ref p)) (tCons (tC (.ref q)) tNil)) (σ := []) (va_cons val_c (va_cons val_c va_nil)) a b hx hy hn hm k
theorem cs_ltimes {H : Hp} {p q : Addr} {x y : Rat} {n m : Nat} {Q : VK} {E : XK} (a : Lo H p x) (b : Lo H q y) (hx : Sm n x) (hy : Sm m y) (hn : n ≤ 1000) (hm : m ≤ 1000) (k : ∀ c H', L2.Same H H' → Lo H' c (x * y) → Q (.ref c) H') : sp_law_times ([.ref p, .ref q] ++ []) H Q E :=
  c_ltimes (E := E) (ta := tCons (tC (.ref p)) (tCons (tC (.ref q)) tNil)) (σ := []) (va_cons val_c (va_cons val_c va_nil)) a b hx hy hn hm k

/-- .. as the last statement of a block -/
theorem q_keysE {σ : L2.St} {H : Hp} {d : Addr} {kvs : List (List Key × V)} {i j : Nat} {tb : TS} {D : Ends} (hi : σ[i]? = some (some (.ref d))) (hd : Rd H d (.dT kvs)) (Pv : Hp → Nat → L2.St → Hp → Prop)
    (h0 : ∀ HL, (∀ b, b ≠ d → HL b = H b) → Rd HL d (.dT kvs) → Pv HL 0 σ HL)
    (hq : ∀ HL i σ H', Pv HL i σ H' → H' d = HL d)
    (hs : ∀ HL i k v q σ H', Rd HL d (.dT kvs) → kvs[i]? = some (k, v) → Pv HL i σ H' → H' q = some (.tup (k.map kV)) → ∀ D' : Ends, D'.nx = Pv HL (i + 1) → D'.ct = Pv HL (i + 1) → tb D' (σ.set j (some (.ref q))) H')
    (he : ∀ HL σ H', Pv HL kvs.length σ H' → ∀ H'', (∀ b, b ≠ d → H'' b = H' b) → H'' d = H d → D.nx σ H'') :
    tLockO (tFor (iKeys (tVar i)) (gName j) tb) D σ H := q_keys (u := fun D => D.nx) hi hd Pv h0 hq hs he
theorem SmC.of {n : Nat} (h1 : 1 ≤ n) {L : List En} (h : ∀ e ∈ L, Sm n e.2) (nd : (L.map (·.1)).Nodup) : SmC n L := fun i j => by
  by_cases z : (i, j) ∈ L.map (·.1)
  · obtain ⟨e, he, y⟩ := List.mem_map.mp z
    have := cf_in (k := e.1) (q := e.2) he nd
    rw [y] at this
    rw [show cf L i j = e.2 from this]
    exact h e he
  · rw [cf_out z]
    exact ⟨Nat.lt_of_lt_of_le (show (0 : Nat) < 2 by decide) (Nat.le_trans (Nat.le_of_eq (Nat.pow_one 2).symm) (Nat.pow_le_pow_right (by decide) h1)), Nat.one_lt_two_pow (by omega)⟩
theorem zero_lo {H : Hp} {t : Addr} (e : H t = some (.tup [.int 0, .int 1])) : Lo H t (0 : Rat) := by
  have := int_lo (i := 0) e
  exact this
/-- what a dict gives for a key, else the ratio 0 -/
theorem DE.getD {H : Hp} {kvs : List (List Key × V)} {L : List En} (h : DE H kvs L) (k : Nat × Nat) {t0 : Addr} (z : Lo H t0 0) : ∃ t, (valV kvs (kN k)).getD (.ref t0) = .ref t ∧ Lo H t (cf L k.1 k.2) := by
  rcases DE.val h.1 k with ⟨e, n⟩ | ⟨t, q, e, lo, hq⟩
  · exact ⟨t0, by rw [e]; rfl, by rw [cf_out n]; exact z⟩
  · exact ⟨t, by rw [e]; rfl, by rw [cf_in hq h.2]; exact lo⟩
theorem cf_take {L : List En} {m : Nat} {e : En} (he : L[m]? = some e) (i j : Nat) : cf (L.take (m + 1)) i j = cf (L.take m) i j + (if e.1 = (i, j) then e.2 else 0) := by
  rw [List.take_succ, he, cf_app]
  show _ + cf [e] i j = _
  rw [show e = (e.1, e.2) from rfl, cf_one]
theorem cf_fresh {L : List En} {m : Nat} {e : En} (he : L[m]? = some e) (nd : (L.map (·.1)).Nodup) : cf (L.take m) e.1.1 e.1.2 = 0 := cf_out fun z => by
  have nd2 : ((L.take m ++ L.drop m).map (·.1)).Nodup := by rw [List.take_append_drop]; exact nd
  rw [List.map_append, List.nodup_append] at nd2
  have h2 : e ∈ L.drop m := by
    have hh : (L.drop m)[0]? = some e := by rw [List.getElem?_drop]; exact he
    exact List.mem_of_getElem? hh
  exact nd2.2.2 _ z _ (List.mem_map.mpr ⟨e, h2, rfl⟩) rfl
theorem ok_law_v_plus (T : Txt K mg) : FnOk P w K mg base CX0 4 (fA mg "_law_v_plus") (fDat K (fA mg "_law_v_plus")) ["_law_one", "_law_two"] spVPlus := by
  have G_law_plus := ok_law_plus (P := P) (w := w) (base := base) T
  have G_law_v_plain := ok_law_v_plain (P := P) (w := w) (base := base) T
  refine T._law_v_plus.F.ok sc_law_v_plus (fun vs H Q E h => ?_) (fun cdv A outer s H vs Q E hr h => ?_)
  · obtain ⟨d1, d2, La, Lb, n, m, rfl, _⟩ := h
    rfl
  obtain ⟨d1, d2, La, Lb, n, m, rfl, ⟨k1, rd1, de1⟩, ⟨k2, rd2, de2⟩, bx, l1, l2, s1, s2, hn, hm, k⟩ := h
  refine ⟨_, (pss_cons (ps_set (i := 2) sc_law_v_plus.nd rfl (Or.inl rfl) (pe_callTy (cr_dictT (hu64 hr)) (by rfl) T.dict (by decide +kernel) (pa_cons (pv 0) pa_nil)))
  (pss_cons (ps_lockO (ps_for PassesOwn.never rfl (pi_keys (pv 1)) (pg_name (i := 3) sc_law_v_plus.nd rfl (Or.inl rfl))
  (pss_one (ps_dput (hu_of hr) (pv 2) (pv 3) (pe_c T._law_plus G_law_plus (hr.mono (by decide)) (pa_cons (pe_dget2 (hu_of hr) (pv 2) (pv 3) (pe_tup (pa_cons pe_int (pa_cons pe_int pa_nil))) ⟨by rfl, by rfl, by rfl, by rfl⟩) (pa_cons (pe_dget (hu_of hr) (pv 1) (pv 3) (fun _ _ => rfl)) pa_nil))) rfl))))
  (pss_one (ps_ret (pe_c T._law_v_plain G_law_v_plain (hr.mono (by decide)) (pa_cons (pv 2) pa_nil)))))), ?_⟩
  refine q_asg ((val_var rfl) _ ⟨d1, k1, _, rfl, rd1, DE.kvs de1.1, ?_, fun f hf => ?_⟩)
  · rw [List.map_map]
    exact apart bx de1.2
  have sf := Same.new' (o := .dT k1) hf
  have rd2' := Rd.same rd2 sf
  have ne : d2 ≠ f := fun z => by
    rw [z] at rd2
    rcases rd2 with y | ⟨o, y⟩ <;> rw [hf] at y <;> cases y
  refine q_keys (kvs := k2) (d := d2) rfl rd2' (fun HL x σ H' => ∃ (c : Option V) (F : List En), σ = [some (.ref d1), some (.ref d2), some (.ref f), c] ∧ Wk (upd H f (.dT k1)) HL d2 f k2 H' ∧ DW H' f F ∧ (∀ i j, cf F i j = cf La i j + cf (Lb.take x) i j) ∧ (∀ e ∈ F, e.1 ∈ La.map (·.1) ∨ e.1 ∈ Lb.map (·.1)) ∧ F.length ≤ La.length + x)
    (fun HL off rdL => ?_) (fun HL x σ H' ⟨_, _, _, w, _⟩ => w.at) ?_ ?_
  · have w : Wk (upd H f (.dT k1)) HL d2 f k2 HL := ⟨off, rdL, But.refl, ne⟩
    refine ⟨none, La, rfl, w, ⟨k1, by rw [off f (Ne.symm ne), upd_same], (de1.tu (Tu.of sf)).tu (w.tu upd_same rd2')⟩, fun i j => ?_, fun e he => .inl (List.mem_map.mpr ⟨e, he, rfl⟩), Nat.le_refl _⟩
    show _ = _ + (0 : Rat)
    grind
  · rintro HL x kk v b σ H' rdL hk ⟨c, F, rfl, w, ⟨fk, ef, df⟩, hcf, hky, hln⟩ hb D' hnx hct
    obtain ⟨e, he, ek, t2, ev, lo2⟩ := de2.1.get hk
    dsimp only at ek ev
    subst ek
    subst ev
    have xlt : x < Lb.length := (List.getElem?_eq_some_iff.mp he).1
    have eL : e ∈ Lb := List.mem_of_getElem? he
    have c2 := cf_in (k := e.1) (q := e.2) eL de2.2
    clear lo2
    obtain ⟨t2, q, vk, lo2, hq⟩ : ∃ t q, valV k2 (kN e.1) = some (.ref t) ∧ Lo H t q ∧ (e.1, q) ∈ Lb := by
      rcases DE.val de2.1 e.1 with ⟨_, n⟩ | z
      · exact (n (List.mem_map.mpr ⟨e, eL, rfl⟩)).elim
      · exact z
    have eq : q = e.2 := (cf_in hq de2.2).symm.trans c2
    subst eq
    have tuH : Tu H H' := (Tu.of sf).trans (w.tu upd_same rd2')
    refine call_1 ((val_var rfl) _ ⟨f, rfl, .inr ⟨fk, .inl ef⟩, (val_var rfl) _ (l_tup (va_cons val_c (va_cons val_c va_nil)) (by show 2 ≤ 100000; decide) fun t0 h0 => ⟨_, DGet.t (Same.new' h0 _ _ ef) (Same.new' h0 _ _ hb), ?_⟩)⟩)
    have s0 := Same.new' (o := .tup [.int 0, .int 1]) h0
    obtain ⟨t1, e1, lo1⟩ := (df.tu (Tu.of s0)).getD e.1 (zero_lo (H := upd H' t0 (.tup [.int 0, .int 1])) upd_same)
    rw [e1]
    have w1 := w.step (But.of (p := f) s0)
    have lo2' := (lo2.tu tuH).same s0
    refine va_1 ((v_dgetT (val_var rfl) (val_var rfl) w1.rdH (s0 _ _ hb) vk) _ ?_)
    have cz : cf F e.1.1 e.1.2 = cf La e.1.1 e.1.2 := by
      rw [hcf, cf_fresh he de2.2]; grind
    refine cs_lplus lo1 lo2' (by rw [cz]; exact s1 _ _) (by rw [← c2]; exact s2 _ _) hn hm fun t3 H2 s3 lo3 => ?_
    have b2 : But f H' H2 := But.of (s0.trans s3)
    have ef2 : H2 f = some (.dT fk) := s3 _ _ (s0 _ _ ef)
    refine (val_var rfl) _ ((val_var rfl) _ ⟨f, _, rfl, DPut.t ef2 (s3 _ _ (s0 _ _ hb)) (Nat.lt_of_le_of_lt (show fk.length ≤ 1000 by have := df.len; omega) (by decide)), ?_⟩)
    rw [hnx]
    have w2 := (w1.step (But.of (p := f) s3)).step (show But f H2 (upd H2 f (.dT (putK fk (kN e.1) (.ref t3)))) from fun b o eb nb => by rw [upd_ne nb]; exact eb)
    refine ⟨_, putE F e.1 _, rfl, w2, ⟨_, upd_same, ((df.tu (Tu.of (s0.trans s3))).put lo3).tu (Tu.putT ef2)⟩, fun i j => ?_, fun a ha => ?_, Nat.le_trans len_put (by omega)⟩
    · rw [cf_put df.2, cf_take he]
      split
      · rename_i z
        have h1 : i = e.1.1 := by rw [z]
        have h2 : j = e.1.2 := by rw [z]
        rw [h1, h2, hcf]
        grind
      · rw [hcf]; grind
    · rcases mem_put ha with rfl | h
      · exact .inr (List.mem_map.mpr ⟨e, eL, rfl⟩)
      · exact hky _ h
  · rintro HL σ H' ⟨c, F, rfl, w, dw, hcf, hky, hln⟩ H2 h2 hd2
    obtain ⟨b0, tu2, ff⟩ := w.fin h2 hd2
    obtain ⟨fk, ef, df⟩ := dw
    have l2k : k2.length = Lb.length := de2.len
    rw [l2k] at hln
    have sH : L2.Same H H2 := fun b o e => b0 b o (sf _ _ e) (ne_of_none e hf)
    have df2 : DP H2 f F := ⟨fk, .inl (by rw [ff]; exact ef), df.tu tu2⟩
    refine r_ret (te := tCall _ _ _ _) (c_call (va_cons (val_var rfl) va_nil) ⟨f, F, rfl, df2, by omega, fun p H3 M s3 np dM cM mM lM => k p H3 M (sH.trans s3) ?_ dM (fun i j => ?_) (fun e he => ⟨hky e (mM e he).1, (mM e he).2⟩) (by omega)⟩)
    · exact sH.free np
    · rw [cM, hcf, l2k, List.take_length]

/-! ### products -/
theorem tm1_take {a : En} {L : List En} {m : Nat} {e : En} (he : L[m]? = some e) (i j : Nat) : tm1 a (L.take (m + 1)) i j = tm1 a (L.take m) i j + (if (a.1.1 + e.1.1, a.1.2 + e.1.2) = (i, j) then a.2 * e.2 else 0) := by
  unfold tm1
  rw [List.take_succ, he, rs_app]
  show _ + ((if (a.1.1 + e.1.1, a.1.2 + e.1.2) = (i, j) then a.2 * e.2 else 0) + 0) = _
  grind
theorem tm_take {L M : List En} {m : Nat} {a : En} (ha : L[m]? = some a) (i j : Nat) : tm (L.take (m + 1)) M i j = tm (L.take m) M i j + tm1 a M i j := by
  unfold tm
  rw [List.take_succ, ha, rs_app]
  show _ + (tm1 a M i j + 0) = _
  grind
/-- at most one entry of the other gives a power -/
theorem tm1_one {a : En} {i j : Nat} : ∀ {M : List En}, (M.map (·.1)).Nodup → tm1 a M i j = 0 ∨ ∃ b ∈ M, (a.1.1 + b.1.1, a.1.2 + b.1.2) = (i, j) ∧ tm1 a M i j = a.2 * b.2
  | [], _ => .inl rfl
  | b :: M, nd => by
    rw [List.map_cons, List.nodup_cons] at nd
    have e0 : tm1 a (b :: M) i j = (if (a.1.1 + b.1.1, a.1.2 + b.1.2) = (i, j) then a.2 * b.2 else 0) + tm1 a M i j := rfl
    rcases tm1_one (M := M) nd.2 with z | ⟨c, hc, e1, e2⟩
    · by_cases y : (a.1.1 + b.1.1, a.1.2 + b.1.2) = (i, j)
      · exact .inr ⟨b, List.mem_cons_self .., y, by rw [e0, if_pos y, z]; grind⟩
      · exact .inl (by rw [e0, if_neg y, z]; grind)
    · by_cases y : (a.1.1 + b.1.1, a.1.2 + b.1.2) = (i, j)
      · refine (nd.1 (List.mem_map.mpr ⟨c, hc, ?_⟩)).elim
        rw [← e1] at y
        rw [Prod.mk.injEq] at y
        exact Prod.ext (by omega) (by omega)
      · exact .inr ⟨c, List.mem_cons_of_mem _ hc, e1, by rw [e0, if_neg y, e2]; grind⟩
theorem tm1_fresh {a : En} {L : List En} {m : Nat} {e : En} (he : L[m]? = some e) (nd : (L.map (·.1)).Nodup) : tm1 a (L.take m) (a.1.1 + e.1.1) (a.1.2 + e.1.2) = 0 := by
  have nd2 : ((L.take m ++ L.drop m).map (·.1)).Nodup := by rw [List.take_append_drop]; exact nd
  rw [List.map_append, List.nodup_append] at nd2
  rcases tm1_one (a := a) (i := a.1.1 + e.1.1) (j := a.1.2 + e.1.2) nd2.1 with z | ⟨b, hb, e1, _⟩
  · exact z
  · have h2 : e ∈ L.drop m := by
      have hh : (L.drop m)[0]? = some e := by rw [List.getElem?_drop]; exact he
      exact List.mem_of_getElem? hh
    rw [Prod.mk.injEq] at e1
    exact (nd2.2.2 _ (List.mem_map.mpr ⟨b, hb, rfl⟩) _ (List.mem_map.mpr ⟨e, h2, rfl⟩) (Prod.ext (by omega) (by omega))).elim
def BdC (D M : Nat) (L : List En) : Prop := ∀ i j, Bd D M (cf L i j)
theorem BdC.sm {D M : Nat} {L : List En} (h : BdC D M L) (f : Fz D M) : SmC 1000 L := fun i j => (h i j).sm f
theorem BdC.mem {D M : Nat} {L : List En} (h : BdC D M L) (nd : (L.map (·.1)).Nodup) {e : En} (he : e ∈ L) : Bd D M e.2 := by
  have := cf_in (k := e.1) (q := e.2) he nd
  exact this ▸ h _ _
theorem tm1_bd {a : En} {L : List En} {D M E' N : Nat} (nd : (L.map (·.1)).Nodup) (ha : Bd D M a.2) (hM : BdC E' N L) (i j : Nat) : Bd (D * E') (M * N) (tm1 a L i j) := by
  rcases tm1_one (a := a) (i := i) (j := j) nd with z | ⟨b, hb, _, e⟩
  · rw [z]; exact Bd.zero
  · rw [e]
    exact ha.mul (hM.mem nd hb)
theorem tm_bd {K : List En} {D M E' N : Nat} (nd : (K.map (·.1)).Nodup) (hM : BdC E' N K) (i j : Nat) : ∀ {L : List En}, (∀ e ∈ L, Bd D M e.2) → Bd (D * E') (L.length * (M * N)) (tm L K i j)
  | [], _ => Bd.zero
  | a :: L, h => by
    have ih := tm_bd nd hM i j (L := L) fun e he => h e (List.mem_cons_of_mem _ he)
    have := (tm1_bd nd (h a (List.mem_cons_self ..)) hM i j).add ih
    refine Bd.le (q := tm1 a K i j + tm L K i j) this ?_
    rw [List.length_cons, Nat.succ_mul]
    omega
/-- so many numbers at most below a bound -/
theorem pigeon : ∀ (n : Nat) {l : List Nat}, l.Nodup → (∀ x ∈ l, x < n) → l.length ≤ n
  | 0, l, _, h => by
    cases l with
    | nil => exact Nat.le_refl _
    | cons x r => exact absurd (h x (List.mem_cons_self ..)) (Nat.not_lt_zero _)
  | n + 1, l, nd, h => by
    by_cases z : n ∈ l
    · have l1 := List.length_erase_of_mem z
      have ih := pigeon n (l := l.erase n) (nd.erase n) fun x hx => by
        have h1 := h x (List.mem_of_mem_erase hx)
        have h2 : x ≠ n := fun e => by
          subst e
          exact nd.not_mem_erase hx
        omega
      have : 0 < l.length := List.length_pos_of_mem z
      omega
    · have ih := pigeon n nd fun x hx => by
        have h1 := h x hx
        have h2 : x ≠ n := fun e => z (e ▸ hx)
        omega
      omega
theorem keys_len {L : List En} {g : Nat} (nd : (L.map (·.1)).Nodup) (h : ∀ e ∈ L, e.1.1 + e.1.2 ≤ g) : L.length ≤ (g + 1) * (g + 1) := by
  have nd2 : ((L.map (·.1)).map fun k => k.1 * (g + 1) + k.2).Nodup := by
    refine (List.pairwise_map.mpr ?_)
    refine List.Pairwise.imp_of_mem (R := fun a b => a ≠ b) (fun {a b} ha hb ne e => ne ?_) nd
    obtain ⟨x, hx, rfl⟩ := List.mem_map.mp ha
    obtain ⟨y, hy, rfl⟩ := List.mem_map.mp hb
    have h1 := h x hx
    have h2 := h y hy
    have m1 : (x.1.1 * (g + 1) + x.1.2) % (g + 1) = x.1.2 := by
      rw [Nat.add_comm, Nat.add_mul_mod_self_right, Nat.mod_eq_of_lt (by omega)]
    have m2 : (y.1.1 * (g + 1) + y.1.2) % (g + 1) = y.1.2 := by
      rw [Nat.add_comm, Nat.add_mul_mod_self_right, Nat.mod_eq_of_lt (by omega)]
    have e2 : x.1.2 = y.1.2 := by rw [← m1, ← m2]; exact congrArg (· % (g + 1)) e
    have e1 : x.1.1 * (g + 1) = y.1.1 * (g + 1) := by
      have e' : x.1.1 * (g + 1) + x.1.2 = y.1.1 * (g + 1) + y.1.2 := e
      omega
    exact Prod.ext (Nat.eq_of_mul_eq_mul_right (by omega) e1) e2
  have := pigeon ((g + 1) * (g + 1)) nd2 fun x hx => by
    obtain ⟨k, hk, rfl⟩ := List.mem_map.mp hx
    obtain ⟨e, he, rfl⟩ := List.mem_map.mp hk
    have h1 := h e he
    have h2 : e.1.1 * (g + 1) ≤ g * (g + 1) := Nat.mul_le_mul_right _ (by omega)
    have h3 : (g + 1) * (g + 1) = g * (g + 1) + (g + 1) := Nat.succ_mul g (g + 1)
    omega
  rw [List.length_map, List.length_map] at this
  exact this
def spVTimes : Sp := fun vs H Q _ => ∃ (d1 d2 : Addr) (La Lb : List En) (D M0 E' N g : Nat), vs = [.ref d1, .ref d2] ∧ DP H d1 La ∧ DP H d2 Lb ∧ (∀ a ∈ La, ∀ b ∈ Lb, a.1.1 + b.1.1 + (a.1.2 + b.1.2) ≤ g) ∧ (g + 1) * (g + 1) ≤ 900 ∧ BdC D M0 La ∧ BdC E' N Lb ∧ Fz D M0 ∧ Fz E' N ∧ Fz (D * E') (M0 * N) ∧ Fz (D * E') (La.length * (M0 * N)) ∧
  ∀ (p : Addr) (H' : Hp) (M : List En), L2.Same H H' → H p = none → DW H' p M → (∀ i j, cf M i j = tm La Lb i j) → (∀ e ∈ M, (∃ a ∈ La, ∃ b ∈ Lb, e.1 = (a.1.1 + b.1.1, a.1.2 + b.1.2)) ∧ e.2 ≠ 0) → M.length ≤ La.length * Lb.length → Q (.ref p) H'
theorem ok_law_v_times (T : Txt K mg) : FnOk P w K mg base CX0 4 (fA mg "_law_v_times") (fDat K (fA mg "_law_v_times")) ["_law_one", "_law_two"] spVTimes := by
  have G_law_plus := ok_law_plus (P := P) (w := w) (base := base) T
  have G_law_times := ok_law_times (P := P) (w := w) (base := base) T
  have G_law_v_plain := ok_law_v_plain (P := P) (w := w) (base := base) T
  refine T._law_v_times.F.ok sc_law_v_times (fun vs H Q E h => ?_) (fun cdv A outer s H vs Q E hr h => ?_)
  · obtain ⟨d1, d2, La, Lb, D0, M0, E0, N, g, rfl, _⟩ := h
    rfl
  obtain ⟨d1, d2, La, Lb, D0, M0, E0, N, g, rfl, ⟨k1, rd1, de1⟩, ⟨k2, rd2, de2⟩, lg, ll, s1, s2, fD, fE, fP, fS, k⟩ := h
  refine ⟨_, (pss_cons (ps_set (i := 2) sc_law_v_times.nd rfl (Or.inl rfl) pe_dnewT)
  (pss_cons (ps_lockO (ps_for PassesOwn.never rfl (pi_keys (pv 0)) (pg_name (i := 3) sc_law_v_times.nd rfl (Or.inl rfl))
  (pss_one (ps_lockO (ps_for PassesOwn.never rfl (pi_keys (pv 1)) (pg_name (i := 4) sc_law_v_times.nd rfl (Or.inl rfl))
  (pss_cons (ps_set (i := 5) sc_law_v_times.nd rfl (Or.inl rfl) (pe_tup (pa_cons (pe_op op_add (pe_ix ix_tup (pv 3) pe_int (fun _ _ => rfl)) (pe_ix ix_tup (pv 4) pe_int (fun _ _ => rfl))) (pa_cons (pe_op op_add (pe_ix ix_tup (pv 3) pe_int (fun _ _ => rfl)) (pe_ix ix_tup (pv 4) pe_int (fun _ _ => rfl))) pa_nil))))
  (pss_one (ps_dput (hu_of hr) (pv 2) (pv 5) (pe_c T._law_plus G_law_plus (hr.mono (by decide)) (pa_cons (pe_dget2 (hu_of hr) (pv 2) (pv 5) (pe_tup (pa_cons pe_int (pa_cons pe_int pa_nil))) ⟨by rfl, by rfl, by rfl, by rfl⟩) (pa_cons (pe_c T._law_times G_law_times (hr.mono (by decide)) (pa_cons (pe_dget (hu_of hr) (pv 0) (pv 3) (fun _ _ => rfl)) (pa_cons (pe_dget (hu_of hr) (pv 1) (pv 4) (fun _ _ => rfl)) pa_nil))) pa_nil))) rfl))))))))
  (pss_one (ps_ret (pe_c T._law_v_plain G_law_v_plain (hr.mono (by decide)) (pa_cons (pv 2) pa_nil)))))), ?_⟩
  refine q_asg fun f hf => ?_
  have sf := Same.new' (o := .dT []) hf
  have rd1' := Rd.same rd1 sf
  have rd2' := Rd.same rd2 sf
  have ne1 : d1 ≠ f := fun z => by
    rw [z] at rd1
    rcases rd1 with y | ⟨o, y⟩ <;> rw [hf] at y <;> cases y
  have ne2 : d2 ≠ f := fun z => by
    rw [z] at rd2
    rcases rd2 with y | ⟨o, y⟩ <;> rw [hf] at y <;> cases y
  have snd : ∀ {H1 HL H' : Hp} {d d' : Addr} {kvs kvs' : List (List Key × V)}, Wk H1 HL d f kvs H' → d' ≠ f → Rd H1 d' (.dT kvs') → Rd H1 d (.dT kvs) → Rd H' d' (.dT kvs') := fun {H1 HL H' d d' kvs kvs'} w nf r rr => by
    by_cases z : d' = d
    · subst z
      have e : kvs' = kvs := by
        rcases r with y | ⟨o, y⟩ <;> rcases rr with x | ⟨o', x⟩ <;> rw [y] at x <;> cases x <;> rfl
      rw [e]
      exact w.rdH
    · rcases r with y | ⟨o, y⟩
      · exact .inl (w.but _ _ (by rw [w.off _ z]; exact y) nf)
      · exact .inr ⟨o, w.but _ _ (by rw [w.off _ z]; exact y) nf⟩
  have len1 := de1.len
  have len2 := de2.len
  have sLa : ∀ e ∈ La, Bd D0 M0 e.2 := fun e he => s1.mem de1.2 he
  have sz : ∀ {F : List En}, (F.map (·.1)).Nodup → (∀ e ∈ F, ∃ a ∈ La, ∃ b ∈ Lb, e.1 = (a.1.1 + b.1.1, a.1.2 + b.1.2)) → F.length ≤ 900 := fun {F} nd hk => Nat.le_trans (keys_len (g := g) nd fun e he => by
    obtain ⟨a, ha, b, hb, z⟩ := hk e he
    rw [z]
    exact lg a ha b hb) ll
  refine q_keys (kvs := k1) (d := d1) rfl rd1' (fun HL x σ H' => ∃ (c c2 c3 : Option V) (F : List En), σ = [some (.ref d1), some (.ref d2), some (.ref f), c, c2, c3] ∧ Wk (upd H f (.dT [])) HL d1 f k1 H' ∧ DW H' f F ∧ (∀ i j, cf F i j = tm (La.take x) Lb i j) ∧ (∀ e ∈ F, ∃ a ∈ La, ∃ b ∈ Lb, e.1 = (a.1.1 + b.1.1, a.1.2 + b.1.2)) ∧ F.length ≤ x * Lb.length)
    (fun HL off rdL => ?_) (fun HL x σ H' ⟨_, _, _, _, _, w, _⟩ => w.at) ?_ ?_
  · have w : Wk (upd H f (.dT [])) HL d1 f k1 HL := ⟨off, rdL, But.refl, ne1⟩
    exact ⟨none, none, none, [], rfl, w, ⟨[], by rw [off f (Ne.symm ne1), upd_same], .nil, by simp⟩, fun i j => rfl, (fun e he => nomatch he), Nat.zero_le _⟩
  · rintro HL x kk v b σ H' rdL hk ⟨c, c2, c3, F, rfl, w, ⟨fk, ef, df⟩, hcf, hky, hln⟩ hb D' hnx hct
    obtain ⟨a, ha, ek, _, _, _⟩ := de1.1.get hk
    dsimp only at ek
    subst ek
    have xlt : x < La.length := (List.getElem?_eq_some_iff.mp ha).1
    have aL : a ∈ La := List.mem_of_getElem? ha
    have rd2H := snd w ne2 rd2' rd1'
    have xl : x * Lb.length + Lb.length ≤ La.length * Lb.length := by
      have := Nat.mul_le_mul_right Lb.length (show x + 1 ≤ La.length from xlt)
      rw [Nat.add_mul, Nat.one_mul] at this
      exact this
    have ta : Tu H H' := (Tu.of sf).trans (w.tu upd_same rd1')
    refine q_keysE (kvs := k2) (d := d2) rfl rd2H (fun HL2 y σ H2 => ∃ (c2 c3 : Option V) (F : List En), σ = [some (.ref d1), some (.ref d2), some (.ref f), some (.ref b), c2, c3] ∧ Wk H' HL2 d2 f k2 H2 ∧ DW H2 f F ∧ (∀ i j, cf F i j = tm (La.take x) Lb i j + tm1 a (Lb.take y) i j) ∧ (∀ e ∈ F, ∃ a ∈ La, ∃ b ∈ Lb, e.1 = (a.1.1 + b.1.1, a.1.2 + b.1.2)) ∧ F.length ≤ x * Lb.length + y)
      (fun HL2 off rdL2 => ?_) (fun HL2 y σ H2 ⟨_, _, _, _, w, _⟩ => w.at) ?_ ?_
    · have w2 : Wk H' HL2 d2 f k2 HL2 := ⟨off, rdL2, But.refl, ne2⟩
      refine ⟨c2, c3, F, rfl, w2, ⟨fk, by rw [off f (Ne.symm ne2)]; exact ef, df.tu (w2.tu ef rd2H)⟩, fun i j => ?_, hky, hln⟩
      rw [hcf]
      show _ = _ + (0 : Rat)
      grind
    · rintro HL2 y kk2 v2 b2 σ H2 rdL2 hk2 ⟨c2, c3, F2, rfl, w2, ⟨fk2, ef2, df2⟩, hcf2, hky2, hln2⟩ hb2 D2 hnx2 hct2
      obtain ⟨e, he, ek, _, _, _⟩ := de2.1.get hk2
      dsimp only at ek
      subst ek
      have ylt : y < Lb.length := (List.getElem?_eq_some_iff.mp he).1
      have eL : e ∈ Lb := List.mem_of_getElem? he
      have hb' : H2 b = some (.tup ((kN a.1).map kV)) := (w2.tu ef rd2H) _ _ hb
      have tH2 : Tu H H2 := ta.trans (w2.tu ef rd2H)
      have rd1H2 : Rd H2 d1 (.dT k1) := snd w2 ne1 w.rdH rd2H
      have rd2H2 : Rd H2 d2 (.dT k2) := w2.rdH
      have gt : ∀ {kvs : List (List Key × V)} {L : List En} {e : En}, DE H kvs L → e ∈ L → ∃ t, valV kvs (kN e.1) = some (.ref t) ∧ Lo H t e.2 := fun {kvs L e} de he => by
        rcases DE.val de.1 e.1 with ⟨_, n⟩ | ⟨t, q, e1, lo, hq⟩
        · exact (n (List.mem_map.mpr ⟨e, he, rfl⟩)).elim
        · have eq : q = e.2 := (cf_in hq de.2).symm.trans (cf_in (k := e.1) (q := e.2) he de.2)
          exact ⟨t, e1, eq ▸ lo⟩
      obtain ⟨ta1, va1, loa⟩ := gt de1 aL
      obtain ⟨tb1, vb1, lob⟩ := gt de2 eL
      refine q_asg (l_tup (vs := [.int ((a.1.1 : Int) + (e.1.1 : Int)), .int ((a.1.2 : Int) + (e.1.2 : Int))]) (va_cons (v_add (v_ixT (n := 0) (val_var rfl) val_c (SqT.of hb') rfl) (v_ixT (n := 0) (val_var rfl) val_c (SqT.of hb2) rfl)) (va_cons (v_add (v_ixT (n := 1) (val_var rfl) val_c (SqT.of hb') rfl) (v_ixT (n := 1) (val_var rfl) val_c (SqT.of hb2) rfl)) va_nil)) (by show 2 ≤ 100000; decide) fun sp hsp => ?_)
      have s0 := Same.new' (o := .tup [.int ((a.1.1 : Int) + (e.1.1 : Int)), .int ((a.1.2 : Int) + (e.1.2 : Int))]) hsp
      have esp : (upd H2 sp (.tup [.int ((a.1.1 : Int) + (e.1.1 : Int)), .int ((a.1.2 : Int) + (e.1.2 : Int))])) sp = some (.tup ((kN (a.1.1 + e.1.1, a.1.2 + e.1.2)).map kV)) := by
        rw [upd_same]
        rfl
      generalize upd H2 sp (.tup [.int ((a.1.1 : Int) + (e.1.1 : Int)), .int ((a.1.2 : Int) + (e.1.2 : Int))]) = H3 at s0 esp ⊢
      refine call_1 ((val_var rfl) _ ⟨f, rfl, .inr ⟨fk2, .inl (s0 _ _ ef2)⟩, (val_var rfl) _ (l_tup (va_cons val_c (va_cons val_c va_nil)) (by show 2 ≤ 100000; decide) fun t0 h0 => ⟨_, DGet.t (Same.new' h0 _ _ (s0 _ _ ef2)) (Same.new' h0 _ _ esp), ?_⟩)⟩)
      have s1' := Same.new' (o := .tup [.int 0, .int 1]) h0
      have z0 : Lo (upd H3 t0 (.tup [.int 0, .int 1])) t0 (0 : Rat) := zero_lo upd_same
      generalize upd H3 t0 (.tup [.int 0, .int 1]) = H4 at s1' z0 ⊢
      have S4 := s0.trans s1'
      obtain ⟨t1, e1, lo1⟩ := (df2.tu (Tu.of S4)).getD (a.1.1 + e.1.1, a.1.2 + e.1.2) z0
      rw [e1]
      refine va_1 (call_1 ((v_dgetT (val_var rfl) (val_var rfl) (Rd.same rd1H2 S4) (S4 _ _ hb') va1) _ (va_1 ((v_dgetT (val_var rfl) (val_var rfl) (Rd.same rd2H2 S4) (S4 _ _ hb2) vb1) _ ?_))))
      have sa := sLa a aL
      have sb := s2.mem de2.2 eL
      refine cs_ltimes ((loa.tu tH2).same S4) ((lob.tu tH2).same S4) (sa.sm fD) (sb.sm fE) (by decide) (by decide) fun t3 H5 s5 lo3 => ?_
      have cz : cf F2 (a.1.1 + e.1.1) (a.1.2 + e.1.2) = tm (La.take x) Lb (a.1.1 + e.1.1) (a.1.2 + e.1.2) := by
        rw [hcf2, tm1_fresh he de2.2]; grind
      have sc : Bd (D0 * E0) (La.length * (M0 * N)) (cf F2 (a.1.1 + e.1.1) (a.1.2 + e.1.2)) := by
        rw [cz]
        exact (tm_bd (L := La.take x) de2.2 s2 _ _ fun e he => sLa e (List.mem_of_mem_take he)).le (Nat.mul_le_mul_right _ (by rw [List.length_take]; omega))
      refine cs_lplus (lo1.same s5) lo3 (sc.sm fS) ((sa.mul sb).sm fP) (by decide) (by decide) fun t4 H6 s6 lo4 => ?_
      have S6 := (S4.trans s5).trans s6
      have w3 := w2.step (But.of (p := f) S6)
      have ef6 := S6 _ _ ef2
      have esp6 := s6 _ _ (s5 _ _ (s1' _ _ esp))
      refine (val_var rfl) _ ((val_var rfl) _ ⟨f, _, rfl, DPut.t ef6 esp6 (Nat.lt_of_le_of_lt (show fk2.length ≤ 1000 by have := df2.len; have := sz df2.2 hky2; omega) (by decide)), ?_⟩)
      rw [hnx2]
      have w4 := w3.step (show But f H6 (upd H6 f (.dT (putK fk2 (kN (a.1.1 + e.1.1, a.1.2 + e.1.2)) (.ref t4)))) from fun b o eb nb => by rw [upd_ne nb]; exact eb)
      refine ⟨_, _, putE F2 (a.1.1 + e.1.1, a.1.2 + e.1.2) _, rfl, w4, ⟨_, upd_same, ((df2.tu (Tu.of S6)).put lo4).tu (Tu.putT ef6)⟩, fun i j => ?_, fun a' ha' => ?_, Nat.le_trans len_put (by omega)⟩
      · rw [cf_put df2.2, tm1_take he]
        split
        · rename_i z
          have g1 : i = a.1.1 + e.1.1 := (Prod.mk.inj z).1.symm
          have g2 : j = a.1.2 + e.1.2 := (Prod.mk.inj z).2.symm
          rw [g1, g2, hcf2]
          grind
        · rw [hcf2]; grind
      · rcases mem_put ha' with rfl | h
        · exact ⟨a, aL, e, eL, rfl⟩
        · exact hky2 _ h
    · rintro HL2 σ H2 ⟨c2, c3, F2, rfl, w2, dw2, hcf2, hky2, hln2⟩ H3 h3 hd3
      obtain ⟨b0, tu2, ff⟩ := w2.fin h3 hd3
      obtain ⟨fk2, ef2, df2⟩ := dw2
      rw [len2] at hln2
      rw [hnx]
      refine ⟨_, _, _, F2, rfl, w.step b0, ⟨fk2, by rw [ff]; exact ef2, df2.tu tu2⟩, fun i j => ?_, hky2, by rw [Nat.add_mul, Nat.one_mul]; exact hln2⟩
      rw [hcf2, len2, List.take_length, tm_take ha]
  · rintro HL σ H' ⟨c, c2, c3, F, rfl, w, dw, hcf, hky, hln⟩ H2 h2 hd2
    obtain ⟨b0, tu2, ff⟩ := w.fin h2 hd2
    obtain ⟨fk, ef, df⟩ := dw
    rw [len1] at hln
    have sH : L2.Same H H2 := fun b o e => b0 b o (sf _ _ e) (ne_of_none e hf)
    have df2 : DP H2 f F := ⟨fk, .inl (by rw [ff]; exact ef), df.tu tu2⟩
    refine r_ret (te := tCall _ _ _ _) (c_call (va_cons (val_var rfl) va_nil) ⟨f, F, rfl, df2, sz df.2 hky, fun p H3 M s3 np dM cM mM lM => k p H3 M (sH.trans s3) ?_ dM (fun i j => ?_) (fun e he => ⟨hky e (mM e he).1, (mM e he).2⟩) (by omega)⟩)
    · exact sH.free np
    · rw [cM, hcf, len1, List.take_length]

/-! ### slopes -/
end
end LW

namespace LW
open PySem PySem.Spec PyProof.Rows L2 GL
section
variable {P : Program} {w : World} {K : PySem.W.Frag} {mg : Str → Option Value} {base : Heap}

/-! ### the law's own ratios and rows -/
theorem But.lo {H H' : Hp} {p c t : Addr} {m : Nat} {q : Rat} (b : But p H H') (P : PenAt H p c m) (h : Lo H t q) : Lo H' t q := by
  obtain ⟨kvs, hd⟩ := P.dk
  exact b _ _ h (ne_of h hd (by intro z; cases z))
/-- a list of ratios in lowest terms -/
def Lst (H : Hp) (l : Addr) (xs : List Rat) : Prop := ∃ vs, H l = some (.lst vs) ∧ All2 (fun v q => ∃ p, v = .ref p ∧ Lo H p q) vs xs
theorem Lst.same {H H' : Hp} {t : Addr} {xs : List Rat} (h : Lst H t xs) (s : Same H H') : Lst H' t xs := by
  obtain ⟨vs, e, al⟩ := h
  exact ⟨vs, s _ _ e, al.imp fun v q ⟨p, e, lo⟩ => ⟨p, e, lo.same s⟩⟩
theorem Lst.but {H H' : Hp} {p c l : Addr} {m : Nat} {xs : List Rat} (h : Lst H l xs) (b : But p H H') (P : PenAt H p c m) : Lst H' l xs := by
  obtain ⟨vs, e, al⟩ := h
  obtain ⟨kvs, hd⟩ := P.dk
  exact ⟨vs, b _ _ e (ne_of e hd (by intro z; cases z)), al.imp fun v q ⟨p, e, lo⟩ => ⟨p, e, b.lo P lo⟩⟩
theorem va_s {te : TE} {tr : TA} {σ : L2.St} {H : Hp} {v : V} {Q : List V → Hp → Prop} (h : Val te σ H v) (k : tr σ H fun vs H1 => Q (v :: vs) H1) : tCons te tr σ H Q := h _ k
theorem l_s {ta : TA} {σ : L2.St} {H : Hp} {Q : VK} (h : ta σ H fun vs H1 => vs.length ≤ sizeLine ∧ ∀ q, H1 q = none → Q (.ref q) (upd H1 q (.lst vs))) : tLst ta σ H Q := h
/-- what all bottoms of drawn ratios divide -/
def L9 : Nat := 69720375229712477164533808935312303556800
theorem l9_dvd : ∀ d, d < 100 → 0 < d → d ∣ L9 := by decide +kernel
def spLRatio : Sp := fun vs H Q _ => ∃ (p c : Addr) (m : Nat) (k : Nat), vs = [.ref p, .int (k : Int)] ∧ PenAt H p c m ∧ m + 3 < most ∧ 1 ≤ k ∧ k ≤ 9 ∧ ∀ (t : Addr) (H' : Hp) (q : Rat), Lo H' t q → Sm 10 q → Bd L9 k q → But p H H' → PenAt H' p c (m + 3) → Q (.ref t) H'
theorem ok_law_ratio (T : Txt K mg) : FnOk P w K mg base CX0 5 (fA mg "_law_ratio") (fDat K (fA mg "_law_ratio")) ["_law_pen_here", "_law_most"] spLRatio := by
  have G_law_draw := ok_draw (P := P) (w := w) (base := base) T._law_draw.F T
  have G_law_pick := ok_pick (P := P) (w := w) (base := base) T
  have G_law_q := ok_law_q (P := P) (w := w) (base := base) T
  refine T._law_ratio.F.ok sc_law_ratio (fun vs H Q E h => ?_) (fun cdv A outer s H vs Q E hr h => ?_)
  · obtain ⟨p, c, m, k, rfl, _⟩ := h
    rfl
  obtain ⟨p, c, m, k, rfl, hP, hm, k1, k9, z⟩ := h
  refine ⟨_, (pss_cons (ps_set (i := 2) sc_law_ratio.nd rfl (Or.inl rfl) (pe_c T._law_pick G_law_pick (hr.mono (by decide)) (pa_cons (pv 0) (pa_cons (pe_lst (pa_cons pe_int (pa_cons pe_int (pa_cons pe_int (pa_cons pe_int (pa_cons pe_int (pa_cons pe_int (pa_cons (pe_op op_add pe_int (pe_c T._law_draw G_law_draw (hr.mono (by decide)) (pa_cons (pv 0) (pa_cons pe_int pa_nil)))) pa_nil)))))))) pa_nil))))
  (pss_one (ps_ret (pe_c T._law_q G_law_q (hr.mono (by decide)) (pa_cons (pe_op op_sub (pe_c T._law_draw G_law_draw (hr.mono (by decide)) (pa_cons (pv 0) (pa_cons (pe_op op_add (pe_op op_mulW (pe_op op_mulW pe_int (pv 1)) (pv 2)) pe_int) pa_nil))) (pe_op op_mulW (pv 1) (pv 2))) (pa_cons (pv 2) pa_nil)))))), ?_⟩
  refine q_asg (call_1 ((val_var rfl) _ (va_1 ?_)))
  refine l_s (va_s val_c (va_s val_c (va_s val_c (va_s val_c (va_s val_c (va_s val_c (va_1 (op_l val_c ?_))))))))
  refine c_call (va_cons (val_var rfl) (va_cons val_c va_nil)) ⟨p, c, 99, m, rfl, hP, by omega, by decide, by decide, fun r H1 r0 r1 b1 P1 => ?_⟩
  refine ⟨1, r, rfl, rfl, by show 7 ≤ sizeLine; decide, fun l hl => ?_⟩
  refine ⟨p, c, l, _, m + 1, rfl, P1.same (Same.new hl), by omega, SqL.of upd_same, by show 0 < 7; decide, by show 7 < 1000000000; decide, fun v H2 hv b2 P2 => ?_⟩
  obtain ⟨d, rfl, d0, d1⟩ : ∃ d : Int, v = .int d ∧ 0 < d ∧ d ≤ 99 := by
    simp at hv
    rcases hv with e | e | e | e | e | e
    · exact ⟨1, e, by decide, by decide⟩
    · exact ⟨2, e, by decide, by decide⟩
    · exact ⟨3, e, by decide, by decide⟩
    · exact ⟨7, e, by decide, by decide⟩
    · exact ⟨10, e, by decide, by decide⟩
    · exact ⟨1 + r, e, by omega, by omega⟩
  have c1 : (2 : Nat) ^ 10 < 2 ^ 1000 := Nat.pow_lt_pow_right (by decide) (by decide)
  have kd : 0 < (k : Int) * d := Int.mul_pos (by omega) d0
  have kd2 : (k : Int) * d ≤ 9 * 99 := Int.mul_le_mul (by omega) d1 (by omega) (by omega)
  refine r_ret (te := tCall _ _ _ _) (call_1 ?_)
  have hk : (k : Int).natAbs < 2 ^ 1000 := by omega
  have hd : d.natAbs < 2 ^ 1000 := by omega
  have h2k : (2 * (k : Int)).natAbs < 2 ^ 1000 := by omega
  refine c_call (va_cons (val_var rfl) (va_cons (v_add (v_mul (v_mul val_c (val_var rfl) (fit_mul (by omega) hk)) (val_var rfl) (fit_mul h2k hd)) val_c) va_nil)) ⟨p, c, _, m + 2, rfl, P2, by omega, ?_, ?_, fun r2 H3 r20 r21 b3 P3 => ?_⟩
  · rw [Int.mul_assoc]; omega
  · rw [Int.mul_assoc]; omega
  rw [Int.mul_assoc] at r21
  refine (v_mul (i := (k : Int)) (j := d) (val_var rfl) (val_var rfl) (fit_mul hk hd)) _ ⟨_, _, rfl, rfl, ?_⟩
  have hw : ∀ {i : Int}, i.natAbs < 1024 → i.natAbs < 2 ^ wd := fun h => Nat.lt_trans h (by decide +kernel)
  refine (val_var rfl) _ ?_
  refine ⟨r2 - (k : Int) * d, d, rfl, hw (by omega), hw (by omega), .inl ⟨d0, fun t H4 s4 e4 => ?_⟩⟩
  rw [(low_rat _ d0).1, (low_rat _ d0).2] at e4
  obtain ⟨dn, rfl⟩ : ∃ n : Nat, d = (n : Int) := ⟨d.toNat, by omega⟩
  have bdp : Bd L9 k (Rat.divInt (r2 - (k : Int) * (dn : Int)) (dn : Int)) := Bd.of (by omega) (l9_dvd dn (by omega) (by omega)) (by
    have e0 : ((k * dn : Nat) : Int) = (k : Int) * (dn : Int) := Int.natCast_mul k dn
    omega)
  exact z t H4 _ e4 (Sm.div (n := 10) d0 (by show _ < 1024; omega) (by show _ < 1024; omega)) bdp (((b1.trans (But.of (Same.new hl))).trans b2).trans (b3.trans (But.of s4))) (P3.same s4)

/-! ### the law's own polynomials -/
def listD (xs : List Rat) : PyData := .list (xs.map fun q => pr q.num (q.den : Int))
theorem lst_dp {H : Hp} {t : Addr} {xs : List Rat} (h : Lst H t xs) : Dp K H (.ref t) (listD xs) := by
  obtain ⟨vs, e, al⟩ := h
  refine .lst (SqL.of e) ?_
  clear e
  induction al with
  | nil => exact .nil
  | cons h _ ih =>
    obtain ⟨p, rfl, lo⟩ := h
    exact .cons (lo_dp lo) ih
theorem listD_shaped (xs : List Rat) : SeqAt.shaped (listD xs) = true := by
  have h := polyD_shaped xs
  unfold SeqAt.shaped polyD at h
  unfold SeqAt.shaped listD
  simpa [PyData.canLay0, PyData.depth] using h
theorem All2.take {α β : Type} {R : α → β → Prop} {as : List α} {bs : List β} (h : All2 R as bs) (n : Nat) : All2 R (as.take n) (bs.take n) := by
  refine All2.mk (by rw [List.length_take, List.length_take, h.len]) fun i a b ha hb => ?_
  rw [List.getElem?_take] at ha hb
  split at ha
  · rename_i lt
    rw [if_pos lt] at hb
    obtain ⟨b', hb', r⟩ := h.get ha
    rw [hb] at hb'
    cases hb'
    exact r
  · cases ha
theorem q_ifOr {σ : L2.St} {H : Hp} {t u : TT} {t1 tz : TS} {D : Ends} (h : t σ H fun c H1 => if c = true then (if true = true then t1 { D with nx := tz D } σ H1 else tz D σ H1) else
    u σ H1 fun b H2 => if b = true then t1 { D with nx := tz D } σ H2 else tz D σ H2) : tSeq (tIfS (tOr t u) t1 tNext) tz D σ H := h
theorem atI_m1 {xs : List V} {v : V} (h : xs[xs.length - 1]? = some v) : atI xs (-1) = some v := by
  have hl := (List.getElem?_eq_some_iff.mp h).1
  unfold atI ixN
  rw [if_neg (by decide), if_pos (by omega)]
  show xs[(-1 + (xs.length : Int)).toNat]? = some v
  rw [show (-1 + (xs.length : Int)).toNat = xs.length - 1 by omega]
  exact h
theorem Same.updN {H H1 : Hp} {a : Addr} {o : HO} (s : Same H H1) (h : H a = none) : Same H (upd H1 a o) := fun b z hb => by
  rw [upd_ne (ne_of_none hb h)]
  exact s b z hb
theorem st_bm0 {ty : String} {r : V → List V → Hp → VK → Prop} {to : TE} {x : V} {D : Ends} {σ : L2.St} {H : Hp} (h : Val to σ H x) (k : tyV K ty x H ∧ r x [] H fun _ H1 => D.nx σ H1) : tDrop (tBM0 K ty r to) D σ H := h _ k
end
end LW

/-! comprehensions over a dict whose keys are tuples -/
namespace L2
open PySem PySem.Spec PyProof.Rows GL
/-- locked, or locked by the caller -/
def tLockEO (t : TE) : TE := fun σ H Q => tLockE t σ H Q ∨ t σ H Q
theorem pe_lockEO {X : Cx} {e : Expr} {t : TE} (h : PE X e t) : PE X e (tLockEO t) := ⟨fun pins s σ H Q I hw => hw.elim (fun z => (pe_lock h).run pins s σ H Q I z) fun z => h.run pins s σ H Q I z⟩
section
variable {σ : L2.St} {H : Hp} {d : Addr} {kvs : List (List Key × V)} {i j : Nat} {te : TE} {vs : List Nat} {F : Nat → V}
theorem t_yesX {σ : L2.St} {H : Hp} {Q : Bool → Hp → Prop} (h : Q true H) : tYes σ H Q := h
theorem lcK_walk {HL : Hp} {od : Obj} {Q : VK} (hi : σ[i]? = some (some (.ref d))) (e : HL d = some (.frz od (.dT kvs))) (hn : kvs.length ≤ 1000) (hw : ∀ x, wipe ((wipe σ vs).set j (some x)) vs = wipe σ vs)
    (hs : ∀ n k v q H', kvs[n]? = some (k, v) → H' q = some (.tup (k.map kV)) → Val te ((wipe σ vs).set j (some (.ref q))) H' (F n))
    (hd : ∀ p H', L2.Same HL H' → HL p = none → H' p = some (.lst ((List.range kvs.length).map F)) → Q (.ref p) H') : tLc (iKeys (tVar i)) (gName j) tYes te vs σ HL Q := by
  refine ⟨_, hi, d, od, rfl, .inr ⟨kvs, e, fun D hD => ⟨fun n m H' => m = kvs.length - n ∧ n ≤ kvs.length ∧ (L2.Same HL H' ∧ H' D = some (.lst ((List.range n).map F))), ⟨_, rfl, Nat.zero_le _, GL.Same.new' hD, upd_same⟩, ?_⟩⟩⟩
  rintro n m H' ⟨rfl, hn2, s, eD⟩
  have q := s _ _ e
  rcases Nat.lt_or_ge n kvs.length with lt | ge
  · refine .inr ⟨⟨q, lt⟩, fun H2 => L2.Same HL H2 ∧ H2 D = some (.lst ((List.range (n + 1)).map F)), fun H2 p' => ⟨kvs.length - (n + 1), by omega, rfl, lt, p'⟩, ?_⟩
    rintro v H2 ⟨rfl, k, w, t, hk, rfl, ht⟩
    refine ⟨hw _, t_yesX ?_⟩
    refine iteT ?_
    refine hs n k w t H2 hk ht _ ⟨_, eD, by rw [List.length_map, List.length_range]; exact Nat.lt_of_le_of_lt (show n ≤ 1000 by omega) (by decide), fun b o z => ?_, ?_⟩
    · rw [upd_ne (ne_of_none z hD)]
      exact s _ _ z
    · rw [upd_same, List.range_succ, List.map_append]
      rfl
  · obtain rfl : n = kvs.length := by omega
    exact .inl ⟨⟨q, Nat.le_refl _⟩, hd D H' s hD eD⟩
/-- [e for k in d], the items values that hang on the keys alone -/
theorem l_lcKeys {Q : VK} (hi : σ[i]? = some (some (.ref d))) (rd : Rd H d (.dT kvs)) (hn : kvs.length ≤ 1000) (hw : ∀ x, wipe ((wipe σ vs).set j (some x)) vs = wipe σ vs)
    (hs : ∀ n k v q H', kvs[n]? = some (k, v) → H' q = some (.tup (k.map kV)) → Val te ((wipe σ vs).set j (some (.ref q))) H' (F n))
    (hd : ∀ p H', L2.Same H H' → H p = none → H' p = some (.lst ((List.range kvs.length).map F)) → Q (.ref p) H') : tLockEO (tLc (iKeys (tVar i)) (gName j) tYes te vs) σ H Q := by
  rcases rd with e | ⟨od, e⟩
  · refine .inl ⟨d, _, e, True.intro, fun od => ?_⟩
    have e2 : upd H d (.frz od (.dT kvs)) d = some (.frz od (.dT kvs)) := upd_same
    refine lcK_walk hi e2 hn hw hs fun p H' s np ep => ⟨s _ _ e2, ?_⟩
    have nd : p ≠ d := fun z => by rw [z, e2] at np; cases np
    refine hd p _ (fun b o z => ?_) (by rw [upd_ne nd] at np; exact np) (by rw [upd_ne nd]; exact ep)
    by_cases hb : b = d
    · rw [hb] at z ⊢
      rw [upd_same, ← e, z]
    · rw [upd_ne hb]
      exact s _ _ (by rw [upd_ne hb]; exact z)
  · exact .inr (lcK_walk hi e hn hw hs hd)
end
end L2

namespace LW
open PySem PySem.Spec PyProof.Rows L2 GL
section
variable {P : Program} {w : World} {K : PySem.W.Frag} {mg : Str → Option Value} {base : Heap}

/-! ### a number times a polynomial -/
def spVScaled : Sp := fun vs H Q _ => ∃ (d t : Addr) (L : List En) (c : Rat) (n m : Nat), vs = [.ref d, .ref t] ∧ DP H d L ∧ Lo H t c ∧ Sm m c ∧ L.length ≤ 900 ∧ SmC n L ∧ n ≤ 1000 ∧ m ≤ 1000 ∧
  ∀ (p : Addr) (H' : Hp) (M : List En), L2.Same H H' → H p = none → DW H' p M → (∀ i j, cf M i j = cf L i j * c) → (∀ e ∈ M, e.1 ∈ L.map (·.1) ∧ e.2 ≠ 0) → M.length ≤ L.length → Q (.ref p) H'
theorem ok_law_v_scaled (T : Txt K mg) : FnOk P w K mg base CX0 4 (fA mg "_law_v_scaled") (fDat K (fA mg "_law_v_scaled")) ["_law_one", "_law_by"] spVScaled := by
  have G_law_times := ok_law_times (P := P) (w := w) (base := base) T
  have G_law_v_plain := ok_law_v_plain (P := P) (w := w) (base := base) T
  refine T._law_v_scaled.F.ok sc_law_v_scaled (fun vs H Q E h => ?_) (fun cdv A outer s H vs Q E hr h => ?_)
  · obtain ⟨d, t, L, c, n, m, rfl, _⟩ := h
    rfl
  obtain ⟨d, t, L, cv, n, m, rfl, ⟨k1, rd1, de1⟩, lot, sm, ll, s1, hn, hm, k⟩ := h
  refine ⟨_, (pss_cons (ps_set (i := 2) sc_law_v_scaled.nd rfl (Or.inl rfl) pe_dnewT)
  (pss_cons (ps_lockO (ps_for PassesOwn.never rfl (pi_keys (pv 0)) (pg_name (i := 3) sc_law_v_scaled.nd rfl (Or.inl rfl))
  (pss_one (ps_dput (hu_of hr) (pv 2) (pv 3) (pe_c T._law_times G_law_times (hr.mono (by decide)) (pa_cons (pe_dget (hu_of hr) (pv 0) (pv 3) (fun _ _ => rfl)) (pa_cons (pv 1) pa_nil))) rfl))))
  (pss_one (ps_ret (pe_c T._law_v_plain G_law_v_plain (hr.mono (by decide)) (pa_cons (pv 2) pa_nil)))))), ?_⟩
  refine q_asg fun f hf => ?_
  have sf := Same.new' (o := .dT []) hf
  have rd1' := Rd.same rd1 sf
  have ne1 : d ≠ f := fun z => by
    rw [z] at rd1
    rcases rd1 with y | ⟨o, y⟩ <;> rw [hf] at y <;> cases y
  have len1 := de1.len
  refine q_keys (kvs := k1) (d := d) rfl rd1' (fun HL x σ H' => ∃ (c : Option V) (F : List En), σ = [some (.ref d), some (.ref t), some (.ref f), c] ∧ Wk (upd H f (.dT [])) HL d f k1 H' ∧ DW H' f F ∧ (∀ i j, cf F i j = cf (L.take x) i j * cv) ∧ (∀ e ∈ F, e.1 ∈ L.map (·.1)) ∧ F.length ≤ x)
    (fun HL off rdL => ?_) (fun HL x σ H' ⟨_, _, _, w, _⟩ => w.at) ?_ ?_
  · have w : Wk (upd H f (.dT [])) HL d f k1 HL := ⟨off, rdL, But.refl, ne1⟩
    refine ⟨none, [], rfl, w, ⟨[], by rw [off f (Ne.symm ne1), upd_same], .nil, by simp⟩, fun i j => ?_, (fun e he => nomatch he), Nat.zero_le _⟩
    show (0 : Rat) = 0 * _
    grind
  · rintro HL x kk v b σ H' rdL hk ⟨c, F, rfl, w, ⟨fk, ef, df⟩, hcf, hky, hln⟩ hb D' hnx hct
    obtain ⟨a, ha, ek, _, _, _⟩ := de1.1.get hk
    dsimp only at ek
    subst ek
    have xlt : x < L.length := (List.getElem?_eq_some_iff.mp ha).1
    have aL : a ∈ L := List.mem_of_getElem? ha
    have tuH : Tu H H' := (Tu.of sf).trans (w.tu upd_same rd1')
    obtain ⟨t1, va1, lo1⟩ : ∃ t, valV k1 (kN a.1) = some (.ref t) ∧ Lo H t a.2 := by
      rcases DE.val de1.1 a.1 with ⟨_, n⟩ | ⟨t, q, e1, lo, hq⟩
      · exact (n (List.mem_map.mpr ⟨a, aL, rfl⟩)).elim
      · have eq : q = a.2 := (cf_in hq de1.2).symm.trans (cf_in (k := a.1) (q := a.2) aL de1.2)
        exact ⟨t, e1, eq ▸ lo⟩
    have sa : Sm n a.2 := by
      have := cf_in (k := a.1) (q := a.2) aL de1.2
      exact this ▸ s1 _ _
    refine call_1 ((v_dgetT (val_var rfl) (val_var rfl) w.rdH hb va1) _ (va_1 (val_var rfl _ ?_)))
    refine cs_ltimes (lo1.tu tuH) (lot.tu tuH) sa sm hn hm fun t3 H5 s5 lo3 => ?_
    have ef5 := s5 _ _ ef
    refine (val_var rfl) _ ((val_var rfl) _ ⟨f, _, rfl, DPut.t ef5 (s5 _ _ hb) (Nat.lt_of_le_of_lt (show fk.length ≤ 1000 by have := df.len; omega) (by decide)), ?_⟩)
    show D'.nx _ _
    rw [hnx]
    have w4 := (w.step (But.of (p := f) s5)).step (show But f H5 (upd H5 f (.dT (putK fk (kN a.1) (.ref t3)))) from fun b o eb nb => by rw [upd_ne nb]; exact eb)
    refine ⟨_, putE F a.1 _, rfl, w4, ⟨_, upd_same, ((df.tu (Tu.of s5)).put lo3).tu (Tu.putT ef5)⟩, fun i j => ?_, fun a' ha' => ?_, Nat.le_trans len_put (by omega)⟩
    · rw [cf_put df.2, cf_take ha]
      by_cases y : a.1 = (i, j)
      · rw [if_pos y, if_pos y]
        have c0 : cf (L.take x) i j = 0 := by
          have := cf_fresh ha de1.2
          rw [y] at this
          exact this
        rw [c0]; grind
      · rw [if_neg y, if_neg y, hcf]; grind
    · rcases mem_put ha' with rfl | h
      · exact List.mem_map.mpr ⟨a, aL, rfl⟩
      · exact hky _ h
  · rintro HL σ H' ⟨c, F, rfl, w, dw, hcf, hky, hln⟩ H2 h2 hd2
    obtain ⟨b0, tu2, ff⟩ := w.fin h2 hd2
    obtain ⟨fk, ef, df⟩ := dw
    rw [len1] at hln
    have sH : L2.Same H H2 := fun b o e => b0 b o (sf _ _ e) (ne_of_none e hf)
    have df2 : DP H2 f F := ⟨fk, .inl (by rw [ff]; exact ef), df.tu tu2⟩
    refine r_ret (te := tCall _ _ _ _) (c_call (va_cons (val_var rfl) va_nil) ⟨f, F, rfl, df2, by omega, fun p H3 M s3 np dM cM mM lM => k p H3 M (sH.trans s3) ?_ dM (fun i j => ?_) (fun e he => ⟨hky e (mM e he).1, (mM e he).2⟩) (by omega)⟩)
    · exact sH.free np
    · rw [cM, hcf, len1, List.take_length]
/-! ### powers and values -/
def evT (x y : Rat) (e : En) : Rat := e.2 * (rp x e.1.1 * rp y e.1.2)
def evL (L : List En) (x y : Rat) : Rat := rs (evT x y) L
theorem evL_box {L : List En} {N : Nat} (h : ∀ e ∈ L, e.1.1 ≤ N ∧ e.1.2 ≤ N) (x y : Rat) : evL L x y = ev2 N (cf L) x y :=
  rs_box (fun p => rp x p.1 * rp y p.2) (nodup_box N N) fun e he _ => mem_box.mpr (h e he)
end
end LW

namespace LW
open PySem PySem.Spec PyProof.Rows L2 GL
section
variable {P : Program} {w : World} {K : PySem.W.Frag} {mg : Str → Option Value} {base : Heap}




/-! ### degrees -/
/-- the greatest sum of powers with a number other than 0, -1 if there is none -/
def IsDeg (f : Nat → Nat → Rat) (d : Int) : Prop := (d = -1 ∧ ∀ i j, f i j = 0) ∨ ∃ i j : Nat, f i j ≠ 0 ∧ d = (i : Int) + (j : Int) ∧ ∀ i' j' : Nat, f i' j' ≠ 0 → (i' : Int) + (j' : Int) ≤ d
def MemD (R : List (List Rat)) (n : Nat) (ns : List Int) : Prop := ∀ m, m ∈ ns ↔ ∃ t, t < n ∧ rowAt R t ≠ [] ∧ m = (t : Int) + ((rowAt R t).length : Int) - 1
theorem isDeg_of {R : List (List Rat)} (c : Can R) {ns : List Int} (h : MemD R R.length ns) : (ns = [] → IsDeg (cf2 R) (-1)) ∧ ∀ m, m ∈ ns → (∀ y, y ∈ ns → y ≤ m) → IsDeg (cf2 R) m := by
  have nz : ∀ {i j : Nat}, cf2 R i j ≠ 0 → i < R.length ∧ rowAt R i ≠ [] ∧ j < (rowAt R i).length := fun {i j} z => by
    have jl : j < (rowAt R i).length := by
      rcases Nat.lt_or_ge j (rowAt R i).length with lt | ge
      · exact lt
      · exact (z (co_none ge)).elim
    refine ⟨?_, fun e => by rw [e] at jl; exact absurd jl (Nat.not_lt_zero _), jl⟩
    rcases Nat.lt_or_ge i R.length with lt | ge
    · exact lt
    · rw [rowAt_none ge] at jl
      exact absurd jl (Nat.not_lt_zero _)
  refine ⟨fun e => .inl ⟨rfl, fun i j => ?_⟩, fun m hm hx => ?_⟩
  · by_cases z : cf2 R i j = 0
    · exact z
    · obtain ⟨h1, h2, _⟩ := nz z
      have := (h _).mpr ⟨i, h1, h2, rfl⟩
      rw [e] at this
      cases this
  · obtain ⟨t, ht, hr, rfl⟩ := (h m).mp hm
    have lr : 0 < (rowAt R t).length := List.length_pos_iff.mpr hr
    have ct : tlen (rowAt R t) = (rowAt R t).length := by
      rw [rowAt_some (List.getElem?_eq_getElem ht)]
      exact c.row _ (List.getElem_mem ht)
    obtain ⟨q, hq, qz⟩ := tlen_last (xs := rowAt R t) (k := (rowAt R t).length - 1) (by omega)
    refine .inr ⟨t, (rowAt R t).length - 1, ?_, by omega, fun i' j' z => ?_⟩
    · unfold cf2
      rw [co_some hq]
      exact qz
    · obtain ⟨h1, h2, h3⟩ := nz z
      have := hx _ ((h _).mpr ⟨i', h1, h2, rfl⟩)
      omega
theorem tru_tup {H : Hp} {p : Addr} {xs : List V} {b : Bool} (h : SqT K H p xs) (e : b = !xs.isEmpty) : TruV K (.ref p) H b := Or.inr (Or.inl ⟨xs, h, e⟩)
def spDegP (mg : Str → Option Value) : Sp := fun vs H Q _ => ∃ (a : Addr) (R : List (List Rat)), vs = [.ref a] ∧ PnAt (pnA mg) H a R ∧ R.length ≤ 1000 ∧ ∀ d H', L2.Same H H' → IsDeg (cf2 R) d → Q (.int d) H'
theorem ok_Plane_degree (T : Txt K mg) (TP : PlaneT K mg) : FnOk P w K mg base CX0 1 (mA K (pnA mg) "degree") (fDat K (mA K (pnA mg) "degree")) ["self"] (spDegP mg) := by
  refine TP.m_degree.F.ok scPlane_degree (fun vs H Q E h => ?_) (fun cdv A outer s H vs Q E hr h => ?_)
  · obtain ⟨a, R, rfl, _⟩ := h
    rfl
  obtain ⟨a, R, rfl, ⟨dx, t, e, ⟨vs, ev, al⟩, cR⟩, lR, q⟩ := h
  refine ⟨_, (pss_one (ps_ret (pe_callBK (cr_maxDef rfl) (by rfl) T.max (by decide +kernel) (pa_cons (pe_lc (own := [("i", 1), ("row", 2)]) (g := gTup K 2 (gCons (gName 1) (gCons (gName 2) gNil))) (by rfl) scPlane_degree.nd (pi_enumT (by rfl) T.enumerate (pa_cons (pe_fld (pv 0) (by rfl)) pa_nil)) (blkOk_by (own := [("i", 1), ("row", 2)]) (N := ["self", "i", "row"]) (sc := defScope sPlane_degree) (by decide +kernel)) (fun _ _ _ _ _ => pg_tup rfl (pgs_cons (pg_name (i := 1) scPlane_degree.nd rfl (Or.inl rfl)) (pgs_cons (pg_name (i := 2) scPlane_degree.nd rfl (Or.inl rfl)) pgs_nil))) (fun _ _ _ _ _ => pts_one (show PT _ _ (tTru K (tVar 2)) from pt_truth (pv 2) (by intro _; rfl))) (fun _ _ _ _ _ => (pe_op op_sub (pe_op op_add (pv 1) (pe_callB (show CallR _ (.builtin "len") (fun xs H Q => ∃ p ys, xs = [.ref p] ∧ (SqL K H p ys ∨ SqT K H p ys) ∧ Q (.int ys.length) H) from call_len_seq) (by rfl) T.len PySem.boot_len (pa_cons (pv 2) pa_nil))) pe_int))) pa_nil) (pk_cons (pe_un un_neg pe_int) pk_nil)))), ?_⟩
  have lv := al.len
  refine r_ret (kw_one (l_lcEG (fun D i H1 => ∃ ns, L2.Same H H1 ∧ H1 D = some (.lst (ns.map V.int)) ∧ ns.length ≤ i ∧ MemD R i ns) (va_cons (v_rows TP (val_var rfl) e) va_nil) (SqT.of ev) (fun D hD => ⟨[], Same.new' hD, upd_same, Nat.le_refl _, fun m => ⟨fun h => (nomatch h), fun ⟨t, h, _⟩ => absurd h (Nat.not_lt_zero _)⟩⟩) (fun D i H1 _ ⟨ns, s, _⟩ => SqT.of (s _ _ ev)) (fun D i H1 H2 ⟨ns, s, e1, r⟩ s2 => ⟨ns, s.trans s2, s2 _ _ e1, r⟩) (fun D i v U H1 hD hv p eU => ?_) (fun D H1 hD ⟨ns, s, e1, _, md⟩ => ?_)))
  · obtain ⟨ns, s1, e1, ln, md⟩ := p
    obtain ⟨r, hr2, p, rfl, los⟩ := al.get hv
    have er := rowAt_some hr2
    have il : i < vs.length := (List.getElem?_eq_some_iff.mp hv).1
    obtain ⟨us, eu, al2⟩ := los.same s1
    have lu := al2.len
    refine g_two (SqT.of eU) ⟨rfl, ?_⟩
    by_cases z : r = []
    · subst z
      have u0 : us = [] := List.eq_nil_of_length_eq_zero (by rw [lu]; rfl)
      subst u0
      refine (ans_tr (b := false) (val_var rfl) (tru_tup (xs := []) (SqT.of eu) rfl)) _ (iteF ⟨ns, s1, e1, by omega, fun m => ⟨fun h => ?_, fun ⟨t, h, h2, h3⟩ => ?_⟩⟩)
      · obtain ⟨t, h1, h2⟩ := (md m).mp h
        exact ⟨t, by omega, h2⟩
      · refine (md m).mpr ⟨t, ?_, h2, h3⟩
        rcases Nat.lt_or_ge t i with lt | ge
        · exact lt
        · have : t = i := by omega
          subst this
          exact (h2 er).elim
    · have lr : 0 < r.length := List.length_pos_iff.mpr z
      refine (ans_tr (b := true) (val_var rfl) (tru_tup (xs := us) (SqT.of eu) (by cases us with | nil => exact absurd lu (by show ¬ 0 = _; omega) | cons _ _ => rfl))) _ (iteT ?_)
      refine (v_sub (v_add (i := (i : Int)) (val_var rfl) (v_lenL (val_var rfl) ⟨us, eu, al2⟩)) val_c) _ ⟨_, e1, by rw [List.length_map]; exact Nat.lt_of_le_of_lt (show ns.length ≤ 1000 by omega) (by decide), ns ++ [(i : Int) + (r.length : Int) - 1], ?_, by rw [List.map_append]; exact upd_same, by rw [List.length_append]; show ns.length + 1 ≤ _; omega, fun m => ?_⟩
      · intro c o zz
        rw [upd_ne (ne_of_none zz hD)]
        exact s1 _ _ zz
      · rw [List.mem_append, List.mem_singleton]
        constructor
        · rintro (h | rfl)
          · obtain ⟨t, h1, h2⟩ := (md m).mp h
            exact ⟨t, by omega, h2⟩
          · exact ⟨i, by omega, by rw [er]; exact z, by rw [er]⟩
        · rintro ⟨t, h1, h2, h3⟩
          rcases Nat.lt_or_ge t i with lt | ge
          · exact .inl ((md m).mpr ⟨t, lt, h2, h3⟩)
          · have : t = i := by omega
            subst this
            rw [er] at h3
            exact .inr h3
  · rw [lv] at md
    have dg := isDeg_of cR md
    exact (v_neg (n := 1) val_c) _ ⟨D, ns, .int (-1), rfl, rfl, SqL.of e1, fun z => q _ H1 s (dg.1 z), fun m hm hx => q m H1 s (dg.2 m hm hx)⟩
end
end LW

namespace LW
open PySem PySem.Spec PyProof.Rows L2 GL
section
variable {P : Program} {w : World} {K : PySem.W.Frag} {mg : Str → Option Value} {base : Heap}

/-! ### degrees, rows -/
theorem range_get {α β : Type} {L : List α} {f : Option α → β} {h : α → β} (e : ∀ a ∈ L, f (some a) = h a) : (List.range L.length).map (fun n => f L[n]?) = L.map h := by
  refine List.ext_getElem (by rw [List.length_map, List.length_map, List.length_range]) fun i h1 h2 => ?_
  rw [List.length_map, List.length_range] at h1
  rw [List.getElem_map, List.getElem_map, List.getElem_range, List.getElem?_eq_getElem h1]
  exact e _ (List.getElem_mem h1)
def oV (h : En → V) : Option En → V
  | some e => h e
  | none => .non
def nz (L : List En) : Prop := ∀ e ∈ L, e.2 ≠ 0
theorem cf_mem {L : List En} {i j : Nat} (h : cf L i j ≠ 0) : ∃ e ∈ L, e.1 = (i, j) := by
  by_cases z : (i, j) ∈ L.map (·.1)
  · obtain ⟨e, he, ee⟩ := List.mem_map.mp z
    exact ⟨e, he, ee⟩
  · exact (h (cf_out z)).elim
theorem key_at {H : Hp} {kvs : List (List Key × V)} {L : List En} (de : DE H kvs L) {n : Nat} {k : List Key} {v : V} (h : kvs[n]? = some (k, v)) : ∃ e, L[n]? = some e ∧ k = kN e.1 := by
  obtain ⟨e, he, ek, _⟩ := de.1.get h
  exact ⟨e, he, ek⟩
/-- a list of lists of told ratios -/
def LsL (H : Hp) (l : Addr) (R : List (List Rat)) : Prop := ∃ us, H l = some (.lst us) ∧ All2 (fun v r => ∃ a, v = V.ref a ∧ LosL H a r) us R
def gridR (L : List En) (w h : Nat) : List (List Rat) := (List.range w).map fun i => (List.range h).map (cf L i)
structure Cov (L : List En) (w h B : Nat) : Prop where
  out : ∀ e ∈ L, e.1.1 < w ∧ e.1.2 < h
  top : w = 0 ∨ ∃ e ∈ L, e.1.1 + 1 = w
  wB : w ≤ B
  hB : h ≤ B
theorem max_keys {f : En → Nat} {L : List En} {Q : VK} {H : Hp} {l : Addr} (e : H l = some (.lst (V.int 0 :: L.map fun e : En => V.int ((f e : Int) + 1)))) (q : ∀ w : Nat, (∀ e ∈ L, f e < w) → (w = 0 ∨ ∃ e ∈ L, f e + 1 = w) → Q (.int (w : Int)) H) : rMax K [.ref l] H Q := by
  refine ⟨l, 0 :: L.map fun e : En => ((f e : Int) + 1), rfl, SqL.of (by rw [e, List.map_cons, List.map_map]; rfl), by simp, fun m hm hx => ?_⟩
  have ge : ∀ e ∈ L, (f e : Int) + 1 ≤ m := fun e he => hx _ (List.mem_cons_of_mem _ (List.mem_map.mpr ⟨e, he, rfl⟩))
  rcases List.mem_cons.mp hm with rfl | hm
  · exact q 0 (fun e he => by have := ge e he; omega) (.inl rfl)
  · obtain ⟨e, he, rfl⟩ := List.mem_map.mp hm
    exact q (f e + 1) (fun e' he' => by have := ge e' he'; omega) (.inr ⟨e, he, rfl⟩)
theorem v_maxkeys {f : En → Nat} {L : List En} {kvs : List (List Key × V)} {σ : L2.St} {H : Hp} {d : Addr} {i j n0 : Nat} {vs : List Nat} {Q : VK} (hi : σ[i]? = some (some (.ref d))) (rd : Rd H d (.dT kvs)) (de : DE H kvs L) (hl : L.length ≤ 900) (hw : ∀ x, wipe ((wipe σ vs).set j (some x)) vs = wipe σ vs) (hj : j < (wipe σ vs).length)
    (hf : ∀ e : En, [V.int (e.1.1 : Int), V.int (e.1.2 : Int)][n0]? = some (V.int (f e : Int))) (q : ∀ (w : Nat) H', L2.Same H H' → (∀ e ∈ L, f e < w) → (w = 0 ∨ ∃ e ∈ L, f e + 1 = w) → Q (.int (w : Int)) H') :
    tCB (rMax K) (tCons (tOp rCat (tLst (tCons (tC (.int 0)) tNil)) (tLockEO (tLc (iKeys (tVar i)) (gName j) tYes (tOp (rI0 fun i j => .int (i + j)) (tOp (rIxT K) (tVar j) (tC (.int (n0 : Int)))) (tC (.int 1))) vs))) tNil) σ H Q := by
  have lk := de.len
  refine cb_one (op_in (l_lst (va_cons val_c va_nil) (by decide) fun l1 h1 => ?_))
  have s0 := Same.new' (o := .lst [.int 0]) h1
  refine l_lcKeys (kvs := kvs) (F := fun n => oV (fun e : En => V.int ((f e : Int) + 1)) L[n]?) hi (Rd.same rd s0) (by omega) hw (fun n k v t H' hk ht => ?_) (fun p H' s np ep => ?_)
  · obtain ⟨e, he, rfl⟩ := key_at de hk
    rw [he]
    exact v_add (v_ixT (n := n0) (v := .int (f e : Int)) (val_var (by rw [List.getElem?_set_self hj])) val_c (SqT.of ht) (hf e)) val_c
  · rw [lk, range_get (f := oV (fun e : En => V.int ((f e : Int) + 1))) (h := fun e : En => V.int ((f e : Int) + 1)) (fun a _ => rfl)] at ep
    refine ⟨l1, p, [.int 0], L.map fun e : En => V.int ((f e : Int) + 1), rfl, rfl, s _ _ upd_same, ep, by rw [List.length_map]; exact Nat.le_trans (show 1 + L.length ≤ 1000 by omega) (by decide), fun l2 h2 => ?_⟩
    have s2 := Same.new' (o := .lst ([.int 0] ++ L.map fun e : En => V.int ((f e : Int) + 1))) h2
    exact max_keys (L := L) (by rw [upd_same]; rfl) fun w h1 h2 => q w _ ((s0.trans s).trans s2) h1 h2
theorem em_getV {td ta tb : TE} {σ : L2.St} {H : Hp} {d : Addr} {M : List En} {i j : Nat} (h : Val td σ H (.ref d)) (dp : DP H d M) (ha : Val ta σ H (.int (i : Int))) (hb : ∀ {H'}, Val tb σ H' (.int (j : Int))) :
    EM (tDGet2 td (tTup (tCons ta (tCons tb tNil))) (tTup (tCons (tC (.int 0)) (tCons (tC (.int 1)) tNil)))) σ H (fun v H' => ∃ p, v = .ref p ∧ Lo H' p (cf M i j)) := fun Q q => by
  obtain ⟨kvs, rd, de⟩ := dp
  refine h _ ⟨d, rfl, .inr ⟨kvs, rd⟩, l_tup (va_cons ha (va_cons hb va_nil)) (by show 2 ≤ 100000; decide) fun b hb => l_tup (va_cons val_c (va_cons val_c va_nil)) (by show 2 ≤ 100000; decide) fun t0 h0 => ?_⟩
  have s1 := Same.new' (o := .tup [.int (i : Int), .int (j : Int)]) hb
  have s2 := Same.new' (o := .tup [.int 0, .int 1]) h0
  have S := s1.trans s2
  obtain ⟨t, e, lo⟩ := (de.tu (Tu.of S)).getD (i, j) (zero_lo (H := upd (upd H b (.tup [.int (i : Int), .int (j : Int)])) t0 (.tup [.int 0, .int 1])) upd_same)
  refine ⟨_, .inr ⟨kvs, kN (i, j), b, Rd.same rd S, rfl, s2 _ _ (by rw [upd_same]; rfl), rfl⟩, ?_⟩
  rw [e]
  exact q _ _ S ⟨t, rfl, lo⟩
def spVRows : Sp := fun vs H Q _ => ∃ (d : Addr) (L : List En) (B : Nat), vs = [.ref d] ∧ DP H d L ∧ Bx B L ∧ L.length ≤ 900 ∧ B ≤ 100 ∧ ∀ p H' w h, L2.Same H H' → H p = none → LsL H' p (gridR L w h) → Cov L w h B → Q (.ref p) H'
theorem ok_law_v_rows (T : Txt K mg) : FnOk P w K mg base CX0 1 (fA mg "_law_v_rows") (fDat K (fA mg "_law_v_rows")) ["_law_one"] spVRows := by
  refine T._law_v_rows.F.ok sc_law_v_rows (fun vs H Q E h => ?_) (fun cdv A outer s H vs Q E hr h => ?_)
  · obtain ⟨d, L, B, rfl, _⟩ := h
    rfl
  obtain ⟨d, L, B, rfl, dp, bx, hl, hB, q⟩ := h
  refine ⟨_, (pss_cons (ps_set (i := 1) sc_law_v_rows.nd rfl (Or.inl rfl) (pe_callB (cr_max rfl) (by rfl) T.max (by decide +kernel) (pa_cons (pe_op op_cat (pe_lst (pa_cons pe_int pa_nil)) (pe_lockEO (pe_lc (own := [("_law_spot", 2)]) (g := gName 2) (tt := tYes) (by rfl) sc_law_v_rows.nd (pi_keys (pv 0)) (blkOk_by (own := [("_law_spot", 2)]) (N := ["_law_one", "_law_wide", "_law_spot", "_law_high", "_law_j", "_law_i"]) (sc := defScope s_law_v_rows) (by decide +kernel)) (fun _ _ _ _ _ => pg_name (i := 2) sc_law_v_rows.nd rfl (Or.inl rfl)) (fun _ _ _ _ _ => pts_nil) (fun _ _ _ _ _ => (pe_op op_add (pe_ix (show IxR _ (rIxT K) from ix_tup) (pv 2) pe_int (fun _ _ => rfl)) pe_int))))) pa_nil)))
  (pss_cons (ps_set (i := 3) sc_law_v_rows.nd rfl (Or.inr rfl) (pe_callB (cr_max rfl) (by rfl) T.max (by decide +kernel) (pa_cons (pe_op op_cat (pe_lst (pa_cons pe_int pa_nil)) (pe_lockEO (pe_lc (own := [("_law_spot", 2)]) (g := gName 2) (tt := tYes) (by rfl) sc_law_v_rows.nd (pi_keys (pv 0)) (blkOk_by (own := [("_law_spot", 2)]) (N := ["_law_one", "_law_wide", "_law_spot", "_law_high", "_law_j", "_law_i"]) (sc := defScope s_law_v_rows) (by decide +kernel)) (fun _ _ _ _ _ => pg_name (i := 2) sc_law_v_rows.nd rfl (Or.inl rfl)) (fun _ _ _ _ _ => pts_nil) (fun _ _ _ _ _ => (pe_op op_add (pe_ix (show IxR _ (rIxT K) from ix_tup) (pv 2) pe_int (fun _ _ => rfl)) pe_int))))) pa_nil)))
  (pss_one (ps_ret (pe_lc (own := [("_law_i", 5)]) (g := gName 5) (tt := tYes) (by rfl) sc_law_v_rows.nd (pi_range1 (by rfl) T.range (pa_cons (pv 1) pa_nil)) (blkOk_by (own := [("_law_i", 5)]) (N := ["_law_one", "_law_wide", "_law_spot", "_law_high", "_law_j", "_law_i"]) (sc := defScope s_law_v_rows) (by decide +kernel)) (fun _ _ _ _ _ => pg_name (i := 5) sc_law_v_rows.nd rfl (Or.inr rfl)) (fun _ _ _ _ _ => pts_nil) (fun _ _ _ _ _ => (pe_lc (own := [("_law_j", 4)]) (g := gName 4) (tt := tYes) (by rfl) sc_law_v_rows.nd (pi_range1 (by rfl) T.range (pa_cons (pv 3) pa_nil)) (blkOk_in (own := [("_law_j", 4)]) (N := ["_law_one", "_law_wide", "_law_spot", "_law_high", "_law_j", "_law_i"]) (defScope s_law_v_rows) rfl (by decide +kernel)) (fun _ _ _ _ _ => pg_name (i := 4) sc_law_v_rows.nd rfl (Or.inl rfl)) (fun _ _ _ _ _ => pts_nil) (fun _ _ _ _ _ => (pe_dget2 (hu_of hr) (pv 0) (pe_tup (pa_cons (pv 5) (pa_cons (pv 4) pa_nil))) (pe_tup (pa_cons pe_int (pa_cons pe_int pa_nil))) ⟨by rfl, by rfl, by rfl, by rfl⟩))))))))), ?_⟩
  have dp2 := dp
  obtain ⟨kvs, rd, de⟩ := dp2
  refine q_asg (v_maxkeys (f := fun e => e.1.1) (n0 := 0) rfl rd de hl (fun _ => rfl) (by show 2 < 6; decide) (fun e => rfl) fun wd H1 s1 w1 w2 => ?_)
  refine q_asg (v_maxkeys (f := fun e => e.1.2) (n0 := 1) rfl (Rd.same rd s1) (de.tu (Tu.of s1)) hl (fun _ => rfl) (by show 2 < 6; decide) (fun e => rfl) fun ht H2 s2 h1 h2 => ?_)
  have s12 := s1.trans s2
  have wB : wd ≤ B := by
    rcases w2 with rfl | ⟨e, he, rfl⟩
    · exact Nat.zero_le _
    · exact (bx e he).1
  have hB2 : ht ≤ B := by
    rcases h2 with rfl | ⟨e, he, rfl⟩
    · exact Nat.zero_le _
    · exact (bx e he).2
  refine r_ret (d_lcR (n := wd) (R := RwL fun i => (List.range ht).map (cf L i)) (rwl_st _) (rwl_off _) (va_cons (val_var rfl) va_nil) (by omega) (fun D i H3 hi s3 eD => turn_name rfl fun Q' q' => ?_) (fun p zs H3 s3 np e3 r3 => q p H3 wd ht (s12.trans s3) (s12.free np) ⟨zs, e3, All2.mk (by unfold gridR; rw [r3.2, List.length_map, List.length_range]) fun i v r hv hr2 => ?_⟩ ⟨fun e he => ⟨w1 e he, h1 e he⟩, w2, wB, hB2⟩))
  · obtain ⟨ys, eD⟩ := eD
    refine d_lcR (n := ht) (R := Itm ((List.range ht).map (cf L i))) (itm_st _) (itm_off _) (va_cons (val_var rfl) va_nil) (by omega) (fun D2 j H4 hj s4 _ => turn_name rfl fun Q2 q2 => ?_) (fun l2 ws H4 s4 n4 e4 r4 => q' _ H4 s4 ⟨l2, rfl, ne_of_some eD n4, itm_los e4 r4 (by rw [List.length_map, List.length_range])⟩)
    refine em_getV (i := i) (j := j) (val_var rfl) ((dp.same s12).same (s3.trans s4)) (val_var rfl) (val_var rfl) _ fun v H5 s5 ⟨p5, ev, lo5⟩ => q2 v H5 s5 ⟨p5, cf L i j, ev, by rw [List.getElem?_map, List.getElem?_range hj]; rfl, lo5⟩
  · have hi : i < wd := by rw [← r3.2]; exact (List.getElem?_eq_some_iff.mp hv).1
    obtain ⟨a, rfl, _, lz⟩ := r3.1.get hv
    rw [Nat.zero_add] at lz
    unfold gridR at hr2
    rw [List.getElem?_map, List.getElem?_range hi] at hr2
    cases hr2
    exact ⟨a, rfl, lz⟩
end
end LW

namespace LW
open PySem PySem.Spec PyProof.Rows L2 GL
section
variable {P : Program} {w : World} {K : PySem.W.Frag} {mg : Str → Option Value} {base : Heap}
/-! ### what the rows are due to be -/
theorem rowAt_range {w : Nat} {F : Nat → List Rat} (i : Nat) : rowAt ((List.range w).map F) i = if i < w then F i else [] := by
  split
  · rename_i h
    exact rowAt_some (by rw [List.getElem?_map, List.getElem?_range h]; rfl)
  · exact rowAt_none (by rw [List.length_map, List.length_range]; omega)
theorem cov_cf {L : List En} {w h B : Nat} (c : Cov L w h B) {i j : Nat} (z : cf L i j ≠ 0) : i < w ∧ j < h := by
  obtain ⟨e, he, ee⟩ := cf_mem z
  have := c.out e he
  rw [ee] at this
  exact this
theorem cf2_grid2 {L : List En} {w h B : Nat} (c : Cov L w h B) (i j : Nat) : co (if i < w then (List.range h).map (cf L i) else []) j = cf L i j := by
  by_cases z : cf L i j = 0
  · rw [z]
    split
    · rw [co_range, z]
      split <;> rfl
    · exact co_none (Nat.zero_le j)
  · obtain ⟨h1, h2⟩ := cov_cf c z
    rw [if_pos h1, co_range, if_pos h2]
theorem cf2_gridR {L : List En} {w h B : Nat} (c : Cov L w h B) (i j : Nat) : cf2 (gridR L w h) i j = cf L i j := by
  unfold cf2 gridR
  rw [rowAt_range, ← cf2_grid2 c i j]
end
end LW

namespace LW
open PySem PySem.Spec PyProof.Rows L2 GL
section
variable {P : Program} {w : World} {K : PySem.W.Frag} {mg : Str → Option Value} {base : Heap}
/-! ### comprehensions that draw from the pen -/
section
variable {σ : L2.St} {H : Hp} {te ti : TE} {ta : TA} {vs : List Nat} {Q : VK} {a p c : Addr} {xs : List V} {R : Addr → Nat → V → Hp → Prop} {m k j : Nat}
def EB (p c : Addr) (te : TE) (σ : L2.St) (H : Hp) (m : Nat) (R : V → Hp → Prop) : Prop := ∀ Q : VK, (∀ v H', But p H H' → PenAt H' p c m → R v H' → Q v H') → te σ H Q
def BuS (R : Addr → Nat → V → Hp → Prop) : Prop := ∀ D i v H H' p c m, R D i v H → PenAt H p c m → But p H H' → R D i v H'
def OffD (R : Addr → Nat → V → Hp → Prop) : Prop := ∀ D i v H ys zs, R D i v H → H D = some (.lst ys) → R D i v (upd H D (.lst zs))
def LcB (R : Addr → Nat → V → Hp → Prop) (p c : Addr) (H : Hp) (m k : Nat) (D : Addr) (i : Nat) (H' : Hp) : Prop := ∃ ys, But p H H' ∧ PenAt H' p c (m + k * i) ∧ H' D = some (.lst ys) ∧ H D = none ∧ Run (R D) 0 ys H' ∧ ys.length = i
theorem Run.map {R S : Nat → V → Hp → Prop} {H H' : Hp} (f : ∀ k v, R k v H → S k v H') : ∀ {k : Nat} {xs : List V}, Run R k xs H → Run S k xs H'
  | _, [], _ => trivial
  | _, _ :: _, ⟨x, y⟩ => ⟨f _ _ x, Run.map f y⟩
theorem PenAt.updN {H H0 : Hp} {D : Addr} {ys zs : List V} {m0 : Nat} (P : PenAt H p c m) (P0 : PenAt H0 p c m0) (n0 : H0 D = none) (e : H D = some (.lst ys)) : PenAt (upd H D (.lst zs)) p c m := by
  obtain ⟨kvs, hd⟩ := P.dk
  obtain ⟨_, _, _, _, ns, _, hc, _⟩ := P0
  refine P.off (fun o h => ?_) (fun o h => ?_)
  · rw [upd_ne (ne_of hd e (by intro z; cases z))]
    exact h
  · rw [upd_ne (ne_of_none hc n0)]
    exact h
theorem lcB_0 {D : Addr} (P0 : PenAt H p c m) (hD : H D = none) : LcB R p c H m k D 0 (upd H D (.lst [])) := ⟨[], But.of (Same.new' hD), P0.same (Same.new' hD), upd_same, hD, trivial, rfl⟩
theorem lcB_step (bu : BuS R) (of : OffD R) {x : V} {i : Nat} {D : Addr} {H1 : Hp} (P0 : PenAt H p c m) (b : LcB R p c H m k D i H1) (hn : i < 10000) (hw : wipe ((wipe σ vs).set j (some x)) vs = wipe σ vs)
    (ht : But p H H1 → PenAt H1 p c (m + k * i) → H D = none → (∃ ys, H1 D = some (.lst ys)) → EB p c te ((wipe σ vs).set j (some x)) H1 (m + k * (i + 1)) (R D i)) :
    gName j x (wipe σ vs) H1 fun σ2 H2 => wipe σ2 vs = wipe σ vs ∧ tYes σ2 H2 fun b H3 => if b = true then te σ2 H3 fun y H4 => ∃ acc, H4 D = some (.lst acc) ∧ acc.length < sizeLine ∧ LcB R p c H m k D (i + 1) (upd H4 D (.lst (acc ++ [y]))) else LcB R p c H m k D (i + 1) H3 := by
  obtain ⟨ys, bb, P, eD, nD, r, len⟩ := b
  refine g_name ⟨hw, ?_⟩
  show (if true = true then te _ _ _ else LcB R p c H m k D (i + 1) H1)
  rw [if_pos rfl]
  refine ht bb P nD ⟨ys, eD⟩ _ fun v H4 b4 P4 rv => ?_
  obtain ⟨kvs, hd⟩ := P.dk
  have e4 := b4 _ _ eD (ne_of eD hd (by intro z; cases z))
  refine ⟨ys, e4, by rw [len]; exact Nat.lt_of_lt_of_le hn (by decide), ys ++ [v], fun b o z hb => ?_, P4.updN P0 nD e4, upd_same, nD, ?_, by rw [List.length_append, len]; rfl⟩
  · rw [upd_ne (ne_of_none z nD)]
    exact b4 _ _ (bb _ _ z hb) hb
  · refine Run.map (fun k v h => of D k v _ _ _ h e4) (Run.app (Run.map (fun k v h => bu D k v _ _ _ _ _ h P b4) r) ⟨?_, trivial⟩)
    rw [len, Nat.zero_add]
    exact rv
theorem l_lcBL (bu : BuS R) (of : OffD R) (P0 : PenAt H p c m) (h : Val ti σ H (.ref a)) (hx : SqL K H a xs) (hn : xs.length ≤ 10000) (hw : ∀ x, wipe ((wipe σ vs).set j (some x)) vs = wipe σ vs)
    (hs : ∀ D i x H1, xs[i]? = some x → But p H H1 → PenAt H1 p c (m + k * i) → H D = none → (∃ ys, H1 D = some (.lst ys)) → EB p c te ((wipe σ vs).set j (some x)) H1 (m + k * (i + 1)) (R D i))
    (q : ∀ D ys H', But p H H' → PenAt H' p c (m + k * xs.length) → H D = none → H' D = some (.lst ys) → Run (R D) 0 ys H' → ys.length = xs.length → Q (.ref D) H') : tLc (iList K ti) (gName j) tYes te vs σ H Q := by
  obtain ⟨kvs, hd⟩ := P0.dk
  exact h _ ⟨a, rfl, ⟨xs, hx⟩, fun D hD => lc_list (K := K) (a := a) (xs := xs) (LcB R p c H m k D) (lcB_0 P0 hD) (fun i H1 _ b => b.choose_spec.1.seq hd hx) (fun i x H1 e b => lcB_step bu of P0 b (by
    have := (List.getElem?_eq_some_iff.mp e).1
    omega) (hw x) (hs D i x H1 e)) (fun H1 ⟨ys, b, P, e, nD, r, l⟩ => q D ys H1 b P nD e r l)⟩
theorem rngB (bu : BuS R) (of : OffD R) (P0 : PenAt H p c m) {n : Int} (h0 : 0 ≤ n) (hn : n ≤ 10000) (hw : ∀ x, wipe ((wipe σ vs).set j (some x)) vs = wipe σ vs)
    (hs : ∀ D i x H1, i < n.toNat → But p H H1 → PenAt H1 p c (m + k * i) → H D = none → (∃ ys, H1 D = some (.lst ys)) → EB p c te ((wipe σ vs).set j (some x)) H1 (m + k * (i + 1)) (R D i))
    (q : ∀ D ys H', But p H H' → PenAt H' p c (m + k * n.toNat) → H D = none → H' D = some (.lst ys) → Run (R D) 0 ys H' → ys.length = n.toNat → Q (.ref D) H') : tLc (fun _ H R => R (Itr 0 n.toNat) H) (gName j) tYes te vs σ H Q :=
  fun D hD => lc_range (lo := 0) (n := n.toNat) (LcB R p c H m k D) (lcB_0 P0 hD) (fun i H1 hi b => lcB_step bu of P0 b (by omega) (hw _) (hs D i _ H1 hi)) (fun H1 ⟨ys, b, P, e, nD, r, l⟩ => q D ys H1 b P nD e r l)
theorem l_rngU {g : TG} {tt : TT} (h : ta σ H fun ws H1 => ∃ j : Int, ws = [.int j] ∧ -(2 ^ 62) ≤ j ∧ j < 2 ^ 62 ∧ tLc (fun _ H R => R (Itr 0 j.toNat) H) g tt te vs σ H1 Q) : tLc (iRng1 ta) g tt te vs σ H Q := h
end

theorem Rq.but {H H' : Hp} {p c : Addr} {m : Nat} {v : V} {q : Rat} (h : Rq H v q) (P : PenAt H p c m) (b : But p H H') : Rq H' v q := by
  obtain ⟨kvs, hd⟩ := P.dk
  obtain ⟨i, j, r, f, e⟩ := h
  refine ⟨i, j, ?_, f, e⟩
  cases r with
  | int i => exact .int i
  | pair h hj =>
    refine .pair ?_ hj
    rcases h with h | h
    · exact .inl (b _ _ h (ne_of h hd (by intro z; cases z)))
    · exact .inr (b _ _ h (ne_of h hd (by intro z; cases z)))
def Fin (q : Rat) : Prop := q.num.natAbs ≤ 10 ^ 18 ∧ q.den ≤ 10 ^ 18
theorem Lo.low {H : Hp} {t : Addr} {q : Rat} (h : Lo H t q) (f : Fin q) : Low H t q.num (q.den : Int) := by
  have d := q.den_pos
  refine ⟨h, by omega, ?_, f.1, by have := f.2; omega⟩
  unfold gI
  rw [Int.natAbs_natCast]
  exact congrArg Nat.cast q.reduced
theorem c_passed {H : Hp} {p c t : Addr} {m : Nat} {q : Rat} {ta : TA} {σ : L2.St} {Q : VK} {E : XK} (h : VA ta σ H [.ref p, .ref t]) (P : PenAt H p c m) (hm : m + 3 < most) (lo : Lo H t q) (f : Fin q) (k : ∀ v H', But p H H' → PenAt H' p c (m + 3) → Rq H' v q → (∀ x, v = .ref x → H x = none) → Q v H') : tCall spPassed [] E ta σ H Q :=
  c_call h ⟨p, c, t, m, _, _, rfl, P, hm, lo.low f, fun v H' s s0 s3 r fr b P' => k v H' b P' ⟨_, _, r, by
    have d := q.den_pos
    have h1 := f.1
    have h2 := f.2
    have b1 : (3 * 10 ^ 18 : Nat) < 2 ^ 1000 := Nat.lt_of_lt_of_le (show 3 * 10 ^ 18 < 2 ^ 62 by decide) (Nat.pow_le_pow_right (by decide) (by decide))
    constructor
    · rw [Int.natAbs_mul]
      exact Nat.lt_of_le_of_lt (Nat.mul_le_mul h1 (show s.natAbs ≤ 3 by omega)) (by omega)
    · rw [Int.natAbs_mul, Int.natAbs_natCast]
      exact Nat.lt_of_le_of_lt (Nat.mul_le_mul h2 (show s.natAbs ≤ 3 by omega)) (by omega), by
    rw [Rat.divInt_mul_right (by omega), Rat.divInt_ofNat, Rat.mkRat_self]⟩ fr⟩
def RqD (f : Nat → Rat) (D : Addr) (i : Nat) (v : V) (H : Hp) : Prop := Rq H v (f i) ∧ v ≠ .ref D
theorem rqd_bu (f : Nat → Rat) : BuS (RqD f) := fun D i v H H' p c m r P b => ⟨r.1.but P b, r.2⟩
theorem rqd_off (f : Nat → Rat) : OffD (RqD f) := fun D i v H ys zs r e => by
  obtain ⟨⟨x, y, rt, ft, eq⟩, n⟩ := r
  refine ⟨⟨x, y, ?_, ft, eq⟩, n⟩
  cases rt with
  | int => exact .int _
  | @pair a _ _ h hj =>
    have na : a ≠ D := fun z => n (by rw [z])
    refine .pair ?_ hj
    rcases h with h | h
    · exact .inl (by rw [upd_ne na]; exact h)
    · exact .inr (by rw [upd_ne na]; exact h)

theorem Sm.fin {q : Rat} (h : Sm 59 q) : Fin q := by
  have h1 := h.1
  have h2 := h.2
  have : (2 : Nat) ^ 59 < 10 ^ 18 := by decide
  exact ⟨by omega, by omega⟩


theorem l_lcBTu {σ : L2.St} {H : Hp} {te ti : TE} {vs : List Nat} {Q : VK} {a p c : Addr} {xs : List V} {R : Addr → Nat → V → Hp → Prop} {m k j : Nat} (bu : BuS R) (of : OffD R) (P0 : PenAt H p c m) (h : Val ti σ H (.ref a)) (hx : SqT K H a xs) (hn : xs.length ≤ 10000) (hw : ∀ x, wipe ((wipe σ vs).set j (some x)) vs = wipe σ vs)
    (hs : ∀ D i x H1, xs[i]? = some x → But p H H1 → PenAt H1 p c (m + k * i) → H D = none → (∃ ys, H1 D = some (.lst ys)) → EB p c te ((wipe σ vs).set j (some x)) H1 (m + k * (i + 1)) (R D i))
    (q : ∀ D ys H', But p H H' → PenAt H' p c (m + k * xs.length) → H D = none → H' D = some (.lst ys) → Run (R D) 0 ys H' → ys.length = xs.length → Q (.ref D) H') (he : H a = some (.tup xs)) : tLc (iTup K ti) (gName j) tYes te vs σ H Q := by
  obtain ⟨kvs, hd⟩ := P0.dk
  have na : a ≠ p := ne_of he hd (by intro z; cases z)
  exact h _ ⟨a, rfl, ⟨xs, hx⟩, fun D hD => lc_tup (K := K) (a := a) (xs := xs) (LcB R p c H m k D) (lcB_0 P0 hD) (fun i H1 _ b => SqT.of (b.choose_spec.1 _ _ he na)) (fun i x H1 e b => lcB_step bu of P0 b (by
    have := (List.getElem?_eq_some_iff.mp e).1
    omega) (hw x) (hs D i x H1 e)) (fun H1 ⟨ys, b, P, e, nD, r, l⟩ => q D ys H1 b P nD e r l)⟩
/-! ### planes as the law makes them -/
/-- a row of numbers as passed, apart from the list under way -/
def RowD (F : Nat → List Rat) (D : Addr) (i : Nat) (v : V) (H : Hp) : Prop := ∃ l us, v = V.ref l ∧ l ≠ D ∧ H l = some (.lst us) ∧ All2 (fun u q => Rq H u q ∧ u ≠ .ref D) us (F i)
theorem rowd_bu (F : Nat → List Rat) : BuS (RowD F) := fun D i v H H' p c m ⟨l, us, e, n, el, al⟩ P b => by
  obtain ⟨kvs, hd⟩ := P.dk
  exact ⟨l, us, e, n, b _ _ el (ne_of el hd (by intro z; cases z)), al.imp fun u q ⟨r, n2⟩ => ⟨r.but P b, n2⟩⟩
theorem rq_off {H : Hp} {D : Addr} {v : V} {q : Rat} {ys zs : List V} (r : Rq H v q) (n : v ≠ .ref D) : Rq (upd H D (.lst zs)) v q := by
  obtain ⟨x, y, rt, ft, eq⟩ := r
  refine ⟨x, y, ?_, ft, eq⟩
  cases rt with
  | int => exact .int _
  | @pair a _ _ h hj =>
    have na : a ≠ D := fun z => n (by rw [z])
    refine .pair ?_ hj
    rcases h with h | h
    · exact .inl (by rw [upd_ne na]; exact h)
    · exact .inr (by rw [upd_ne na]; exact h)
theorem rowd_off (F : Nat → List Rat) : OffD (RowD F) := fun D i v H ys zs ⟨l, us, e, n, el, al⟩ eD => ⟨l, us, e, n, by rw [upd_ne n]; exact el, al.imp fun u q ⟨r, n2⟩ => ⟨rq_off (ys := ys) r n2, n2⟩⟩
def RqDD (D0 : Addr) (f : Nat → Rat) (D : Addr) (i : Nat) (v : V) (H : Hp) : Prop := Rq H v (f i) ∧ v ≠ .ref D ∧ v ≠ .ref D0
theorem rqdd_bu (D0 : Addr) (f : Nat → Rat) : BuS (RqDD D0 f) := fun D i v H H' p c m r P b => ⟨r.1.but P b, r.2⟩
theorem rqdd_off (D0 : Addr) (f : Nat → Rat) : OffD (RqDD D0 f) := fun D i v H ys zs r e => ⟨rq_off (ys := ys) r.1 r.2.1, r.2⟩
theorem l_lcCallB {sp : Sp} {E : XK} {ta : TA} {ws : List V} {σ : L2.St} {H : Hp} {g : TG} {te : TE} {vs : List Nat} {Q : VK} (h : VA ta σ H ws) (q : ∀ Q' : VK, (∀ a H1, tLc (iList K (tC (.ref a))) g tYes te vs σ H1 Q → Q' (.ref a) H1) → sp ws H Q' E) : tLc (iList K (tCall sp [] E ta)) g tYes te vs σ H Q :=
  c_call h (q _ fun a H1 z => z)
def spMadePl (mg : Str → Option Value) : Sp := fun vs H Q _ => ∃ (p c d : Addr) (m B n : Nat) (L : List En), vs = [.ref p, .ref d] ∧ PenAt H p c m ∧ m + 3 * B * B + 3 < most ∧ DP H d L ∧ Bx B L ∧ B ≤ 8 ∧ L.length ≤ 900 ∧ SmC n L ∧ 1 ≤ n ∧ n ≤ 59 ∧ ∀ a H' R, PnAt (pnA mg) H' a R → (∀ i j, cf2 R i j = cf L i j) → But p H H' → PenAt H' p c (m + 3 * B * B) → Q (.ref a) H'
theorem ok_law_made_plane (T : Txt K mg) (TP : PlaneT K mg) : FnOk P w K mg base CX0 10 (fA mg "_law_made_plane") (fDat K (fA mg "_law_made_plane")) ["_law_pen_here", "_law_one"] (spMadePl mg) := by
  have G_law_passed := ok_passed (P := P) (w := w) (base := base) T
  have G_law_v_rows := ok_law_v_rows (P := P) (w := w) (base := base) T
  have GPlane_init := ok_Plane_init (P := P) (w := w) (base := base) T TP
  refine T._law_made_plane.F.ok sc_law_made_plane (fun vs H Q E h => ?_) (fun cdv A outer s H vs Q E hr h => ?_)
  · obtain ⟨p, c, d, m, B, n, L, rfl, _⟩ := h
    rfl
  obtain ⟨p, c, d, m, B, n, L, rfl, hP, hm, dp, bx, hB, hl, sm, n1, hn, q⟩ := h
  refine ⟨_, (pss_one (ps_ret (pe_make TP.mkc GPlane_init (hr.mono (by decide)) (by rfl) TP.g TP.m_init.b .nil passL (pa_cons (pe_lc (own := [("_law_row", 3)]) (g := gName 3) (tt := tYes) (by rfl) sc_law_made_plane.nd (pi_list (pe_c T._law_v_rows G_law_v_rows (hr.mono (by decide)) (pa_cons (pv 1) pa_nil))) (blkOk_by (own := [("_law_row", 3)]) (N := ["_law_pen_here", "_law_one", "_law_number", "_law_row"]) (sc := defScope s_law_made_plane) (by decide +kernel)) (fun _ _ _ _ _ => pg_name (i := 3) sc_law_made_plane.nd rfl (Or.inl rfl)) (fun _ _ _ _ _ => pts_nil) (fun _ _ _ _ _ => (pe_lc (own := [("_law_number", 2)]) (g := gName 2) (tt := tYes) (by rfl) sc_law_made_plane.nd (show PI _ _ _ (iList K (tVar 3)) from (pi_list (pv 3))) (blkOk_in (own := [("_law_number", 2)]) (N := ["_law_pen_here", "_law_one", "_law_number", "_law_row"]) (defScope s_law_made_plane) rfl (by decide +kernel)) (fun _ _ _ _ _ => pg_name (i := 2) sc_law_made_plane.nd rfl (Or.inl rfl)) (fun _ _ _ _ _ => pts_nil) (fun _ _ _ _ _ => (pe_c T._law_passed G_law_passed (hr.mono (by decide)) (pa_cons (pv 0) (pa_cons (pv 2) pa_nil))))))) pa_nil)))), ?_⟩
  refine r_ret (va_1 (l_lcCallB (va_cons (val_var rfl) va_nil) fun Q' hQ => ⟨d, L, B, rfl, dp, bx, hl, by omega, fun pl H1 wd ht s1 np lsl cov => hQ pl H1 ?_⟩))
  obtain ⟨us, eu, au⟩ := lsl
  have lu := au.len
  unfold gridR at lu
  rw [List.length_map, List.length_range] at lu
  have wB := cov.wB
  have hB2 := cov.hB
  have P1 := hP.same s1
  have mono : ∀ i, i ≤ wd → 3 * ht * i ≤ 3 * B * B := fun i hi => Nat.mul_le_mul (Nat.mul_le_mul_left 3 hB2) (by omega)
  refine l_lcBL (k := 3 * ht) (R := RowD fun i => (List.range ht).map (cf L i)) (rowd_bu _) (rowd_off _) P1 val_c (SqL.of eu) (by omega) (fun _ => rfl) (fun D i x H2 hx b2 P2 nD eD => fun Q2 q2 => ?_) (fun D ys H2 b2 P2 nD e2 r2 l2 => ?_)
  · obtain ⟨r, hr2, a, rfl, as, ea, aa⟩ := au.get hx
    have hi : i < wd := by rw [← lu]; exact (List.getElem?_eq_some_iff.mp hx).1
    unfold gridR at hr2
    rw [List.getElem?_map, List.getElem?_range hi] at hr2
    cases hr2
    obtain ⟨kvs, hd⟩ := P1.dk
    have ea2 := b2 _ _ ea (ne_of ea hd (by intro z; cases z))
    have la : as.length = ht := by rw [aa.len, List.length_map, List.length_range]
    have mi := mono (i + 1) (by omega)
    have mi2 : 3 * ht * (i + 1) = 3 * ht * i + 3 * ht := Nat.mul_succ _ _
    obtain ⟨yD, eD⟩ := eD
    refine l_lcBL (k := 3) (R := RqDD D (cf L i)) (rqdd_bu _ _) (rqdd_off _ _) P2 (val_var rfl) (SqL.of ea2) (by omega) (fun _ => rfl) (fun D2 j u H3 hu b3 P3 nD2 eD2 => fun Q3 q3 => ?_) (fun D2 zs H3 b3 P3 nD2 e3 r3 l3 => ?_)
    · obtain ⟨x, hx2, t, rfl, lo⟩ := aa.get hu
      have hj : j < ht := by rw [← la]; exact (List.getElem?_eq_some_iff.mp hu).1
      rw [List.getElem?_map, List.getElem?_range hj] at hx2
      have ex : cf L i j = x := Option.some.inj hx2
      have lo2 := b3.lo P2 (b2.lo P1 lo)
      obtain ⟨yD2, eD2⟩ := eD2
      obtain ⟨kvs2, hd2⟩ := P2.dk
      have eD3 := b3 _ _ eD (ne_of eD hd2 (by intro z; cases z))
      refine c_passed (va_cons (val_var rfl) (va_cons (val_var rfl) va_nil)) P3 (by omega) lo2 (Sm.fin ((ex ▸ sm i j : Sm n x).mono hn)) fun v H4 b4 P4 rq fr => q3 v H4 b4 (P4.le (by omega)) ⟨by rw [ex]; exact rq, fun z => ?_, fun z => ?_⟩
      · have := fr D2 z
        rw [eD2] at this
        cases this
      · have := fr D z
        rw [eD3] at this
        cases this
    · obtain ⟨kvs2, hd2⟩ := P2.dk
      have eD3 := b3 _ _ eD (ne_of eD hd2 (by intro z; cases z))
      refine q2 _ H3 b3 (P3.le (by rw [la]; omega)) ⟨D2, zs, rfl, fun z => ?_, e3, All2.mk (by rw [l3, la, List.length_map, List.length_range]) fun j v x hv hx2 => ?_⟩
      · rw [z, eD] at nD2
        cases nD2
      · have hj : j < ht := by rw [← la, ← l3]; exact (List.getElem?_eq_some_iff.mp hv).1
        have z := r3.get hv
        rw [Nat.zero_add] at z
        rw [List.getElem?_map, List.getElem?_range hj] at hx2
        cases hx2
        exact ⟨z.1, z.2.2⟩
  · have rws : RwsR H2 (.ref D) (gridR L wd ht) := ⟨D, ys, rfl, .inl e2, by rw [l2]; omega, All2.mk (by unfold gridR; rw [l2, lu, List.length_map, List.length_range]) fun i v r hv hr2 => by
      have hi : i < wd := by rw [← lu, ← l2]; exact (List.getElem?_eq_some_iff.mp hv).1
      obtain ⟨l, us2, rfl, _, el, al2⟩ := r2.get hv
      rw [Nat.zero_add] at al2
      unfold gridR at hr2
      rw [List.getElem?_map, List.getElem?_range hi] at hr2
      cases hr2
      exact ⟨l, us2, rfl, .inl el, by rw [al2.len, List.length_map, List.length_range]; omega, al2.imp fun u q z => z.1⟩⟩
    refine made_plane rws fun a H' s' pa _ => q a H' (planeR (gridR L wd ht)) pa (fun i j => by rw [cf2_planeR, cf2_gridR cov]) ((But.of s1).trans (b2.trans (But.of s'))) ((P2.le ?_).same s')
    · rw [lu]
      have := mono wd (Nat.le_refl _)
      omega
end
end LW

namespace LW
open PySem PySem.Spec PyProof.Rows L2 GL
section
variable {P : Program} {w : World} {K : PySem.W.Frag} {mg : Str → Option Value} {base : Heap}

/-! ### polynomials as the law draws them -/
theorem s_forRm {g : TG} {tb : TS} {D : Ends} {σ : L2.St} {H : Hp} {ta : TA} {m : Int} (h : VA ta σ H [.int m]) (hm : -1000 ≤ m ∧ m ≤ 100000) (Pv : Nat → L2.St → Hp → Prop) (h0 : Pv 0 σ H)
    (hs : ∀ i σ H, i < m.toNat → Pv i σ H → g (.int (i : Int)) σ H fun σ2 H2 => tb { D with nx := Pv (i + 1), ct := Pv (i + 1), bk := D.nx } σ2 H2) (hd : ∀ σ H, Pv m.toNat σ H → D.nx σ H) : tFor (iRng1 ta) g tb D σ H :=
  h _ ⟨m, rfl, by omega, by omega, for_range (lo := 0) (n := m.toNat) Pv h0 (fun i σ H hi p => by
    rw [Int.zero_add]
    exact hs i σ H hi p) hd⟩
def tri (g : Nat) : Nat → Nat
  | 0 => 0
  | i + 1 => tri g i + (g + 1 - i)
theorem tri_le : ∀ g, g < 6 → tri g (g + 1) ≤ 21 := by decide
theorem tri_mono (g : Nat) : ∀ {i j : Nat}, i ≤ j → tri g i ≤ tri g j := fun {i j} h => by
  induction j with
  | zero =>
    obtain rfl : i = 0 := by omega
    exact Nat.le_refl _
  | succ j ih =>
    rcases Nat.lt_or_ge i (j + 1) with lt | ge
    · exact Nat.le_trans (ih (by omega)) (by rw [tri]; omega)
    · obtain rfl : i = j + 1 := by omega
      exact Nat.le_refl _
structure KF (g k : Nat) (F : List En) : Prop where
  deg : ∀ e ∈ F, e.1.1 + e.1.2 ≤ g
  sm : ∀ e ∈ F, Sm 10 e.2
  bd : ∀ e ∈ F, Bd L9 k e.2
def spVDrawn : Sp := fun vs H Q _ => ∃ (p c : Addr) (m g k : Nat), vs = [.ref p, .int (g : Int), .int (k : Int)] ∧ PenAt H p c m ∧ g ≤ 5 ∧ m + 100 < most ∧ 1 ≤ k ∧ k ≤ 9 ∧ ∀ (d : Addr) (H' : Hp) (L : List En), DW H' d L → nz L → KF g k L → L.length ≤ 21 → H d = none → But p H H' → PenAt H' p c (m + 90) → Q (.ref d) H'
theorem ok_law_v_drawn (T : Txt K mg) : FnOk P w K mg base CX0 6 (fA mg "_law_v_drawn") (fDat K (fA mg "_law_v_drawn")) ["_law_pen_here", "_law_degree", "_law_most"] spVDrawn := by
  have G_law_draw := ok_draw (P := P) (w := w) (base := base) T._law_draw.F T
  have G_law_ratio := ok_law_ratio (P := P) (w := w) (base := base) T
  have G_law_v_plain := ok_law_v_plain (P := P) (w := w) (base := base) T
  refine T._law_v_drawn.F.ok sc_law_v_drawn (fun vs H Q E h => ?_) (fun cdv A outer s H vs Q E hr h => ?_)
  · obtain ⟨p, c, m, g, k, rfl, _⟩ := h
    rfl
  obtain ⟨p, c, m, g, k, rfl, hP, hg, hm, k1, k9, q⟩ := h
  refine ⟨_, (pss_cons (ps_set (i := 3) sc_law_v_drawn.nd rfl (Or.inl rfl) pe_dnewT)
  (pss_cons (ps_for PassesOwn.never rfl (pi_range1 (by rfl) T.range (pa_cons (pe_op op_add (pv 1) pe_int) pa_nil)) (pg_name (i := 4) sc_law_v_drawn.nd rfl (Or.inl rfl))
  (pss_one (ps_for PassesOwn.never rfl (pi_range1 (by rfl) T.range (pa_cons (pe_op op_sub (pe_op op_add (pv 1) pe_int) (pv 4)) pa_nil)) (pg_name (i := 5) sc_law_v_drawn.nd rfl (Or.inl rfl))
  (pss_one (ps_if (pt_cmpR op_gt (pe_c T._law_draw G_law_draw (hr.mono (by decide)) (pa_cons (pv 0) (pa_cons pe_int pa_nil))) pe_int (nomark _)) (pss_one (ps_dput (hu_of hr) (pv 3) (pe_tup (pa_cons (pv 4) (pa_cons (pv 5) pa_nil))) (pe_c T._law_ratio G_law_ratio (hr.mono (by decide)) (pa_cons (pv 0) (pa_cons (pv 2) pa_nil))) rfl)) pss_nil)))))
  (pss_one (ps_ret (pe_c T._law_v_plain G_law_v_plain (hr.mono (by decide)) (pa_cons (pv 3) pa_nil)))))), ?_⟩
  refine q_asg fun f hf => ?_
  have sf := Same.new' (o := .dT []) hf
  have tg := tri_le g (by omega)
  refine q_forRm (m := (g : Int) + 1) (va_cons (v_add (val_var rfl) val_c) va_nil) ⟨by omega, by omega⟩ (fun i σ H' => ∃ (z1 z2 : Option V) (F : List En), σ = [some (.ref p), some (.int (g : Int)), some (.int (k : Int)), some (.ref f), z1, z2] ∧ But p H H' ∧ PenAt H' p c (m + 4 * tri g i) ∧ DW H' f F ∧ KF g k F ∧ F.length ≤ tri g i)
    ⟨none, none, [], rfl, But.of sf, hP.same sf, ⟨[], upd_same, .nil, by simp⟩, ⟨fun e he => (nomatch he), fun e he => (nomatch he), fun e he => (nomatch he)⟩, Nat.zero_le _⟩ (fun i σ H1 hi z => ?_) (fun σ H1 z => ?_)
  · obtain ⟨z1, z2, F, rfl, b1, P1, dw, kf, fl⟩ := z
    have ti : tri g (i + 1) ≤ tri g (g + 1) := tri_mono g (by omega)
    have te : tri g (i + 1) = tri g i + (g + 1 - i) := rfl
    refine g_name ?_
    refine s_forRm (m := (g : Int) + 1 - (i : Int)) (va_cons (v_sub (v_add (val_var rfl) val_c) (val_var rfl)) va_nil) ⟨by omega, by omega⟩ (fun j σ H' => ∃ (z2 : Option V) (F : List En), σ = [some (.ref p), some (.int (g : Int)), some (.int (k : Int)), some (.ref f), some (.int (i : Int)), z2] ∧ But p H H' ∧ PenAt H' p c (m + 4 * (tri g i + j)) ∧ DW H' f F ∧ KF g k F ∧ F.length ≤ tri g i + j)
      ⟨z2, F, rfl, b1, P1, dw, kf, fl⟩ (fun j σ H2 hj z => ?_) (fun σ H2 z => ?_)
    · obtain ⟨z2, F, rfl, b2, P2, ⟨fk, ef, df⟩, kf, fl⟩ := z
      refine g_name (t_op (c_call (va_cons (val_var rfl) (va_cons val_c va_nil)) ⟨p, c, 3, _, rfl, P2, by omega, by decide, by decide, fun r H3 r0 r1 b3 P3 => val_c _ ⟨_, _, rfl, rfl, _, rfl, ?_⟩⟩))
      have nfp : f ≠ p := by
        obtain ⟨kvs, hd⟩ := P2.dk
        exact ne_of ef hd (by intro z; cases z)
      have ef3 := b3 _ _ ef nfp
      obtain ⟨kvs2, hd2⟩ := P2.dk
      have tu3 : Tu H2 H3 := fun b xs e => b3 _ _ e (ne_of e hd2 (by intro z; cases z))
      by_cases h0 : (0 : Int) < r
      · rw [if_pos (decide_eq_true h0)]
        refine c_call (va_cons (val_var rfl) (va_cons (val_var rfl) va_nil)) ⟨p, c, _, k, rfl, P3, by omega, k1, k9, fun t H4 x lo sx bx4 b4 P4 => ?_⟩
        obtain ⟨kvs3, hd3⟩ := P3.dk
        have tu4 : Tu H3 H4 := fun b xs e => b4 _ _ e (ne_of e hd3 (by intro z; cases z))
        have ef4 := b4 _ _ ef3 nfp
        refine (val_var rfl) _ (l_tup (va_cons (val_var rfl) (va_cons (val_var rfl) va_nil)) (by show 2 ≤ 100000; decide) fun kt hkt => ?_)
        have s5 := Same.new' (o := .tup [.int (i : Int), .int (j : Int)]) hkt
        refine ⟨f, _, rfl, DPut.t (s5 _ _ ef4) (show _ = some (.tup ((kN (i, j)).map kV)) from upd_same) (Nat.lt_of_le_of_lt (show fk.length ≤ 1000 by have := df.len; omega) (by decide)), ?_⟩
        have d5 := ((df.tu (tu3.trans tu4)).tu (Tu.of s5)).put (k := (i, j)) (lo.same s5)
        have ef5 := s5 _ _ ef4
        refine ⟨_, putE F (i, j) x, rfl, fun b o e nb => ?_, ?_, ⟨_, upd_same, d5.tu (Tu.putT ef5)⟩, ⟨fun e he => ?_, fun e he => ?_, fun e he => ?_⟩, Nat.le_trans len_put (by omega)⟩
        · rw [upd_ne (ne_of_none e hf)]
          exact s5 _ _ (b4 _ _ (b3 _ _ (b2 _ _ e nb) nb) nb)
        · obtain ⟨_, _, _, _, ns, hpp, hcc, _⟩ := P4.same s5
          refine ((P4.same s5).le (by omega)).off (fun o h => ?_) (fun o h => ?_)
          · rw [upd_ne (Ne.symm nfp)]; exact h
          · rw [upd_ne (ne_of hcc ef5 (by intro z; cases z))]; exact h
        · rcases mem_put he with rfl | h
          · show i + j ≤ g
            omega
          · exact kf.deg _ h
        · rcases mem_put he with rfl | h
          · exact sx
          · exact kf.sm _ h
        · rcases mem_put he with rfl | h
          · exact bx4
          · exact kf.bd _ h
      · rw [if_neg (by rw [decide_eq_false h0]; decide)]
        exact ⟨_, F, rfl, b2.trans b3, P3.le (by omega), ⟨fk, ef3, df.tu tu3⟩, kf, by omega⟩
    · obtain ⟨z2, F, rfl, b2, P2, dw2, kf2, fl2⟩ := z
      have ej : ((g : Int) + 1 - (i : Int)).toNat = g + 1 - i := by omega
      rw [ej] at P2 fl2
      exact ⟨_, _, F, rfl, b2, P2, dw2, kf2, fl2⟩
  · obtain ⟨z1, z2, F, rfl, b1, P1, dw, kf, fl⟩ := z
    have eg : ((g : Int) + 1).toNat = g + 1 := by omega
    rw [eg] at P1 fl
    refine r_ret (te := tCall _ _ _ _) (c_call (va_cons (val_var rfl) va_nil) ⟨f, F, rfl, dw.dp, by omega, fun pm H2 M s2 np dM cM mM lM => q pm H2 M dM (fun e he => (mM e he).2) ⟨fun e he => kf.deg e (mM e he).1, fun e he => kf.sm e (mM e he).1, fun e he => kf.bd e (mM e he).1⟩ (by omega) ?_ (b1.trans (But.of s2)) ((P1.le (by omega)).same s2)⟩)
    cases hpm : H pm with
    | none => rfl
    | some o =>
      obtain ⟨kvs, hd⟩ := hP.dk
      by_cases y : pm = p
      · obtain ⟨kvs1, hd1⟩ := P1.dk
        rw [y, hd1] at np
        cases np
      · have := b1 _ _ hpm y
        rw [np] at this
        cases this
def spLPlace : Sp := fun vs H Q _ => ∃ (p c : Addr) (m : Nat), vs = [.ref p, .int 3] ∧ PenAt H p c m ∧ m + 6 < most ∧ ∀ (v : V) (H' : Hp) (q : Rat × Rat), PlL H' v q → Sm 10 q.1 ∧ Sm 10 q.2 → Bd L9 3 q.1 ∧ Bd L9 3 q.2 → But p H H' → PenAt H' p c (m + 6) → Q v H'
theorem ok_law_place (T : Txt K mg) : FnOk P w K mg base CX0 6 (fA mg "_law_place") (fDat K (fA mg "_law_place")) ["_law_pen_here", "_law_most"] spLPlace := by
  have G_law_ratio := ok_law_ratio (P := P) (w := w) (base := base) T
  refine T._law_place.F.ok sc_law_place (fun vs H Q E h => ?_) (fun cdv A outer s H vs Q E hr h => ?_)
  · obtain ⟨p, c, m, rfl, _⟩ := h
    rfl
  obtain ⟨p, c, m, rfl, hP, hm, k⟩ := h
  refine ⟨_, (pss_one (ps_ret (pe_tup (pa_cons (pe_c T._law_ratio G_law_ratio (hr.mono (by decide)) (pa_cons (pv 0) (pa_cons (pv 1) pa_nil))) (pa_cons (pe_c T._law_ratio G_law_ratio (hr.mono (by decide)) (pa_cons (pv 0) (pa_cons (pv 1) pa_nil))) pa_nil))))), ?_⟩
  refine r_ret (tup_two (c_call (va_cons (val_var rfl) (va_cons (val_var rfl) va_nil)) ⟨p, c, m, 3, rfl, hP, by omega, by decide, by decide, fun t H1 q l1 s1 d1 b1 P1 => ?_⟩))
  refine c_call (va_cons (val_var rfl) (va_cons (val_var rfl) va_nil)) ⟨p, c, m + 3, 3, rfl, P1, by omega, by decide, by decide, fun t2 H2 q2 l2 s2 d2 b2 P2 => ⟨by show 2 ≤ sizeLine; decide, fun z hz => ?_⟩⟩
  have s3 := Same.new' (o := .tup [.ref t, .ref t2]) hz
  exact k (.ref z) _ (q, q2) ⟨z, t, t2, rfl, upd_same, (b2.lo P1 l1).same s3, l2.same s3⟩ ⟨s1, s2⟩ ⟨d1, d2⟩ ((b1.trans b2).trans (But.of s3)) (P2.same s3)
end
end LW

namespace LW
open PySem PySem.Spec PyProof.Rows L2 GL
section
variable {P : Program} {w : World} {K : PySem.W.Frag} {mg : Str → Option Value} {base : Heap}
theorem Me.meth {C : Addr} {m q : Str} {st : Stmt} {ps : List Str} (h : Me K C m q st ps) : Meth K C m (mA K C m) := ⟨h.at_, h.fn, h.F.kp⟩
theorem dn_add : PySem.dunder (Operator.info .Add).2 = ("__add__" : Str) := by decide +kernel
theorem dn_sub : PySem.dunder (Operator.info .Sub).2 = ("__sub__" : Str) := by decide +kernel
theorem dn_mul : PySem.dunder (Operator.info .Mult).2 = ("__mul__" : Str) := by decide +kernel
/-! ### the class Field -/
section
variable {σ : L2.St} {H : Hp} {t1 t2 te te' : TE} {a b : Addr} {R S R' S' : List (List Rat)} {B : Nat → Nat → Nat → Nat → Nat → Nat → Prop} {F : List (List Rat) → List (List Rat) → List (List Rat)} {F' : List (List Rat) → List (List Rat)} {v : V} {D M d E' N e : Nat}
theorem PnAt.obj {C : Addr} {H : Hp} {a : Addr} {R : List (List Rat)} (h : PnAt C H a R) : ∃ dx fs, H a = some (.ins C dx fs) := by
  obtain ⟨dx, t, e, _⟩ := h
  exact ⟨dx, _, e⟩
theorem no_at (m : Str) (h : (m == ("rows" : Str)) = false) {v : V} : ([("rows", v)] : List (Str × V)).lookup m = none := by
  rw [List.lookup_cons, h]
  rfl
end
/-! ### kinds -/
/-! ### Field.__init__ -/
end
end LW

namespace LW
open PySem PySem.Spec PyProof.Rows L2 GL
section
variable {P : Program} {w : World} {K : PySem.W.Frag} {mg : Str → Option Value} {base : Heap}
/-- sizes with which a slope along a field may be reckoned -/
structure SA (D M d E' N e : Nat) : Prop where
  fD : Fz D M
  fE : Fz E' N
  fS : Fz E' (e * N)
  pr : ∃ n, (d + 1) * (d + 1) + 1 ≤ 2 ^ n ∧ n ≤ 12 ∧ Fz (D * E') (2 ^ n * (M * (e * N)))
  fs : Fz (D * E') ((d + 1) * ((d + 1) * (M * (e * N))) + (d + 1) * ((d + 1) * (M * (e * N))))
  hd : d ≤ 60
  he : e ≤ 200
def BadRw (mg : Str → Option Value) (H : Hp) (v : V) (E : XK) : Prop := ∀ (d : Addr) (H' : Hp), L2.Same H H' → H d = none → H' d = some (.xd [("row", v)]) → E (.ref (fA mg "BadRow")) (some d) H'
end
end LW

namespace LW
open PySem PySem.Spec PyProof.Rows L2 GL
section
variable {P : Program} {w : World} {K : PySem.W.Frag} {mg : Str → Option Value} {base : Heap}
def bareH (H : Hp) : Hp := fun b => match H b with
  | some (.tbl _) => none
  | o => o
def NoTab (S : Hp) : Prop := ∀ b ps, S b ≠ some (.tbl ps)
theorem bare_at {H : Hp} {b : Addr} {o : HO} (h : H b = some o) (n : ∀ ps, o ≠ .tbl ps) : bareH H b = some o := by
  unfold bareH
  rw [h]
  cases o with
  | tbl ps => exact (n ps rfl).elim
  | _ => rfl
theorem bare_of {H : Hp} {b : Addr} {o : HO} (h : bareH H b = some o) : H b = some o ∧ ∀ ps, o ≠ .tbl ps := by
  unfold bareH at h
  split at h
  · cases h
  · rename_i o' e
    exact ⟨h, fun ps z => e ps (by rw [h, z])⟩
theorem bare_no (H : Hp) : NoTab (bareH H) := fun b ps z => (bare_of z).2 ps rfl
theorem bare_in (H : Hp) : L2.Same (bareH H) H := fun b o h => (bare_of h).1
theorem ext_same {S H H1 : Hp} (n : NoTab S) (s : L2.Same S H) (x : LamX.ExtN H H1) : L2.Same S H1 := fun b o h => x b o (s b o h) fun ps z => n b ps (by rw [h, z])
theorem Tabs.but {T : List (Addr × Str)} {H H' : Hp} {p c : Addr} {m : Nat} (t : LamX.Tabs T H) (P : PenAt H p c m) (b : But p H H') : LamX.Tabs T H' := by
  obtain ⟨kvs, hd⟩ := P.dk
  intro q hq
  obtain ⟨ps, h1, h2, h3⟩ := t q hq
  refine ⟨ps, b _ _ h1 (fun z => by rw [z, hd] at h1; cases h1), h2, fun pos cv e => ?_⟩
  obtain ⟨c', e1, e2⟩ := h3 pos cv e
  exact ⟨c', e1, b _ _ e2 (fun z => by rw [z, hd] at e2; unfold LamX.CodeO at e2; cases e2)⟩
theorem Tabs.same {T : List (Addr × Str)} {H H' : Hp} (t : LamX.Tabs T H) (s : L2.Same H H') : LamX.Tabs T H' := t.ext s
theorem PenAt.bare {H : Hp} {p c : Addr} {m : Nat} (h : PenAt H p c m) : PenAt (bareH H) p c m := h.off (fun o e => by
  obtain ⟨kvs, hd⟩ := h.dk
  rw [hd] at e
  cases e
  exact bare_at hd (fun ps z => by cases z)) (fun o e => by
  obtain ⟨a, d, n, f, ns, _, hc, _⟩ := h
  rw [hc] at e
  cases e
  exact bare_at hc (fun ps z => by cases z))
theorem okGc {k : Nat} {f c : Addr} {fd : FuncData} {ps : List Str} {sp : Sp} {x qual : Str} {st : Stmt} {N : List Str} (F : Fun K x qual st f fd) (hc : fd.code = .ref c) (S : FnScope N ps (defScope st)) (len : ∀ vs H Q E, sp vs H Q E → vs.length = ps.length)
    (body : ∀ (A : Around) (outer : List Env) (s : Shared) (H : Hp) (vs : List V) (Q : VK) (E : XK), Room k (A.deeper (envOfC qual (defScope st) s.heap.objs.size f (.ref c))) → Quiet A → sp vs H Q E →
      ∃ t, PSs (cxOf CX0 P w K mg base N qual (defScope st) f (.ref c) A outer s H E).nox (defBody st) t ∧ t { nx := fun _ H' => Q .non H', rt := Q } (start N vs) H) : OkG P w K mg base CX0 (k + 1) f fd ps sp := by
  obtain ⟨oc, od, kV, doc, pm, an, cdv, ct, osl, rfl, lk, hcd⟩ := F.ex
  have ec : cdv = .ref c := hc
  subst ec
  refine ⟨len, fun A outer s H args us vs Q E hr hq e0 hb r hsp => ?_⟩
  have KS : K.In s.heap := e0.mod.kin.keeps (fun b o e => (e0.bs b o e).1)
  have NL : s.heap.NoLimit := e0.mod.nolimit.keeps (fun b o e => (e0.bs b o e).1)
  have hl := len _ _ _ _ hsp
  refine codeAny_call_function hr.depth (KS _ _ lk) rfl S.co S.gen rfl (PySem.W.codeRec_of KS hcd) (hb _ _ _ _ ?_)
  refine wpAny_newFunctionEnv_cells S.kind ?_ (fun env he s1 x => ?_)
  · rintro ⟨n, v⟩ hy
    rcases S.par n (List.of_mem_zip hy).1 with q | q
    · exact .inl q
    · exact .inr ⟨q, PySem.W.cellsFrom_some _ _ _ (.inl q)⟩
  subst he
  refine ⟨NL.keeps x.toInCall.keep, codeAny_func ?_⟩
  obtain ⟨t, ht, hT⟩ := body A outer s H vs Q E (hr.deeper _) hq hsp
  have I0 := inv_start (CX := CX0) (E := E) S hr.hd e0 hl r x
  refine wpAny_mono (ht.nox.run [] s1 (start N vs) H _ I0 hT) (fun fl s' hs => ?_) (fun e s' hs => hs)
  cases fl with
  | ret u =>
    obtain ⟨v, _, H', J, rv, q⟩ := hs
    exact ⟨v, H', J.os, J.bare, J.base, J.hok, rv, q⟩
  | next =>
    obtain ⟨_, H', J, q⟩ := hs
    exact ⟨V.non, H', J.os, J.bare, J.base, J.hok, rfl, q⟩
  | brk => obtain ⟨_, _, _, q⟩ := hs; exact q.elim
  | cont => obtain ⟨_, _, _, q⟩ := hs; exact q.elim
theorem tt_in {te : TE} {σ : L2.St} {H : Hp} {Q : Bool → Hp → Prop} (h : te σ H fun v H1 => ∃ b, v = .bl b ∧ Q b H1) : tTest te σ H Q := h

theorem Odd.bare {H : Hp} {v : V} (g : Odd H v) : Odd (bareH H) v := by
  cases g with
  | non => exact .non
  | bl => exact .bl
  | str => exact .str
  | tup e h => exact .tup (bare_at e fun _ z => by cases z) h
  | lst e h => exact .lst (bare_at e fun _ z => by cases z) h
  | dic e => exact .dic (bare_at e fun _ z => by cases z)
  | nest e e2 => exact .nest (bare_at e fun _ z => by cases z) (bare_at e2 fun _ z => by cases z)
theorem strOk_app {a b : Str} (ha : PyData.strOk a = true) (hb : PyData.strOk b = true) : PyData.strOk (a ++ b) = true := by
  unfold PyData.strOk at *
  rw [PySem.Str.cps_append, Array.all_append, ha, hb]
  rfl
theorem strOk_of (s : String) : PyData.strOk (Str.ofString s) = true := by
  rw [PySem.Str.ofString_eq_toList]
  unfold PyData.strOk
  rw [List.all_toArray, List.all_eq_true]
  intro x hx
  obtain ⟨c, _, rfl⟩ := List.mem_map.mp hx
  have := c.valid
  refine decide_eq_true ?_
  unfold UInt32.isValidChar Nat.isValidChar at this
  show c.val.toNat < 1114112
  omega
theorem strOk_join {sep : Str} (hs : PyData.strOk sep = true) : ∀ ts : List Str, (∀ t ∈ ts, PyData.strOk t = true) → PyData.strOk (Str.join sep ts) = true
  | [], _ => by show PyData.strOk Str.empty = true; decide +kernel
  | [x], h => h x (by simp)
  | x :: y :: r, h => strOk_app (strOk_app (h x (by simp)) hs) (strOk_join hs (y :: r) fun t ht => h t (by simp [ht]))
theorem strOk_from : ∀ (ts : List Str) (k : Nat) (acc : Str), PyData.strOk acc = true → (∀ t ∈ ts, PyData.strOk t = true) → PyData.strOk (textFrom k acc ts) = true
  | [], _, _, h, _ => h
  | t :: ts, k, acc, h, g => strOk_from ts (k + 1) _ (strOk_app (strOk_app h (strOk_of _)) (g t (by simp))) fun x hx => g x (by simp [hx])
theorem strOk_list {ts : List Str} (g : ∀ t ∈ ts, PyData.strOk t = true) : PyData.strOk (listText ts) = true := strOk_app (strOk_from ts 0 _ (strOk_of _) g) (strOk_of _)
theorem strOk_tuple {ts : List Str} (g : ∀ t ∈ ts, PyData.strOk t = true) : PyData.strOk (tupleText ts) = true := strOk_app (strOk_app (strOk_of _) (strOk_join (strOk_of _) ts g)) (strOk_of _)

def Nc (B k : Nat) (d : PyData) : Prop := d.showable = true ∧ d.shown.length ≤ B ∧ PyData.strOk d.shown = true ∧ d.depth ≤ k
theorem Nc.mono {B C k l : Nat} {d : PyData} (h : Nc B k d) (b : B ≤ C) (c : k ≤ l) : Nc C l d := ⟨h.1, Nat.le_trans h.2.1 b, h.2.2.1, Nat.le_trans h.2.2.2 c⟩
theorem nc_int {n : Int} (h : n.natAbs < 2 ^ 1000) : Nc 310 1 (.int n) := by
  have h10 : n.natAbs < 10 ^ 302 := Nat.lt_trans h (by decide +kernel)
  have e := int_text_length_le10 (a := n) (k := 302) (by decide) h10
  refine ⟨decide_eq_true ?_, ?_, strOk_of _, by simp [PyData.depth]⟩
  · rcases Nat.eq_zero_or_pos n.natAbs with z | z
    · rw [z]; decide
    · have := (Nat.log2_lt (by omega)).mpr h
      omega
  · show (Str.ofString (toString n)).length ≤ 310
    rw [PySem.ofString_length]
    omega
def NcAll (B k : Nat) (ds : List PyData) : Prop := ∀ d ∈ ds, Nc B k d
theorem nc_sum {B k : Nat} : ∀ {ds : List PyData}, NcAll B k ds → ((PyData.shownAll ds).map (·.length)).sum ≤ ds.length * B ∧ (PyData.shownAll ds).length = ds.length ∧ PyData.showableAll ds = true ∧ PyData.depthAll ds ≤ k ∧ ∀ t ∈ PyData.shownAll ds, PyData.strOk t = true
  | [], _ => by simp [PyData.shownAll, PyData.showableAll, PyData.depthAll]
  | d :: ds, h => by
    obtain ⟨h1, h2, h3, h4, h5⟩ := nc_sum (ds := ds) (fun x hx => h x (by simp [hx]))
    obtain ⟨a, b, c, e⟩ := h d (by simp)
    refine ⟨?_, ?_, ?_, ?_, ?_⟩
    · simp only [PyData.shownAll, List.map_cons, List.sum_cons, List.length_cons]
      rw [Nat.succ_mul]
      omega
    · simp only [PyData.shownAll, List.length_cons, h2]
    · simp only [PyData.showableAll, a, h3, Bool.and_self]
    · simp only [PyData.depthAll]
      omega
    · intro t ht
      simp only [PyData.shownAll, List.mem_cons] at ht
      rcases ht with rfl | ht
      · exact c
      · exact h5 t ht
theorem nc_tuple {B k : Nat} {ds : List PyData} (h : NcAll B k ds) : Nc (ds.length * (B + 2) + 3) (k + 1) (.tuple ds) := by
  obtain ⟨h1, h2, h3, h4, h5⟩ := nc_sum h
  refine ⟨by simp only [PyData.showable, h3], ?_, ?_, by simp only [PyData.depth]; omega⟩
  · have := tupleText_len_le (PyData.shownAll ds)
    simp only [PyData.shown]
    rw [h2] at this
    rw [Nat.mul_add]
    omega
  · simp only [PyData.shown]
    exact strOk_tuple h5
theorem nc_list {B k : Nat} {ds : List PyData} (h : NcAll B k ds) : Nc (ds.length * (B + 2) + 3) (k + 1) (.list ds) := by
  obtain ⟨h1, h2, h3, h4, h5⟩ := nc_sum h
  refine ⟨by simp only [PyData.showable, h3], ?_, ?_, by simp only [PyData.depth]; omega⟩
  · have := listText_len_le (PyData.shownAll ds)
    simp only [PyData.shown]
    rw [h2] at this
    rw [Nat.mul_add]
    omega
  · simp only [PyData.shown]
    exact strOk_list h5
theorem nc_two {x y : Int} (hx : x.natAbs < 2 ^ 1000) (hy : y.natAbs < 2 ^ 1000) : NcAll 310 1 [.int x, .int y] := fun d hd => by
  simp only [List.mem_cons, List.not_mem_nil, or_false] at hd
  rcases hd with rfl | rfl
  · exact nc_int hx
  · exact nc_int hy
theorem polyD_nc {xs : List Rat} {n : Nat} (s : Sms n xs) (l : n ≤ 1000) (z : xs.length ≤ 100) : Nc 64000 3 (polyD xs) := by
  refine (nc_tuple (B := 630) (k := 2) fun d hd => ?_).mono (C := 64000) (l := 3) ?_ (by decide)
  · obtain ⟨q, hq, rfl⟩ := List.mem_map.mp hd
    have f := (s q hq).fit l
    exact (nc_tuple (nc_two f.1 f.2)).mono (by show 2 * (310 + 2) + 3 ≤ 630; decide) (by decide)
  · rw [List.length_map]
    have := Nat.mul_le_mul_right 632 z
    omega
theorem Fine.nc {H : Hp} {v : V} {d : PyData} (f : Fine K H v d) : Nc 1000 3 d := ⟨f.2.1, f.2.2.2.1, f.2.2.2.2, f.2.2.1⟩
theorem FineL.same {H H' : Hp} {v : V} {d : PyData} (f : FineL K H v d) (s : L2.Same H H') : FineL K H' v d := ⟨Dd.same s _ _ f.1, f.2⟩
theorem Nc.line {H : Hp} {v : V} {d : PyData} {B k : Nat} (h : Dd K H v d) (n : Nc B k d) (b : B ≤ 100000) (c : k ≤ 40) : FineL K H v d := ⟨h, n.1, Nat.le_trans n.2.2.2 c, Nat.le_trans n.2.1 b, n.2.2.1⟩
theorem lam_memT {P : Addr} {q r l : Str} {T : List (Addr × Str)} (hm : (P, r ++ l) ∈ T) (h : q = r) : (P, q ++ l) ∈ T := by rw [h]; exact hm
theorem lam_onlyT {P : Addr} {q r l : Str} {T : List (Addr × Str)} (ho : ∀ p ∈ T, p.1 = P → p.2 = r ++ l) (h : q = r) : ∀ p ∈ T, p.1 = P → p.2 = q ++ l := by rw [h]; exact ho

theorem shaped2 {a b : Str} (ha : PyData.strOk a = true) (hb : PyData.strOk b = true) : SeqAt.shaped (.tuple [.str a, .str b]) = true := by
  simp [SeqAt.shaped, PyData.canLay0, PyData.canLayAll0, PyData.depth, PyData.depthAll, ha, hb]
theorem eqv2 (a b : Str) : PyData.eqv (.tuple [.str a, .str b]) (.tuple [.str a, .str b]) = true := by
  simp [PyData.eqv, PyData.eqvAll]
theorem dp2 {H : Hp} {p : Addr} {a b : Str} (h : H p = some (.tup [.str a, .str b])) : Dp K H (.ref p) (.tuple [.str a, .str b]) := .tup (SqT.of h) (.cons (.str _) (.cons (.str _) .nil))
theorem va_x {te : TE} {tr : TA} {σ : L2.St} {H : Hp} {Q : List V → Hp → Prop} (h : te σ H fun v H1 => tr σ H1 fun vs H2 => Q (v :: vs) H2) : tCons te tr σ H Q := h
theorem run_lst {S : Rat → Prop} {H : Hp} : ∀ {ys : List V} {k : Nat}, Run (fun _ v H => ∃ t q, v = .ref t ∧ Lo H t q ∧ S q) k ys H → ∃ xs, All2 (fun v q => ∃ p, v = V.ref p ∧ Lo H p q) ys xs ∧ ∀ q ∈ xs, S q
  | [], _, _ => ⟨[], .nil, fun _ h => nomatch h⟩
  | y :: ys, k, ⟨⟨t, q, e, lo, sm⟩, h⟩ => by
    obtain ⟨xs, al, s⟩ := run_lst h
    refine ⟨q :: xs, .cons ⟨t, e, lo⟩ al, fun q' hq => ?_⟩
    rcases List.mem_cons.mp hq with rfl | h
    · exact sm
    · exact s _ h
theorem Sm.fin10 {q : Rat} (h : Sm 10 q) : Fin q := (h.mono (by decide : 10 ≤ 59)).fin
theorem ne_same {s : Str} {H : Hp} {Q : VK} (q : Q (.bl false) H) : rNe (.str s) (.str s) H Q := ⟨rfl, by rw [decide_eq_true rfl]; exact q⟩
theorem lo_upd {H : Hp} {f p : Addr} {ws zs : List V} {q : Rat} (e : H f = some (.lst ws)) (lo : Lo H p q) : Lo (upd H f (.lst zs)) p q := by
  unfold Lo at lo ⊢
  rw [upd_ne (fun z => by rw [z, e] at lo; cases lo)]
  exact lo
theorem lo_updL {H : Hp} {t p : Addr} {ws zs : List V} {q : Rat} (e : H t = some (.lst ws)) (lo : Lo H p q) : Lo (upd H t (.lst zs)) p q := lo_upd e lo
theorem not_in {t : TT} {σ : L2.St} {H : Hp} {Q : Bool → Hp → Prop} (h : t σ H fun c H1 => Q (!c) H1) : tNot t σ H Q := h
theorem va_two {σ : L2.St} {H : Hp} {i j : Nat} {x y : Addr} (h1 : σ[i]? = some (some (.ref x))) (h2 : σ[j]? = some (some (.ref y))) : VA (tCons (tVar i) (tCons (tVar j) tNil)) σ H [.ref x, .ref y] := va_cons (val_var h1) (va_cons (val_var h2) va_nil)
theorem dr_add : dunderR (Operator.info .Add).2 = ("__radd__" : Str) := by decide +kernel
theorem dr_sub : dunderR (Operator.info .Sub).2 = ("__rsub__" : Str) := by decide +kernel
theorem dr_mul : dunderR (Operator.info .Mult).2 = ("__rmul__" : Str) := by decide +kernel
end
end LW

namespace LW
open PySem PySem.Spec PyProof.Rows L2 GL
section
variable {P : Program} {w : World} {K : PySem.W.Frag} {mg : Str → Option Value} {base : Heap}
theorem DW.but {H H' : Hp} {d p c : Addr} {m : Nat} {L : List En} (h : DW H d L) (P : PenAt H p c m) (b : But p H H') : DW H' d L := by
  obtain ⟨kvs, e, de⟩ := h
  obtain ⟨ks, hd⟩ := P.dk
  exact ⟨kvs, b _ _ e (ne_of e hd (by intro z; cases z)), de.tu fun c xs ec => b _ _ ec (ne_of ec hd (by intro z; cases z))⟩
theorem PnAt.but {C : Addr} {H H' : Hp} {a p c : Addr} {m : Nat} {R : List (List Rat)} (h : PnAt C H a R) (P : PenAt H p c m) (b : But p H H') : PnAt C H' a R := by
  obtain ⟨dx, t, e, ls, can⟩ := h
  obtain ⟨ks, hd⟩ := P.dk
  exact ⟨dx, t, b _ _ e (ne_of e hd (by intro z; cases z)), ls.tu fun c xs ec => b _ _ ec (ne_of ec hd (by intro z; cases z)), can⟩
theorem DE.nodup {H : Hp} {d : Addr} {M : List En} (h : DW H d M) : (M.map (·.1)).Nodup := h.choose_spec.2.2


/-- a dict of the law's own and the rows with its numbers -/
structure Pd (H : Hp) (d : Addr) (L : List En) (g : Nat) (R : List (List Rat)) : Prop where
  dw : DW H d L
  dg : ∀ e ∈ L, e.1.1 + e.1.2 ≤ g
  nz : LW.nz L
  cf : ∀ i j, cf2 R i j = LW.cf L i j
/-- rows of numbers as they are drawn -/
theorem nice_of {L : List En} {R : List (List Rat)} {D M g : Nat} (nd : (L.map (·.1)).Nodup) (b : ∀ e ∈ L, Bd D M e.2) (dg : ∀ e ∈ L, e.1.1 + e.1.2 ≤ g) (c : ∀ i j, cf2 R i j = cf L i j) : Nice D M g R := ⟨fun i j => by
  rw [c]
  by_cases z : (i, j) ∈ L.map (·.1)
  · obtain ⟨e, he, y⟩ := List.mem_map.mp z
    have := cf_in (k := e.1) (q := e.2) he nd
    rw [y] at this
    rw [show cf L i j = e.2 from this]
    exact b e he
  · rw [cf_out z]
    exact Bd.zero, fun i j l => by
  rw [c]
  exact cf_out fun z => by
    obtain ⟨e, he, y⟩ := List.mem_map.mp z
    have := dg e he
    rw [y] at this
    omega⟩

structure Pw (H : Hp) (d : Addr) (L : List En) (g : Nat) (R : List (List Rat)) : Prop where
  dw : DW H d L
  dg : ∀ e ∈ L, e.1.1 + e.1.2 ≤ g
  cf : ∀ i j, cf2 R i j = LW.cf L i j
/-! ### is a told plane a polynomial of the law's own -/
/-! ### the slope along a field -/
/-! ### fields as the law makes them -/
/-! ### a place as a caller may pass it -/
end
end LW

namespace LW
open PySem PySem.Spec PyProof.Rows L2 GL
section
variable {P : Program} {w : World} {K : PySem.W.Frag} {mg : Str → Option Value} {base : Heap}
end
end LW

namespace LW
open PySem PySem.Spec PyProof.Rows L2 GL
section
variable {P : Program} {w : World} {K : PySem.W.Frag} {mg : Str → Option Value} {base : Heap}
/-! ### values that are no places, no numbers -/
inductive OdL (H : Hp) : V → Prop
  | non : OdL H .non
  | int : OdL H (.int 3)
  | str : OdL H (.str "12")
  | tup {q : Addr} {xs : List V} (e : H q = some (.tup xs)) (h : xs = [] ∨ xs = [.int 1] ∨ xs = [.int 1, .int 2, .int 3] ∨ xs = [.int 1, .non] ∨ xs = [.str "1", .int 2] ∨ xs = [.bl true, .int 1]) : OdL H (.ref q)
  | lst {q : Addr} (e : H q = some (.lst [.int 0, .bl false])) : OdL H (.ref q)
  | dic {q : Addr} (e : H q = some (.dK [])) : OdL H (.ref q)
  | nest {q r : Addr} (e : H q = some (.tup [.int 1, .ref r])) (e2 : H r = some (.tup [.int 1, .int 0])) : OdL H (.ref q)
  | nes2 {q r : Addr} (e : H q = some (.tup [.ref r])) (e2 : H r = some (.tup [.int 1, .int 2])) : OdL H (.ref q)
theorem pen_keep {H H' : Hp} {p c q : Addr} {m : Nat} {o : HO} (P : PenAt H p c m) (b : But p H H') (e : H q = some o) (n : ∀ kvs, o = .dK kvs → kvs.length < 5) : H' q = some o := by
  obtain ⟨a, d, n', f, ns, hp, _⟩ := P
  refine b q o e fun z => ?_
  rw [z, hp] at e
  have := n _ (Option.some.inj e).symm
  exact absurd this (by show ¬ 5 < 5; decide)
theorem PlQ.pair {H : Hp} {a : Addr} {x y : V} {b1 b2 : Bool} (h : Sq H a [x, y]) (r1 : RatQ H x b1) (r2 : RatQ H y b2) (e : (b1 && b2) = false) : PlQ H (.ref a) false := by
  have := PlQ.seq h (by show 2 ≤ 1000; decide) (.cons r1 (.cons r2 .nil))
  have e2 : (([b1, b2].all id) && decide ([x, y].length = 2)) = false := by
    show ((b1 && (b2 && true)) && _) = false
    rw [Bool.and_true, e]
    rfl
  rw [e2] at this
  exact this
theorem kkF {H : Hp} {v : V} {d : PyData} (a : Dd K H v d) (b : d.showable = true ∧ d.depth ≤ 3 ∧ d.shown.length ≤ 1000 ∧ PyData.strOk d.shown = true) : ∃ d, Fine K H v d := ⟨_, a, b⟩
inductive OdM (H : Hp) : V → Prop
  | m1 : OdM H (.int (-1))
  | m7 : OdM H (.int 7)
  | bl : OdM H (.bl true)
  | non : OdM H .non
  | str : OdM H (.str "1")
  | tup {q : Addr} (e : H q = some (.tup [.int 1, .int 1])) : OdM H (.ref q)
section
variable {G : V → Hp → Prop} (gs : ∀ {H H' : Hp} {v : V}, G v H → L2.Same H H' → G v H')
include gs
end
/-! ### what is refused -/
theorem PnAt.bare {H : Hp} {a : Addr} {R : List (List Rat)} (h : PnAt (pnA mg) H a R) : PnAt (pnA mg) (bareH H) a R := by
  obtain ⟨dx, t, e, l, c⟩ := h
  exact ⟨dx, t, bare_at e (fun _ z => by cases z), l.tu fun b ys e => bare_at e (fun _ z => by cases z), c⟩
end
end LW

namespace LW
open PySem PySem.Spec PyProof.Rows L2 GL
section
variable {P : Program} {w : World} {K : PySem.W.Frag} {mg : Str → Option Value} {base : Heap}
section
variable {σ : L2.St} {H : Hp} {ta : TA} {v u wh : V} {q r : Rat} {Q : VK} {E : XK}
end
section
variable {σ : L2.St} {H : Hp} {ta : TA} {v u : V} {q r : Rat} {Q : VK} {E : XK}
end
end
end LW

namespace LW
open PySem PySem.Spec PyProof.Rows L2 GL
section
variable {P : Program} {w : World} {K : PySem.W.Frag} {mg : Str → Option Value} {base : Heap}
/-! ### dicts of ints whose keys are pairs -/
def EnI (kv : List Key × V) (e : En) : Prop := kv.1 = kN e.1 ∧ ∃ i : Int, kv.2 = .int i ∧ e.2 = (i : Rat)
def DI (kvs : List (List Key × V)) (L : List En) : Prop := All2 EnI kvs L ∧ (L.map (·.1)).Nodup
def DJ (H : Hp) (d : Addr) (L : List En) : Prop := ∃ kvs, H d = some (.dT kvs) ∧ DI kvs L
theorem DJ.same {H H' : Hp} {d : Addr} {L : List En} (h : DJ H d L) (s : L2.Same H H') : DJ H' d L := h.imp fun _ z => ⟨s _ _ z.1, z.2⟩
theorem DI.nil : DI [] [] := ⟨.nil, by simp⟩
theorem DI.len {kvs : List (List Key × V)} {L : List En} (h : DI kvs L) : kvs.length = L.length := h.1.len
theorem DI.val {kvs : List (List Key × V)} {L : List En} (h : All2 EnI kvs L) (k : Nat × Nat) : (valV kvs (kN k) = none ∧ k ∉ L.map (·.1)) ∨ ∃ i : Int, valV kvs (kN k) = some (.int i) ∧ (k, (i : Rat)) ∈ L := by
  induction h with
  | nil => exact .inl ⟨rfl, by simp⟩
  | @cons kv e as bs r _ ih =>
    obtain ⟨e1, i, e2, e3⟩ := r
    by_cases z : e.1 = k
    · exact .inr ⟨i, by rw [valV_pos (by rw [e1, z]), e2], by rw [← z, ← e3]; exact List.mem_cons_self ..⟩
    · have n : ¬ kv.1 = kN k := fun y => z (kN_inj (e1.symm.trans y))
      rw [valV_neg n]
      rcases ih with ⟨a, b⟩ | ⟨i, a, c⟩
      · exact .inl ⟨a, fun y => by
          rw [List.map_cons] at y
          exact (List.mem_cons.mp y).elim (fun w => z w.symm) b⟩
      · exact .inr ⟨i, a, List.mem_cons_of_mem _ c⟩
/-- what stands at a key, or nothing: 0 -/
theorem DI.get {kvs : List (List Key × V)} {L : List En} (h : DI kvs L) (k : Nat × Nat) : ∃ i : Int, (valV kvs (kN k)).getD (.int 0) = .int i ∧ cf L k.1 k.2 = (i : Rat) := by
  rcases DI.val h.1 k with ⟨a, b⟩ | ⟨i, a, c⟩
  · exact ⟨0, by rw [a]; rfl, cf_out b⟩
  · exact ⟨i, by rw [a]; rfl, cf_in c h.2⟩
theorem DI.at {kvs : List (List Key × V)} {L : List En} (h : DI kvs L) {m : Nat} {e : En} (he : L[m]? = some e) : ∃ i : Int, kvs[m]? = some (kN e.1, .int i) ∧ e.2 = (i : Rat) ∧ valV kvs (kN e.1) = some (.int i) := by
  have lt : m < kvs.length := by rw [h.len]; exact (List.getElem?_eq_some_iff.mp he).1
  obtain ⟨b, hb, e1, i, e2, e3⟩ := h.1.get (List.getElem?_eq_getElem lt)
  rw [he] at hb
  obtain rfl : e = b := Option.some.inj hb
  refine ⟨i, by rw [List.getElem?_eq_getElem lt, ← e1, ← e2], e3, ?_⟩
  rcases DI.val h.1 e.1 with ⟨_, n⟩ | ⟨i', a, c⟩
  · exact absurd (List.mem_map.mpr ⟨e, get_mem he, rfl⟩) n
  · have h1 : cf L e.1.1 e.1.2 = e.2 := cf_in (k := e.1) (q := e.2) (get_mem he) h.2
    have h2 : cf L e.1.1 e.1.2 = (i' : Rat) := cf_in c h.2
    rw [h1, e3] at h2
    rw [a, Rat.intCast_inj.mp h2]
theorem all2_putanyI {kvs : List (List Key × V)} {L : List En} (h : All2 EnI kvs L) (k : Nat × Nat) : (kvs.any fun kv => decide (kv.1 = kN k)) = L.any (fun e => decide (e.1 = k)) := by
  induction h with
  | nil => rfl
  | @cons kv e as bs r _ ih =>
    rw [List.any_cons, List.any_cons, ih]
    have : decide (kv.1 = kN k) = decide (e.1 = k) := decide_eq_decide.mpr ⟨fun y => kN_inj (r.1.symm.trans y), fun y => by rw [r.1, y]⟩
    rw [this]
theorem all2_putmapI {kvs : List (List Key × V)} {L : List En} (h : All2 EnI kvs L) {k : Nat × Nat} {i : Int} :
    All2 EnI (kvs.map fun kv => if kv.1 = kN k then (kv.1, .int i) else kv) (L.map fun e => if e.1 = k then (e.1, (i : Rat)) else e) := by
  induction h with
  | nil => exact .nil
  | @cons kv e as bs r _ ih =>
    rw [List.map_cons, List.map_cons]
    refine .cons ?_ ih
    by_cases z : e.1 = k
    · rw [if_pos z, if_pos (by rw [r.1, z])]
      exact ⟨r.1, i, rfl, rfl⟩
    · rw [if_neg z, if_neg (fun y => z (kN_inj (r.1.symm.trans y)))]
      exact r
theorem DI.put {kvs : List (List Key × V)} {L : List En} (h : DI kvs L) {k : Nat × Nat} {i : Int} : DI (putK kvs (kN k) (.int i)) (putE L k (i : Rat)) := by
  refine ⟨?_, nodup_put h.2⟩
  unfold putK putE
  rw [all2_putanyI h.1 k]
  split
  · exact all2_putmapI h.1
  · exact h.1.app (.cons ⟨rfl, i, rfl, rfl⟩ .nil)
end
end LW

namespace LW
open PySem PySem.Spec PyProof.Rows L2 GL
section
variable {P : Program} {w : World} {K : PySem.W.Frag} {mg : Str → Option Value} {base : Heap}
section
variable {σ : L2.St} {H : Hp} {d : Addr} {kvs : List (List Key × V)} {i : Nat} {g : TG} {tb : TS} {D : Ends} {u : TS}
theorem tkeysG_walk {HL : Hp} {od : Obj} (hi : σ[i]? = some (some (.ref d))) (e : HL d = some (.frz od (.dT kvs))) (Pv : Nat → L2.St → Hp → Prop) (h0 : Pv 0 σ HL)
    (hq : ∀ i σ H', Pv i σ H' → H' d = HL d)
    (hs : ∀ i k v q σ H', kvs[i]? = some (k, v) → Pv i σ H' → H' q = some (.tup (k.map kV)) → ∀ D' : Ends, D'.nx = Pv (i + 1) → D'.ct = Pv (i + 1) → g (.ref q) σ H' fun σ2 H2 => tb D' σ2 H2)
    (hd : ∀ σ H', Pv kvs.length σ H' → D.nx σ H') : tFor (iKeys (tVar i)) g tb D σ HL := by
  refine ⟨_, hi, d, od, rfl, .inr ⟨kvs, e, fun n m σ H' => m = kvs.length - n ∧ n ≤ kvs.length ∧ Pv n σ H', ⟨_, rfl, Nat.zero_le _, h0⟩, ?_⟩⟩
  rintro n m σ H' ⟨rfl, hn, p⟩
  have q := hq n σ H' p
  rw [e] at q
  rcases Nat.lt_or_ge n kvs.length with lt | ge
  · refine .inr ⟨⟨q, lt⟩, Pv (n + 1), fun σ' H2 p' => ⟨kvs.length - (n + 1), by omega, rfl, lt, p'⟩, ?_⟩
    rintro v H2 ⟨rfl, k, w, t, hk, rfl, ht⟩
    exact hs n k w t σ H2 hk p ht _ rfl rfl
  · obtain rfl : n = kvs.length := by omega
    exact .inl ⟨⟨q, Nat.le_refl _⟩, hd σ H' p⟩
/-- for .. in d: .., d a dict whose keys are tuples, each key to any target -/
theorem q_keysG (hi : σ[i]? = some (some (.ref d))) (hd : Rd H d (.dT kvs)) (Pv : Hp → Nat → L2.St → Hp → Prop)
    (h0 : ∀ HL, (∀ b, b ≠ d → HL b = H b) → Rd HL d (.dT kvs) → Pv HL 0 σ HL)
    (hq : ∀ HL i σ H', Pv HL i σ H' → H' d = HL d)
    (hs : ∀ HL i k v q σ H', Rd HL d (.dT kvs) → kvs[i]? = some (k, v) → Pv HL i σ H' → H' q = some (.tup (k.map kV)) → ∀ D' : Ends, D'.nx = Pv HL (i + 1) → D'.ct = Pv HL (i + 1) → g (.ref q) σ H' fun σ2 H2 => tb D' σ2 H2)
    (he : ∀ HL σ H', Pv HL kvs.length σ H' → ∀ H'', (∀ b, b ≠ d → H'' b = H' b) → H'' d = H d → u D σ H'') :
    tSeq (tLockO (tFor (iKeys (tVar i)) g tb)) u D σ H := by
  rcases hd with hd | ⟨od, hd⟩
  · refine .inl ⟨d, _, hd, True.intro, fun od => ?_⟩
    have e : upd H d (.frz od (.dT kvs)) d = some (.frz od (.dT kvs)) := upd_same
    refine tkeysG_walk hi e (Pv (upd H d (.frz od (.dT kvs)))) (h0 _ (fun b nb => upd_ne nb) (.inr ⟨od, e⟩)) (fun i σ H' p => hq _ i σ H' p) (fun i k v q σ H' hk p ht => hs _ i k v q σ H' (.inr ⟨od, e⟩) hk p ht) (fun σ H' p => ⟨?_, ?_⟩)
    · have z := hq _ _ σ H' p
      rw [e] at z
      exact z
    · exact he _ σ H' p _ (fun b nb => upd_ne nb) (by rw [upd_same, hd])
  · refine .inr ?_
    exact tkeysG_walk (D := { D with nx := u D }) hi hd (Pv H) (h0 H (fun b nb => rfl) (.inr ⟨od, hd⟩)) (fun i σ H' p => hq _ i σ H' p) (fun i k v q σ H' hk p ht => hs _ i k v q σ H' (.inr ⟨od, hd⟩) hk p ht) (fun σ H' p => he H σ H' p H' (fun b nb => rfl) (hq _ _ σ H' p))
end
/-! ### a dict of numbers times a line -/
theorem ev_of_cf {L M : List En} (h : ∀ i j, cf L i j = cf M i j) (x y : Rat) : evL L x y = evL M x y := by
  have bd : ∀ L : List En, ∃ N : Nat, ∀ e ∈ L, e.1.1 ≤ N ∧ e.1.2 ≤ N := fun L => by
    induction L with
    | nil => exact ⟨0, fun e he => nomatch he⟩
    | cons a t ih =>
      obtain ⟨N, hN⟩ := ih
      refine ⟨N + a.1.1 + a.1.2, fun e he => ?_⟩
      rcases List.mem_cons.mp he with rfl | he
      · omega
      · have := hN e he
        omega
  obtain ⟨N, hN⟩ := bd (L ++ M)
  rw [evL_box (N := N) fun e he => hN e (List.mem_append_left _ he), evL_box (N := N) fun e he => hN e (List.mem_append_right _ he)]
  exact congrFun (congrFun (congrArg (ev2 N) (funext fun i => funext fun j => h i j)) x) y
/-- what one entry gives -/
def conL (a b e : Int) (x : En) : List En := [((x.1.1 + 1, x.1.2), (a : Rat) * x.2), ((x.1.1, x.1.2 + 1), (b : Rat) * x.2), (x.1, (e : Rat) * x.2)]
def tlW (a b e : Int) (L : List En) : List En := L.flatMap (conL a b e)
theorem evL_app (L M : List En) (x y : Rat) : evL (L ++ M) x y = evL L x y + evL M x y := rs_app _ _ _
theorem evL_cons (a : En) (L : List En) (x y : Rat) : evL (a :: L) x y = a.2 * (rp x a.1.1 * rp y a.1.2) + evL L x y := rfl
theorem evL_nil (x y : Rat) : evL [] x y = 0 := rfl
theorem rp_succ (x : Rat) (n : Nat) : rp x (n + 1) = rp x n * x := rfl
theorem ev_tlW (a b e : Int) (x y : Rat) : ∀ L : List En, evL (tlW a b e L) x y = evL L x y * ((a : Rat) * x + (b : Rat) * y + (e : Rat))
  | [] => by
    show (0 : Rat) = 0 * _
    rw [Rat.zero_mul]
  | c :: L => by
    have ih := ev_tlW a b e x y L
    unfold tlW at ih ⊢
    rw [List.flatMap_cons, evL_app, ih, evL_cons]
    unfold conL
    rw [evL_cons, evL_cons, evL_cons, evL_nil, rp_succ, rp_succ]
    grind
def spTL : Sp := fun vs H Q _ => ∃ (d t : Addr) (L : List En) (a b e : Int), vs = [.ref d, .ref t] ∧ DJ H d L ∧ H t = some (.tup [.int a, .int b, .int e]) ∧ L.length ≤ 300 ∧ a.natAbs < 2 ^ 1000 ∧ b.natAbs < 2 ^ 1000 ∧ e.natAbs < 2 ^ 1000 ∧ (∀ x ∈ L, ∀ i : Int, x.2 = (i : Rat) → i.natAbs < 2 ^ 1000) ∧
  ∀ (p : Addr) (H' : Hp) (M : List En), L2.Same H H' → H p = none → DJ H' p M → (∀ i j, cf M i j = cf (tlW a b e L) i j) → (∀ x ∈ M, x.1 ∈ (tlW a b e L).map (·.1)) → M.length ≤ 3 * L.length → Q (.ref p) H'
theorem g_three {i j k : Nat} {x y z : V} {t : Addr} {σ : L2.St} {H : Hp} {K' : L2.St → Hp → Prop} (hT : SqT K H t [x, y, z]) (q : K' (((σ.set i (some x)).set j (some y)).set k (some z)) H) : gTup K 3 (gCons (gName i) (gCons (gName j) (gCons (gName k) gNil))) (.ref t) σ H K' := ⟨t, [x, y, z], rfl, hT, rfl, x, _, rfl, y, _, rfl, z, _, rfl, rfl, q⟩
theorem q_gen {te : TE} {g : TG} {tz : TS} {D : Ends} {σ : L2.St} {H : Hp} (h : te σ H fun v H1 => g v σ H1 fun σ2 H2 => tz D σ2 H2) : tSeq (tAsg te g) tz D σ H := h
theorem v_get2 {td ty : TE} {σ : L2.St} {H : Hp} {f b : Addr} {fk : List (List Key × V)} {k : List Key} {v : V} (h1 : Val td σ H (.ref f)) (e : Rd H f (.dT fk)) (h2 : Val ty σ H (.ref b)) (eb : H b = some (.tup (k.map kV))) (hv : (valV fk k).getD (.int 0) = v) : Val (tDGet2 td ty (tC (.int 0))) σ H v := fun Q q =>
  h1 _ ⟨f, rfl, .inr ⟨fk, e⟩, h2 _ ⟨_, .inr ⟨fk, k, b, e, rfl, eb, rfl⟩, by rw [hv]; exact q⟩⟩
theorem t_three {t1 t2 t3 : TE} {σ : L2.St} {H : Hp} {Q : VK} (h : t1 σ H fun u H1 => t2 σ H1 fun v H2 => t3 σ H2 fun w H3 => 3 ≤ sizeLine ∧ ∀ q, H3 q = none → Q (.ref q) (upd H3 q (.tup [u, v, w]))) : tTup (tCons t1 (tCons t2 (tCons t3 tNil))) σ H Q := h
theorem st_forEM {g : TG} {te : TE} {tb : TS} {D : Ends} {σ : L2.St} {H : Hp} {R : V → Hp → Prop} (h : EM te σ H R) (k : ∀ v H1, L2.Same H H1 → R v H1 → ∃ a xs, v = .ref a ∧ SqT K H1 a xs ∧ ∃ Pv : Nat → L2.St → Hp → Prop, Pv 0 σ H1 ∧ (∀ i σ H, i ≤ xs.length → Pv i σ H → SqT K H a xs) ∧ (∀ i x σ H, xs[i]? = some x → Pv i σ H → g x σ H fun σ2 H2 => tb { D with nx := Pv (i + 1), ct := Pv (i + 1), bk := D.nx } σ2 H2) ∧ ∀ σ H, Pv xs.length σ H → D.nx σ H) : tFor (iTup K te) g tb D σ H :=
  h _ fun v H1 s r => by
    obtain ⟨a, xs, rfl, hx, Pv, h0, hl, hs, hd⟩ := k v H1 s r
    exact ⟨a, rfl, ⟨_, hx⟩, for_tup (K := K) (a := a) (xs := xs) Pv h0 hl hs hd⟩
theorem cf_tlW_take {a b e : Int} {L : List En} {m : Nat} {x : En} (h : L[m]? = some x) (i j : Nat) : cf (tlW a b e (L.take (m + 1))) i j = cf (tlW a b e (L.take m)) i j + cf (conL a b e x) i j := by
  unfold tlW
  rw [List.take_succ, h, List.flatMap_append, cf_app]
  show _ + cf (List.flatMap (conL a b e) [x]) i j = _
  rw [List.flatMap_cons, List.flatMap_nil, List.append_nil]
/-- a place and its factor -/
def PF (H : Hp) (v : V) (k : Nat × Nat) (c : Int) : Prop := ∃ p b, v = .ref p ∧ H p = some (.tup [.ref b, .int c]) ∧ H b = some (.tup ((kN k).map kV))
theorem PF.same {H H' : Hp} {v : V} {k : Nat × Nat} {c : Int} (h : PF H v k c) (s : L2.Same H H') : PF H' v k c := by
  obtain ⟨p, b, e, h1, h2⟩ := h
  exact ⟨p, b, e, s _ _ h1, s _ _ h2⟩
theorem em_pf {t1 t2 t3 : TE} {σ : L2.St} {H : Hp} {k : Nat × Nat} {c : Int} (h1 : ∀ H', L2.Same H H' → Val t1 σ H' (.int (k.1 : Int))) (h2 : ∀ H', L2.Same H H' → Val t2 σ H' (.int (k.2 : Int))) (h3 : ∀ H', L2.Same H H' → Val t3 σ H' (.int c)) : EM (tTup (tCons (tTup (tCons t1 (tCons t2 tNil))) (tCons t3 tNil))) σ H fun v H' => PF H' v k c := fun Q q =>
  tup_two (tup_two (h1 H (Same.refl H) _ (h2 H (Same.refl H) _ ⟨by decide, fun b hb => h3 _ (Same.new' hb) _ ⟨by decide, fun p hp => q _ _ ((Same.new' hb).trans (Same.new' hp)) ⟨p, b, rfl, upd_same, Same.new' hp _ _ upd_same⟩⟩⟩)))
theorem em_three {t1 t2 t3 : TE} {σ : L2.St} {H : Hp} {R1 R2 R3 : V → Hp → Prop} (g1 : ∀ {v H H'}, R1 v H → L2.Same H H' → R1 v H') (g2 : ∀ {v H H'}, R2 v H → L2.Same H H' → R2 v H') (g3 : ∀ {v H H'}, R3 v H → L2.Same H H' → R3 v H') (h1 : EM t1 σ H R1) (h2 : ∀ H', L2.Same H H' → EM t2 σ H' R2) (h3 : ∀ H', L2.Same H H' → EM t3 σ H' R3) :
    EM (tTup (tCons t1 (tCons t2 (tCons t3 tNil)))) σ H fun v H' => ∃ q x y z, v = .ref q ∧ H' q = some (.tup [x, y, z]) ∧ R1 x H' ∧ R2 y H' ∧ R3 z H' := fun Q q =>
  t_three (h1 _ fun x H1 s1 r1 => h2 H1 s1 _ fun y H2 s2 r2 => h3 H2 (s1.trans s2) _ fun z H3 s3 r3 => ⟨by decide, fun a ha => q _ _ (((s1.trans s2).trans s3).trans (Same.new' ha)) ⟨a, x, y, z, rfl, upd_same, g1 r1 ((s2.trans s3).trans (Same.new' ha)), g2 r2 (s3.trans (Same.new' ha)), g3 r3 (Same.new' ha)⟩⟩)
theorem st_unN {t : TT} {t1 : TS} {D : Ends} {σ : L2.St} {H : Hp} (h : t σ H fun b H1 => if b = true then t1 D σ H1 else D.nx σ H1) : tIfS t t1 tNext D σ H := h
theorem iteY {c : Bool} {p q : Prop} (e : c = true) (h : p) : if c = true then p else q := by rw [e]; exact h
theorem iteN {c : Bool} {p q : Prop} (e : c = false) (h : q) : if c = true then p else q := by rw [e]; exact h
theorem ok_times_line (T : Txt K mg) : FnOk P w K mg base CX0 1 (fA mg "_times_line") (fDat K (fA mg "_times_line")) ["numbers", "line"] spTL := by
  refine T._times_line.F.ok sc_times_line (fun vs H Q E h => ?_) (fun cdv A outer s H vs Q E hr h => ?_)
  · obtain ⟨d, t, L, a, b, e, rfl, _⟩ := h
    rfl
  obtain ⟨d, t, L, a, b, e, rfl, ⟨kvs, ed, de⟩, et, hl, ha, hb, he, hL, k⟩ := h
  refine ⟨_, (pss_cons (ps_asg (pv 1) (pg_tup rfl (pgs_cons (pg_name (i := 2) sc_times_line.nd rfl (Or.inl rfl)) (pgs_cons (pg_name (i := 3) sc_times_line.nd rfl (Or.inl rfl)) (pgs_cons (pg_name (i := 4) sc_times_line.nd rfl (Or.inl rfl)) pgs_nil)))))
  (pss_cons (ps_set (i := 5) sc_times_line.nd rfl (Or.inl rfl) pe_dnewT)
  (pss_cons (ps_lockO (ps_for PassesOwn.never rfl (pi_keys (pv 0)) (pg_tup rfl (pgs_cons (pg_name (i := 6) sc_times_line.nd rfl (Or.inl rfl)) (pgs_cons (pg_name (i := 7) sc_times_line.nd rfl (Or.inl rfl)) pgs_nil)))
  (pss_cons (ps_set (i := 8) sc_times_line.nd rfl (Or.inl rfl) (pe_dget (hu_of hr) (pv 0) (pe_tup (pa_cons (pv 6) (pa_cons (pv 7) pa_nil))) (fun _ _ => rfl)))
  (pss_one (ps_for PassesOwn.never rfl (pi_tup (pe_tup (pa_cons (pe_tup (pa_cons (pe_tup (pa_cons (pe_op op_add (pv 6) pe_int) (pa_cons (pv 7) pa_nil))) (pa_cons (pv 2) pa_nil))) (pa_cons (pe_tup (pa_cons (pe_tup (pa_cons (pv 6) (pa_cons (pe_op op_add (pv 7) pe_int) pa_nil))) (pa_cons (pv 3) pa_nil))) (pa_cons (pe_tup (pa_cons (pe_tup (pa_cons (pv 6) (pa_cons (pv 7) pa_nil))) (pa_cons (pv 4) pa_nil))) pa_nil))))) (pg_tup rfl (pgs_cons (pg_name (i := 9) sc_times_line.nd rfl (Or.inl rfl)) (pgs_cons (pg_name (i := 10) sc_times_line.nd rfl (Or.inl rfl)) pgs_nil)))
  (pss_one (ps_if (pt_cmpR op_ne (pv 10) pe_int (nomark _)) (pss_one (ps_dput (hu_of hr) (pv 5) (pv 9) (pe_op op_add (pe_dget2 (hu_of hr) (pv 5) (pv 9) pe_int ⟨by rfl, by rfl, by rfl, by rfl⟩) (pe_op op_mulW (pv 10) (pv 8))) rfl)) pss_nil)))))))
  (pss_one (ps_ret (pv 5)))))), ?_⟩
  refine q_gen ((val_var rfl) _ (g_three (SqT.of et) (q_asg fun f hf => ?_)))
  have sf := Same.new' (o := .dT []) hf
  have ne : d ≠ f := ne_of_none ed hf
  have ed1 : Rd (upd H f (.dT [])) d (.dT kvs) := .inl (sf _ _ ed)
  refine q_keysG (kvs := kvs) (d := d) rfl ed1 (fun HL m σ H' => ∃ (z6 z7 z8 z9 z10 : Option V) (F : List En), σ = [some (.ref d), some (.ref t), some (.int a), some (.int b), some (.int e), some (.ref f), z6, z7, z8, z9, z10] ∧ Wk (upd H f (.dT [])) HL d f kvs H' ∧ DJ H' f F ∧ (∀ i j, cf F i j = cf (tlW a b e (L.take m)) i j) ∧ (∀ x ∈ F, x.1 ∈ (tlW a b e L).map (·.1)) ∧ F.length ≤ 3 * m)
    (fun HL off rdL => ?_) (fun HL m σ H' ⟨_, _, _, _, _, _, _, w, _⟩ => w.at) ?_ ?_
  · exact ⟨none, none, none, none, none, [], rfl, ⟨off, rdL, But.refl, ne⟩, ⟨[], by rw [off f (Ne.symm ne), upd_same], DI.nil⟩, fun i j => rfl, (fun x hx => nomatch hx), Nat.le_refl _⟩
  · rintro HL m kk v q σ H' rdL hk ⟨z6, z7, z8, z9, z10, F, rfl, w, dF, hcf, hky, hln⟩ hq D' hnx hct
    have mlt : m < L.length := by rw [← de.len]; exact (List.getElem?_eq_some_iff.mp hk).1
    obtain ⟨en, hen⟩ : ∃ en, L[m]? = some en := ⟨_, List.getElem?_eq_getElem mlt⟩
    obtain ⟨n, hkn, en2, hval⟩ := de.at hen
    rw [hk] at hkn
    obtain ⟨rfl, rfl⟩ := Prod.mk.inj (Option.some.inj hkn)
    have enL := get_mem hen
    have nb := hL en enL n en2
    refine g_two (SqT.of (show H' q = some (.tup [.int (en.1.1 : Int), .int (en.1.2 : Int)]) from hq)) (q_asg ((val_var rfl) _ (l_tup (va_cons (val_var rfl) (va_cons (val_var rfl) va_nil)) (by show 2 ≤ 100000; decide) fun c hc => ?_)))
    have s1 := Same.new' (o := .tup [.int (en.1.1 : Int), .int (en.1.2 : Int)]) hc
    have w1 := w.step (But.of (p := f) s1)
    refine ⟨d, .int n, rfl, .inr ⟨kvs, kN en.1, c, w1.rdH, rfl, upd_same, hval.symm⟩, ?_⟩
    have dF1 := dF.same s1
    clear hc
    revert w1 dF1
    generalize upd H' c (.tup [.int (en.1.1 : Int), .int (en.1.2 : Int)]) = H1
    intro w1 dF1
    clear w dF s1
    -- the three places and their factors
    refine st_forEM (em_three (R1 := fun v H => PF H v (en.1.1 + 1, en.1.2) a) (R2 := fun v H => PF H v (en.1.1, en.1.2 + 1) b) (R3 := fun v H => PF H v en.1 e) PF.same PF.same PF.same (em_pf (k := (en.1.1 + 1, en.1.2)) (c := a) (fun H' s => Val.is (v_add (i := (en.1.1 : Int)) (j := 1) (val_var rfl) val_c) rfl) (fun H' s => val_var rfl) (fun H' s => val_var rfl)) (fun H' s => em_pf (k := (en.1.1, en.1.2 + 1)) (c := b) (fun H' s => val_var rfl) (fun H' s => Val.is (v_add (i := (en.1.2 : Int)) (j := 1) (val_var rfl) val_c) rfl) (fun H' s => val_var rfl)) (fun H' s => em_pf (k := en.1) (c := e) (fun H' s => val_var rfl) (fun H' s => val_var rfl) (fun H' s => val_var rfl))) fun v2 H2 s2 r2 => ?_
    obtain ⟨tq, x1, x2, x3, rfl, etq, r1, r2, r3⟩ := r2
    have w2 := w1.step (But.of (p := f) s2)
    have dF2 := dF1.same s2
    clear w1 dF1 s2
    refine ⟨tq, [x1, x2, x3], rfl, SqT.of etq, (fun r σ H' => ∃ (z9 z10 : Option V) (F : List En), σ = [some (.ref d), some (.ref t), some (.int a), some (.int b), some (.int e), some (.ref f), some (.int (en.1.1 : Int)), some (.int (en.1.2 : Int)), some (.int n), z9, z10] ∧ Wk (upd H f (.dT [])) HL d f kvs H' ∧ But f H2 H' ∧ DJ H' f F ∧ (∀ i j, cf F i j = cf (tlW a b e (L.take m)) i j + cf ((conL a b e en).take r) i j) ∧ (∀ x ∈ F, x.1 ∈ (tlW a b e L).map (·.1)) ∧ F.length ≤ 3 * m + r),
      ⟨z9, z10, F, rfl, w2, But.refl, dF2, fun i j => by rw [hcf]; show _ = _ + (0 : Rat); grind, hky, hln⟩, (fun r σ H' _ h => ?_), (fun r x σ H' hx h => ?_), (fun σ H' h => ?_)⟩
    · obtain ⟨_, _, _, _, _, b3, ⟨fk, ef, _⟩, _⟩ := h
      obtain ⟨fk2, ef2, _⟩ := dF2
      exact SqT.of (b3 _ _ etq (ne_of etq ef2 (by intro z; cases z)))
    · obtain ⟨z9, z10, F, rfl, w3, b3, ⟨fk, ef, df⟩, hcf, hky, hln⟩ := h
      obtain ⟨fk2, ef2, _⟩ := dF2
      have hp : ∃ kr cr, PF H2 x kr cr ∧ (conL a b e en)[r]? = some (kr, (cr : Rat) * en.2) ∧ cr.natAbs < 2 ^ 1000 := by
        match r, hx with
        | 0, hx => cases hx; exact ⟨_, a, r1, rfl, ha⟩
        | 1, hx => cases hx; exact ⟨_, b, r2, rfl, hb⟩
        | 2, hx => cases hx; exact ⟨_, e, r3, rfl, he⟩
      obtain ⟨kr, cr, ⟨p, kb, rfl, ep, ekb⟩, hcon, hcr⟩ := hp
      have ep3 := b3 _ _ ep (ne_of ep ef2 (by intro z; cases z))
      have ekb3 := b3 _ _ ekb (ne_of ekb ef2 (by intro z; cases z))
      have hin : kr ∈ (tlW a b e L).map (·.1) := List.mem_map.mpr ⟨_, List.mem_flatMap.mpr ⟨en, enL, get_mem hcon⟩, rfl⟩
      have tk : ∀ i j, cf ((conL a b e en).take (r + 1)) i j = cf ((conL a b e en).take r) i j + (if kr = (i, j) then (cr : Rat) * en.2 else 0) := fun i j => by
        rw [List.take_succ, hcon, cf_app]
        show _ + cf [(kr, (cr : Rat) * en.2)] i j = _
        rw [cf_one]
      have rlt : r < 3 := by
        have := (List.getElem?_eq_some_iff.mp hx).1
        exact this
      refine g_two (SqT.of ep3) (st_unN (t_op ((val_var rfl) _ (val_c _ ⟨by simp [scal], _, rfl, ?_⟩))))
      by_cases c0 : cr = 0
      · refine iteN (by rw [c0]; simp) ⟨_, _, F, rfl, w3, b3, ⟨fk, ef, df⟩, fun i j => ?_, hky, by omega⟩
        rw [hcf, tk, c0]
        split <;> grind
      · refine iteY (by simp [c0]) ?_
        obtain ⟨i0, hget, hc0⟩ := df.get kr
        refine (v_add (v_get2 (val_var rfl) (.inl ef) (val_var rfl) ekb3 hget) (v_mul (val_var rfl) (val_var rfl) (fit_mul hcr nb))) _ ((val_var rfl) _ ((val_var rfl) _ ⟨f, _, rfl, DPut.t ef ekb3 (Nat.lt_of_le_of_lt (show fk.length ≤ 1000 by have := df.len; omega) (by decide)), ?_⟩))
        have b4 : But f H' (upd H' f (.dT (putK fk (kN kr) (.int (i0 + cr * n))))) := fun b o eb nb => by rw [upd_ne nb]; exact eb
        refine ⟨_, _, putE F kr ((i0 + cr * n : Int) : Rat), rfl, w3.step b4, b3.trans b4, ⟨_, upd_same, df.put⟩, fun i j => ?_, fun x hx => ?_, Nat.le_trans len_put (by omega)⟩
        · rw [cf_put df.2, tk]
          split
          · rename_i z
            have g1 : i = kr.1 := (congrArg Prod.fst z).symm
            have g2 : j = kr.2 := (congrArg Prod.snd z).symm
            have h3 := hcf i j
            rw [g1, g2, hc0] at h3
            rw [g1, g2, Rat.intCast_add, Rat.intCast_mul, h3, en2]
            grind
          · rw [hcf]
            grind
        · rcases mem_put hx with rfl | h
          · exact hin
          · exact hky _ h
    · obtain ⟨z9, z10, F, rfl, w3, b3, dF3, hcf, hky, hln⟩ := h
      rw [hnx]
      refine ⟨_, _, _, _, _, F, rfl, w3, dF3, fun i j => ?_, hky, ?_⟩
      · rw [hcf, cf_tlW_take hen]
        rfl
      · show F.length ≤ 3 * (m + 1)
        have : F.length ≤ 3 * m + 3 := hln
        omega
  · rintro HL σ H' ⟨z6, z7, z8, z9, z10, F, rfl, w, ⟨fk, ef, df⟩, hcf, hky, hln⟩ H2 h2 hd2
    obtain ⟨b0, tu2, ff⟩ := w.fin h2 hd2
    rw [de.len, List.take_length] at hcf
    rw [de.len] at hln
    refine r_ret ((val_var rfl) _ (k f H2 F (fun x o ex => b0 x o (sf _ _ ex) (ne_of_none ex hf)) hf ⟨fk, by rw [ff]; exact ef, df⟩ hcf hky hln))
end
end LW

namespace LW
open PySem PySem.Spec PyProof.Rows L2 GL
section
variable {P : Program} {w : World} {K : PySem.W.Frag} {mg : Str → Option Value} {base : Heap}
/-! ### sizes and values of a dict times a line -/
theorem cf_tlW (a b e : Int) (i j : Nat) : ∀ L : List En, cf (tlW a b e L) i j = (if 0 < i then (a : Rat) * cf L (i - 1) j else 0) + (if 0 < j then (b : Rat) * cf L i (j - 1) else 0) + (e : Rat) * cf L i j
  | [] => by
    show (0 : Rat) = (if 0 < i then (a : Rat) * 0 else 0) + (if 0 < j then (b : Rat) * 0 else 0) + (e : Rat) * 0
    split <;> split <;> grind
  | x :: L => by
    have ih := cf_tlW a b e i j L
    unfold tlW at ih ⊢
    rw [List.flatMap_cons, cf_app, ih]
    unfold conL
    rw [cf_cons, cf_cons, cf_cons, cf_nil, cf_cons, cf_cons, cf_cons]
    obtain ⟨⟨u, v⟩, q⟩ := x
    have h1 : ((u + 1, v) = (i, j)) = (0 < i ∧ (u, v) = (i - 1, j)) := by
      simp only [Prod.mk.injEq, eq_iff_iff]
      constructor
      · intro h; omega
      · intro h; omega
    have h2 : ((u, v + 1) = (i, j)) = (0 < j ∧ (u, v) = (i, j - 1)) := by
      simp only [Prod.mk.injEq, eq_iff_iff]
      constructor
      · intro h; omega
      · intro h; omega
    dsimp only
    rw [show (if (u + 1, v) = (i, j) then (a : Rat) * q else 0) = if 0 < i ∧ (u, v) = (i - 1, j) then (a : Rat) * q else 0 from by simp only [h1], show (if (u, v + 1) = (i, j) then (b : Rat) * q else 0) = if 0 < j ∧ (u, v) = (i, j - 1) then (b : Rat) * q else 0 from by simp only [h2]]
    by_cases p1 : 0 < i <;> by_cases p2 : 0 < j <;> by_cases p3 : (u, v) = (i - 1, j) <;> by_cases p4 : (u, v) = (i, j - 1) <;> by_cases p5 : (u, v) = (i, j) <;> simp only [p1, p2, p3, p4, p5, true_and, false_and, if_true, if_false, and_self] <;> grind
/-- all numbers are ints of at most this size -/
def BI (N : Nat) (L : List En) : Prop := ∀ i j, ∃ n : Int, cf L i j = (n : Rat) ∧ n.natAbs ≤ N
theorem BI.le {N M : Nat} {L : List En} (h : BI N L) (l : N ≤ M) : BI M L := fun i j => by
  obtain ⟨n, e, b⟩ := h i j
  exact ⟨n, e, Nat.le_trans b l⟩
theorem BI.nil {N : Nat} : BI N [] := fun i j => ⟨0, rfl, Nat.zero_le _⟩
theorem BI.cf {N : Nat} {L M : List En} (h : BI N L) (e : ∀ i j, LW.cf M i j = LW.cf L i j) : BI N M := fun i j => by
  rw [e]
  exact h i j
theorem BI.tl {N A : Nat} {a b e : Int} {L : List En} (h : BI N L) (ha : a.natAbs ≤ A) (hb : b.natAbs ≤ A) (he : e.natAbs ≤ A) : BI (3 * (A * N)) (tlW a b e L) := fun i j => by
  obtain ⟨n1, e1, b1⟩ := h (i - 1) j
  obtain ⟨n2, e2, b2⟩ := h i (j - 1)
  obtain ⟨n3, e3, b3⟩ := h i j
  rw [cf_tlW, e1, e2, e3]
  have m1 : (a * n1).natAbs ≤ A * N := by rw [Int.natAbs_mul]; exact Nat.mul_le_mul ha b1
  have m2 : (b * n2).natAbs ≤ A * N := by rw [Int.natAbs_mul]; exact Nat.mul_le_mul hb b2
  have m3 : (e * n3).natAbs ≤ A * N := by rw [Int.natAbs_mul]; exact Nat.mul_le_mul he b3
  refine ⟨(if 0 < i then a * n1 else 0) + (if 0 < j then b * n2 else 0) + e * n3, ?_, ?_⟩
  · rw [Rat.intCast_add, Rat.intCast_add, Rat.intCast_mul]
    split <;> split <;> (try simp only [Rat.intCast_mul]) <;> rfl
  · generalize a * n1 = u1 at m1 ⊢
    generalize b * n2 = u2 at m2 ⊢
    generalize e * n3 = u3 at m3 ⊢
    generalize A * N = W at m1 m2 m3 ⊢
    split <;> split <;> omega
theorem BI.add {N M : Nat} {L K' S : List En} (h : BI N L) (k : BI M K') (e : ∀ i j, LW.cf S i j = LW.cf L i j + LW.cf K' i j) : BI (N + M) S := fun i j => by
  obtain ⟨n, e1, b1⟩ := h i j
  obtain ⟨m, e2, b2⟩ := k i j
  exact ⟨n + m, by rw [e, e1, e2, Rat.intCast_add], by omega⟩
theorem BI.mem {N : Nat} {L : List En} (h : BI N L) (nd : (L.map (·.1)).Nodup) {x : En} (hx : x ∈ L) {i : Int} (e : x.2 = (i : Rat)) : i.natAbs ≤ N := by
  obtain ⟨n, e1, b⟩ := h x.1.1 x.1.2
  have h2 : LW.cf L x.1.1 x.1.2 = x.2 := cf_in (k := x.1) (q := x.2) hx nd
  rw [h2, e] at e1
  rw [Rat.intCast_inj.mp e1]
  exact b
/-! ### the rows moved -/
/-- a row's numbers times powers of the bottom -/
def scl (bot : Int) : Nat → List Int → List Int
  | _, [] => []
  | m, z :: r => z * bot ^ m :: scl bot (m - 1) r
theorem scl_len (bot : Int) : ∀ (m : Nat) (zs : List Int), (scl bot m zs).length = zs.length
  | _, [] => rfl
  | m, z :: r => by
    show (scl bot (m - 1) r).length + 1 = r.length + 1
    rw [scl_len]
theorem scl_at (bot : Int) : ∀ (m : Nat) (zs : List Int) (j : Nat) (z : Int), zs[j]? = some z → j ≤ m → (scl bot m zs)[j]? = some (z * bot ^ (m - j))
  | _, [], _, _, h, _ => by simp at h
  | m, z :: r, 0, w, h, _ => by
    simp at h
    subst h
    rfl
  | m, z :: r, j + 1, w, h, l => by
    show (scl bot (m - 1) r)[j]? = _
    rw [scl_at bot (m - 1) r j w (by simpa using h) (by omega), show m - 1 - j = m - (j + 1) by omega]
def rts (zs : List Int) : List Rat := List.map (fun z : Int => (z : Rat)) zs
/-- the value of the rows, the inner one at u, the outer one at o -/
def inL (bot : Int) (u : Rat) : Nat → List (List Int) → List Rat
  | _, [] => []
  | m, zs :: r => peval (rts (scl bot m zs)) u :: inL bot u (m - 1) r
theorem inL_len (bot : Int) (u : Rat) : ∀ (m : Nat) (Z : List (List Int)), (inL bot u m Z).length = Z.length
  | _, [] => rfl
  | m, z :: r => by
    show (inL bot u (m - 1) r).length + 1 = r.length + 1
    rw [inL_len]
theorem inL_at (bot : Int) (u : Rat) : ∀ (m : Nat) (Z : List (List Int)) (i : Nat) (zs : List Int), Z[i]? = some zs → (inL bot u m Z)[i]? = some (peval (rts (scl bot (m - i) zs)) u)
  | _, [], _, _, h => by simp at h
  | m, z :: r, 0, w, h => by
    simp at h
    subst h
    rfl
  | m, z :: r, i + 1, w, h => by
    show (inL bot u (m - 1) r)[i]? = _
    rw [inL_at bot u (m - 1) r i w (by simpa using h), show m - 1 - i = m - (i + 1) by omega]
theorem peval_cons (a : Rat) (r : List Rat) (x : Rat) : peval (a :: r) x = a + x * peval r x := rfl
theorem drop_at {α : Type} {l : List α} {n : Nat} {a : α} (h : l[n]? = some a) : l.drop n = a :: l.drop (n + 1) := by
  have lt := (List.getElem?_eq_some_iff.mp h).1
  rw [List.drop_eq_getElem_cons lt, (List.getElem?_eq_some_iff.mp h).2]
/-- what a line is at a place -/
def lnV (a b e : Int) (x y : Rat) : Rat := (a : Rat) * x + (b : Rat) * y + (e : Rat)
end
end LW

namespace LW
open PySem PySem.Spec PyProof.Rows L2 GL
section
variable {P : Program} {w : World} {K : PySem.W.Frag} {mg : Str → Option Value} {base : Heap}
/-- rows of whole numbers with both letters put as lines over one bottom -/
def spMW : Sp := fun vs H Q _ => ∃ (l ov up : Addr) (Z : List (List Int)) (a b e a' b' e' bot : Int) (m μ Λ : Nat), vs = [.ref l, .ref ov, .ref up, .int bot, .int (m : Int)] ∧ LsI H l Z ∧ H ov = some (.tup [.int a, .int b, .int e]) ∧ H up = some (.tup [.int a', .int b', .int e']) ∧
  (∀ i zs, Z[i]? = some zs → zs.length ≤ m + 1 - i) ∧ Z.length ≤ m + 1 ∧ m ≤ 16 ∧ 0 < bot ∧ bot.natAbs ≤ Λ ∧ (∀ zs ∈ Z, ∀ z ∈ zs, z.natAbs ≤ μ) ∧ a.natAbs ≤ Λ ∧ b.natAbs ≤ Λ ∧ e.natAbs ≤ Λ ∧ a'.natAbs ≤ Λ ∧ b'.natAbs ≤ Λ ∧ e'.natAbs ≤ Λ ∧ 1 ≤ μ ∧ 300 * (μ * (3 * Λ) ^ (m + 1)) < 2 ^ 1000 ∧
  ∀ (t p : Addr) (H' : Hp) (M : List En), L2.Same H H' → H' t = some (.tup [.ref p, .int (bot ^ m)]) → DJ H' p M → (∀ x ∈ M, x.1.1 + x.1.2 ≤ m) → BI (300 * (μ * (3 * Λ) ^ m)) M →
    (∀ x y, evL M x y = peval (inL bot (lnV a' b' e' x y) m Z) (lnV a b e x y)) → Q (.ref t) H'
theorem tlW_deg {a b e : Int} {L : List En} {k : Nat × Nat} (h : k ∈ (tlW a b e L).map (·.1)) : ∃ x ∈ L, k.1 + k.2 ≤ x.1.1 + x.1.2 + 1 := by
  obtain ⟨y, hy, rfl⟩ := List.mem_map.mp h
  obtain ⟨x, hx, hc⟩ := List.mem_flatMap.mp hy
  refine ⟨x, hx, ?_⟩
  unfold conL at hc
  simp only [List.mem_cons, List.not_mem_nil, or_false] at hc
  rcases hc with rfl | rfl | rfl
  · show x.1.1 + 1 + x.1.2 ≤ _; omega
  · show x.1.1 + (x.1.2 + 1) ≤ _; omega
  · show x.1.1 + x.1.2 ≤ _; omega
theorem pow_le3 {bot : Int} {Λ : Nat} (h : bot.natAbs ≤ Λ) (t : Nat) : (bot ^ t).natAbs ≤ (3 * Λ) ^ t := by
  rw [Int.natAbs_pow]
  exact Nat.pow_le_pow_left (by omega) t
/-- a key put that was 0: the value grows by it -/
theorem ev_put {M : List En} {k : Nat × Nat} {c q : Rat} (nd : (M.map (·.1)).Nodup) (h : q = cf M k.1 k.2 + c) : ∀ i j, cf (putE M k q) i j = cf (M ++ [(k, c)]) i j := fun i j => by
  rw [cf_put nd, cf_app, cf_one]
  split
  · rename_i z
    rw [h, ← show k.1 = i from congrArg Prod.fst z, ← show k.2 = j from congrArg Prod.snd z]
  · grind
theorem em_get2 {td t1 t2 : TE} {σ : L2.St} {H : Hp} {f : Addr} {fk : List (List Key × V)} {k : Nat × Nat} {v : V} (h1 : Val td σ H (.ref f)) (e : H f = some (.dT fk)) (h2 : Val t1 σ H (.int (k.1 : Int))) (h3 : Val t2 σ H (.int (k.2 : Int))) (hv : (valV fk (kN k)).getD (.int 0) = v) : EM (tDGet2 td (tTup (tCons t1 (tCons t2 tNil))) (tC (.int 0))) σ H fun w _ => w = v := fun Q q =>
  h1 _ ⟨f, rfl, .inr ⟨fk, .inl e⟩, l_tup (va_cons h2 (va_cons h3 va_nil)) (by show 2 ≤ 100000; decide) fun c hc => ⟨_, DGet.t (Same.new' hc _ _ e) (k := kN k) upd_same, q _ _ (Same.new' hc) hv⟩⟩
theorem q_forRR {te : TE} {g : TG} {tb tz : TS} {D : Ends} {σ : L2.St} {H : Hp} {n : Nat} (h : Val te σ H (.int (n : Int))) (hn : n ≤ 100000) (Pv : Nat → L2.St → Hp → Prop) (h0 : Pv 0 σ H)
    (hs : ∀ t σ H, t < n → Pv t σ H → g (.int ((n - 1 - t : Nat) : Int)) σ H fun σ2 H2 => tb { D with nx := Pv (t + 1), ct := Pv (t + 1), bk := tz D } σ2 H2) (hd : ∀ σ H, Pv n σ H → tz D σ H) : tSeq (tFor (iRevR (tRg1 te)) g tb) tz D σ H := by
  have e : ((n : Int) - 0).toNat = n := by omega
  refine h _ ⟨(n : Int), rfl, by omega, by omega, by omega, by omega, for_rangeC (D := { D with nx := tz D }) Pv h0 (fun t σ H ht p => ?_) (fun σ H p => hd σ H (by rw [e] at p; exact p))⟩
  rw [e] at ht ⊢
  rw [show (0 : Int) + (n : Int) - 1 + (t : Int) * (-1) = ((n - 1 - t : Nat) : Int) by omega]
  exact hs t σ H ht p
/-- the powers of the bottom as a list -/
def pws (bot : Int) (n : Nat) : List V := (List.range n).map fun k => V.int (bot ^ k)
theorem pws_at {bot : Int} {n k : Nat} (h : k < n) : (pws bot n)[k]? = some (.int (bot ^ k)) := by
  unfold pws
  rw [List.getElem?_map, List.getElem?_range h]
  rfl
theorem pws_len {bot : Int} {n : Nat} : (pws bot n).length = n := by
  unfold pws
  rw [List.length_map, List.length_range]
theorem pws_succ {bot : Int} {n : Nat} : pws bot (n + 1) = pws bot n ++ [V.int (bot ^ n)] := by
  unfold pws
  rw [List.range_succ, List.map_append]
  rfl
theorem s_put2 {td ty tv : TE} {D : Ends} {σ : L2.St} {H : Hp} (h : tv σ H fun v H1 => td σ H1 fun x H2 => ty σ H2 fun y H3 => ∃ a H4, x = .ref a ∧ DPut H3 a y v H4 ∧ D.nx σ H4) : sDPut td ty tv D σ H := h
theorem BI.one {k : Nat × Nat} {n : Int} {N : Nat} (h : n.natAbs ≤ N) : BI N [(k, (n : Rat))] := fun i j => by
  rw [cf_one]
  split
  · exact ⟨n, rfl, h⟩
  · exact ⟨0, rfl, Nat.zero_le _⟩
theorem stepB {t μ Λ e e' : Nat} (h : t = 0 ∨ e + 1 = e') : 3 * (Λ * (t * (μ * (3 * Λ) ^ e))) ≤ t * (μ * (3 * Λ) ^ e') := by
  rcases h with rfl | rfl
  · rw [Nat.zero_mul, Nat.mul_zero, Nat.mul_zero]; exact Nat.zero_le _
  · refine Nat.le_of_eq ?_
    rw [Nat.pow_succ]
    generalize (3 * Λ) ^ e = X
    ac_rfl
theorem ok_moved_whole (T : Txt K mg) : FnOk P w K mg base CX0 2 (fA mg "moved_whole") (fDat K (fA mg "moved_whole")) ["rows", "over", "up", "bottom", "many"] spMW := by
  have G_times_line := ok_times_line (P := P) (w := w) (base := base) T
  refine T.moved_whole.F.ok scmoved_whole (fun vs H Q E h => ?_) (fun cdv A outer s H vs Q E hr h => ?_)
  · obtain ⟨l, ov, up, Z, a, b, e, a', b', e', bot, m, μ, Λ, rfl, _⟩ := h
    rfl
  obtain ⟨l, ov, up, Z, a, b, e, a', b', e', bot, m, μ, Λ, rfl, lsi, eo, eu, dg, hZ, hm, b0, bΛ, hz, h1, h2, h3, h4, h5, h6, μ1, sz, k⟩ := h
  refine ⟨_, (pss_cons (ps_set (i := 5) scmoved_whole.nd rfl (Or.inl rfl) (pe_lst (pa_cons pe_int pa_nil)))
  (pss_cons (ps_for PassesOwn.never rfl (pi_range1 (by rfl) T.range (pa_cons (pv 4) pa_nil)) (pg_name (i := 6) scmoved_whole.nd rfl (Or.inl rfl))
  (pss_one (ps_expr (pe_bm PySem.F.plainAttrs_list PySem.F.slot_list_append PySem.F.type_list_append mt_append (pv 5) (pa_cons (pe_op op_mulW (pe_ix ix_list (pv 5) (pe_un un_neg pe_int) (fun _ _ => rfl)) (pv 3)) pa_nil)))))
  (pss_cons (ps_set (i := 7) scmoved_whole.nd rfl (Or.inl rfl) pe_dnewT)
  (pss_cons (ps_for PassesOwn.never rfl (pi_revR (by rfl) T.reversed (prg_1 (by rfl) T.range (pe_callB call_len_seq (by rfl) T.len PySem.boot_len (pa_cons (pv 0) pa_nil)))) (pg_name (i := 8) scmoved_whole.nd rfl (Or.inl rfl))
  (pss_cons (ps_set (i := 9) scmoved_whole.nd rfl (Or.inl rfl) pe_dnewT)
  (pss_cons (ps_for PassesOwn.never rfl (pi_revR (by rfl) T.reversed (prg_1 (by rfl) T.range (pe_callB call_len_seq (by rfl) T.len PySem.boot_len (pa_cons (pe_ix ix_list (pv 0) (pv 8) (fun _ _ => rfl)) pa_nil)))) (pg_name (i := 10) scmoved_whole.nd rfl (Or.inl rfl))
  (pss_cons (ps_set (i := 9) scmoved_whole.nd rfl (Or.inl rfl) (pe_c T._times_line G_times_line (hr.mono (by decide)) (pa_cons (pv 9) (pa_cons (pv 2) pa_nil))))
  (pss_one (ps_dput (hu_of hr) (pv 9) (pe_tup (pa_cons pe_int (pa_cons pe_int pa_nil))) (pe_op op_add (pe_dget2 (hu_of hr) (pv 9) (pe_tup (pa_cons pe_int (pa_cons pe_int pa_nil))) pe_int ⟨by rfl, by rfl, by rfl, by rfl⟩) (pe_op op_mulW (pe_ix ix_list (pe_ix ix_list (pv 0) (pv 8) (fun _ _ => rfl)) (pv 10) (fun _ _ => rfl)) (pe_ix ix_list (pv 5) (pe_op op_sub (pe_op op_sub (pv 4) (pv 8)) (pv 10)) (fun _ _ => rfl)))) rfl))))
  (pss_cons (ps_set (i := 7) scmoved_whole.nd rfl (Or.inl rfl) (pe_c T._times_line G_times_line (hr.mono (by decide)) (pa_cons (pv 7) (pa_cons (pv 1) pa_nil))))
  (pss_one (ps_lockO (ps_for PassesOwn.never rfl (pi_keys (pv 9)) (pg_name (i := 11) scmoved_whole.nd rfl (Or.inl rfl))
  (pss_one (ps_dput (hu_of hr) (pv 7) (pv 11) (pe_op op_add (pe_dget2 (hu_of hr) (pv 7) (pv 11) pe_int ⟨by rfl, by rfl, by rfl, by rfl⟩) (pe_dget (hu_of hr) (pv 9) (pv 11) (fun _ _ => rfl))) rfl)))))))))
  (pss_one (ps_ret (pe_tup (pa_cons (pv 7) (pa_cons (pe_ix ix_list (pv 5) (pv 4) (fun _ _ => rfl)) pa_nil))))))))), ?_⟩
  have Λ1 : 1 ≤ Λ := by omega
  have p1 : 1 ≤ 3 * Λ := by omega
  have pw : ∀ t, t ≤ m → μ * (3 * Λ) ^ t ≤ μ * (3 * Λ) ^ (m + 1) := fun t ht => Nat.mul_le_mul_left _ (Nat.pow_le_pow_right p1 (by omega))
  have big : ∀ {N}, N ≤ 300 * (μ * (3 * Λ) ^ (m + 1)) → N < 2 ^ 1000 := fun h => Nat.lt_of_le_of_lt h sz
  have pb : ∀ t, t ≤ m + 1 → (bot ^ t).natAbs < 2 ^ 1000 := fun t ht => by
    refine big (Nat.le_trans (pow_le3 bΛ t) (Nat.le_trans (Nat.pow_le_pow_right p1 ht) ?_))
    have := Nat.mul_le_mul_right ((3 * Λ) ^ (m + 1)) μ1
    omega
  have bb : bot.natAbs < 2 ^ 1000 := by have := pb 1 (by omega); rw [Int.pow_one] at this; exact this
  -- the powers
  refine q_lst0 (va_cons val_c va_nil) (by show 1 ≤ 100000; decide) fun sc hsc => ?_
  refine q_forR1 (n := m) (va_cons (val_var rfl) va_nil) (by omega) (fun t σ H1 => ∃ z6 : Option V, σ = [some (.ref l), some (.ref ov), some (.ref up), some (.int bot), some (.int (m : Int)), some (.ref sc), z6, none, none, none, none, none] ∧ L2.Same H H1 ∧ H1 sc = some (.lst (pws bot (t + 1)))) ⟨none, rfl, Same.new' hsc, by rw [upd_same]; show _ = some (HO.lst [V.int (bot ^ 0)]); rw [Int.pow_zero]⟩ (fun t σ H1 ht h => ?_) (fun σ H1 h => ?_)
  · obtain ⟨z6, rfl, s1, es⟩ := h
    have he : (pws bot (t + 1))[(pws bot (t + 1)).length - 1]? = some (.int (bot ^ t)) := by rw [pws_len]; exact pws_at (by omega)
    refine g_name (s_appC (val_var rfl) es ((v_mul (val_op (x := .ref sc) (y := .int (-1)) (z := .int (bot ^ t)) (val_var rfl) (v_neg val_c) fun Q q => ⟨sc, _, -1, _, rfl, rfl, SqL.of es, atI_m1 he, q⟩) (val_var rfl) (fit_mul (pb t (by omega)) bb)) _ ⟨sc, _, _, rfl, rfl, es, ?_, _, rfl, Same.updN s1 hsc, ?_⟩))
    · rw [pws_len]
      exact Nat.lt_of_le_of_lt (show t + 1 ≤ 100 by omega) (by decide)
    · rw [upd_same, ← Int.pow_succ, ← pws_succ]
  obtain ⟨z6, rfl, s0, es0⟩ := h
  refine q_asg fun f0 hf0 => ?_
  have s1 := s0.trans (Same.new' (o := .dT []) hf0)
  have hfH := Same.free s0 hf0
  have es1 := Same.new' (o := .dT []) hf0 _ _ es0
  obtain ⟨us, el, al⟩ := lsi
  have lu := al.len
  have lu2 : ((us.length : Nat) : Int) = (Z.length : Int) := by rw [lu]
  refine q_forRR (n := Z.length) (Val.is (v_len (val_var rfl) (.inl (SqL.of (s1 _ _ el)))) (by rw [lu])) (by omega) (fun t σ H1 => ∃ (z6 z8 z9 z10 z11 : Option V) (f : Addr) (F : List En), σ = [some (.ref l), some (.ref ov), some (.ref up), some (.int bot), some (.int (m : Int)), some (.ref sc), z6, some (.ref f), z8, z9, z10, z11] ∧ L2.Same H H1 ∧ H f = none ∧ H1 sc = some (.lst (pws bot (m + 1))) ∧ DJ H1 f F ∧ (∀ x ∈ F, x.1.1 + x.1.2 + (Z.length - t) ≤ m) ∧ BI (t * (17 * (μ * (3 * Λ) ^ (m - (Z.length - t))))) F ∧ ∀ x y, evL F x y = peval ((inL bot (lnV a' b' e' x y) m Z).drop (Z.length - t)) (lnV a b e x y))
    ⟨z6, none, none, none, none, f0, [], rfl, s1, hfH, es1, ⟨[], upd_same, DI.nil⟩, (fun x hx => nomatch hx), BI.nil, fun x y => by rw [Nat.sub_zero, ← inL_len bot (lnV a' b' e' x y) m Z, List.drop_length]; rfl⟩ (fun t σ H1 ht h => ?_) (fun σ H1 h => ?_)
  · obtain ⟨z6, z8, z9, z10, z11, f, F, rfl, s1, hf, es, dF, dgF, bF, vF⟩ := h
    obtain ⟨i, hi⟩ : ∃ i, i = Z.length - 1 - t := ⟨_, rfl⟩
    have it : Z.length - t = i + 1 := by omega
    have it2 : Z.length - (t + 1) = i := by omega
    have iZ : i < Z.length := by omega
    rw [it] at dgF bF vF
    rw [it2, ← hi]
    obtain ⟨zs, hzs⟩ : ∃ zs, Z[i]? = some zs := ⟨_, List.getElem?_eq_getElem iZ⟩
    obtain ⟨v, hv, ra, rfl, era⟩ : ∃ v, us[i]? = some v ∧ ∃ ra, v = V.ref ra ∧ H ra = some (.lst (zs.map V.int)) := by
      obtain ⟨b0, hb, ra, h1, h2⟩ := al.get (List.getElem?_eq_getElem (show i < us.length by omega))
      rw [hzs] at hb
      obtain rfl := Option.some.inj hb
      exact ⟨_, List.getElem?_eq_getElem (by omega), ra, h1, h2⟩
    have zl := dg i zs hzs
    have zμ := hz zs (get_mem hzs)
    refine g_name (q_asg fun g0 hg0 => ?_)
    have s2 := Same.new' (o := .dT []) hg0
    have Λb : ∀ {n : Int}, n.natAbs ≤ Λ → n.natAbs < 2 ^ 1000 := fun {n} h => by
      refine big (Nat.le_trans h ?_)
      have q1 : 3 * Λ ≤ (3 * Λ) ^ (m + 1) := by
        have := Nat.pow_le_pow_right p1 (show 1 ≤ m + 1 by omega)
        rw [Nat.pow_one] at this
        exact this
      have q2 := Nat.mul_le_mul_right ((3 * Λ) ^ (m + 1)) μ1
      omega
    have im : i ≤ m := by omega
    refine q_forRR (n := zs.length) (Val.is (v_len (v_ixL (n := i) (val_var rfl) (val_var rfl) (SqL.of (s2 _ _ (s1 _ _ el))) hv) (.inl (SqL.of (s2 _ _ (s1 _ _ era))))) (by rw [List.length_map])) (by omega)
      (fun t2 σ H2 => ∃ (z10 z11 : Option V) (gI : Addr) (I : List En), σ = [some (.ref l), some (.ref ov), some (.ref up), some (.int bot), some (.int (m : Int)), some (.ref sc), z6, some (.ref f), some (.int (i : Int)), some (.ref gI), z10, z11] ∧ L2.Same H1 H2 ∧ H1 gI = none ∧ DJ H2 gI I ∧ (∀ x ∈ I, x.1.1 + x.1.2 + 1 ≤ t2) ∧ BI (t2 * (μ * (3 * Λ) ^ (m - i - (zs.length - t2)))) I ∧ ∀ x y, evL I x y = peval ((rts (scl bot (m - i) zs)).drop (zs.length - t2)) (lnV a' b' e' x y))
      ⟨z10, z11, g0, [], rfl, s2, hg0, ⟨[], upd_same, DI.nil⟩, (fun x hx => nomatch hx), BI.nil, fun x y => by
        have : (rts (scl bot (m - i) zs)).length = zs.length := by unfold rts; rw [List.length_map, scl_len]
        rw [Nat.sub_zero, ← this, List.drop_length]
        rfl⟩ (fun t2 σ H2 ht2 h => ?_) (fun σ H2 h => ?_)
    · obtain ⟨z10, z11, gI, I, rfl, s3, hg, dI, dgI, bI, vI⟩ := h
      obtain ⟨j, hj⟩ : ∃ j, j = zs.length - 1 - t2 := ⟨_, rfl⟩
      have jt : zs.length - t2 = j + 1 := by omega
      have jt2 : zs.length - (t2 + 1) = j := by omega
      rw [jt] at bI vI
      rw [jt2, ← hj]
      obtain ⟨z, hz0⟩ : ∃ z, zs[j]? = some z := ⟨_, List.getElem?_eq_getElem (show j < zs.length by omega)⟩
      have zb := zμ z (get_mem hz0)
      obtain ⟨kI, eI, diI⟩ := dI
      have lI : I.length ≤ 300 := Nat.le_trans (keys_len (g := 16) diI.2 fun x hx => by have := dgI x hx; omega) (by decide)
      have hN : ∀ q, q ≤ m → t2 * (μ * (3 * Λ) ^ q) ≤ 300 * (μ * (3 * Λ) ^ (m + 1)) := fun q hq => Nat.mul_le_mul (by omega) (pw q hq)
      refine g_name (q_asg (c_call (va_cons (val_var rfl) (va_cons (val_var rfl) va_nil)) ⟨gI, up, I, a', b', e', rfl, ⟨kI, eI, diI⟩, s3 _ _ (s1 _ _ eu), lI, Λb h4, Λb h5, Λb h6, fun x hx i' hi' => big (Nat.le_trans (bI.mem diI.2 hx hi') (hN _ (by omega))), fun p H3 M s4 np dM cM kM lM => ?_⟩))
      obtain ⟨kM', eM, diM⟩ := dM
      obtain ⟨i0, hget, hc0⟩ := diM.get (0, 0)
      have ij : i + j ≤ m := by omega
      have hS : (bot ^ (m - i - j)).natAbs ≤ (3 * Λ) ^ (m - i - j) := pow_le3 bΛ _
      have hzS : (z * bot ^ (m - i - j)).natAbs ≤ μ * (3 * Λ) ^ (m - i - j) := by rw [Int.natAbs_mul]; exact Nat.mul_le_mul zb hS
      have zb2 : z.natAbs < 2 ^ 1000 := big (by
        have := pw 0 (by omega)
        rw [Nat.pow_zero, Nat.mul_one] at this
        omega)
      refine s_put2 (op_in (em_get2 (k := (0, 0)) (val_var rfl) eM val_c val_c hget _ fun w H4 s5 ew => ?_))
      subst ew
      have S15 := ((s1.trans s3).trans s4).trans s5
      have es5 := s5 _ _ (s4 _ _ (s3 _ _ es))
      refine (v_mul (v_ixL (n := j) (v_ixL (n := i) (val_var rfl) (val_var rfl) (SqL.of (S15 _ _ el)) hv) (val_var rfl) (SqL.of (S15 _ _ era)) (by rw [List.getElem?_map, hz0]; rfl)) (v_ixL (n := m - i - j) (val_var rfl) (Val.is (v_sub (v_sub (val_var rfl) (val_var rfl)) (val_var rfl)) (congrArg V.int (show (m : Int) - (i : Int) - (j : Int) = ((m - i - j : Nat) : Int) by omega))) (SqL.of es5) (pws_at (by omega))) (fit_mul zb2 (pb _ (by omega)))) _ ⟨_, _, rfl, rfl, ?_⟩
      refine (val_var rfl) _ (l_tup (va_cons val_c (va_cons val_c va_nil)) (by show 2 ≤ 100000; decide) fun c hc => ?_)
      have s6 := Same.new' (o := .tup [.int 0, .int 0]) hc
      have np1 : H1 p = none := Same.free s3 np
      have lM2 : kM'.length ≤ 1000 := by rw [diM.len]; omega
      refine ⟨p, _, rfl, DPut.t (k := kN (0, 0)) (s6 _ _ (s5 _ _ eM)) upd_same (Nat.lt_of_le_of_lt lM2 (by decide)), ?_⟩
      have hev := ev_put (k := (0, 0)) (c := ((z * bot ^ (m - i - j) : Int) : Rat)) (q := ((i0 + z * bot ^ (m - i - j) : Int) : Rat)) diM.2 (by rw [hc0, Rat.intCast_add])
      refine ⟨_, _, p, putE M (0, 0) ((i0 + z * bot ^ (m - i - j) : Int) : Rat), rfl, Same.updN (((s3.trans s4).trans s5).trans s6) np1, np1, ⟨_, upd_same, diM.put⟩, fun x hx => ?_, ?_, fun x y => ?_⟩
      · rcases mem_put hx with rfl | hx
        · show 0 + 0 + 1 ≤ t2 + 1
          omega
        · obtain ⟨w, hw, lw⟩ := tlW_deg (kM x hx)
          have := dgI w hw
          omega
      · have b1 := (BI.cf (bI.tl h4 h5 h6) cM).add (BI.one (k := (0, 0)) hzS) (S := putE M (0, 0) ((i0 + z * bot ^ (m - i - j) : Int) : Rat)) fun i' j' => by rw [hev, cf_app]
        refine b1.le ?_
        have b2 := stepB (t := t2) (μ := μ) (Λ := Λ) (e := m - i - (j + 1)) (e' := m - i - j) (by omega)
        rw [Nat.add_mul, Nat.one_mul]
        exact Nat.add_le_add_right b2 _
      · have hat : (rts (scl bot (m - i) zs))[j]? = some ((z * bot ^ (m - i - j) : Int) : Rat) := by
          unfold rts
          rw [List.getElem?_map, scl_at bot (m - i) zs j z hz0 (by omega)]
          rfl
        rw [ev_of_cf hev, evL_app, ev_of_cf cM, ev_tlW, vI, drop_at hat, peval_cons, evL_cons, evL_nil]
        show _ * lnV a' b' e' x y + (_ * (1 * 1) + 0) = _
        grind
    · obtain ⟨z10, z11, gI, I, rfl, s3, hg, dI, dgI, bI, vI⟩ := h
      rw [Nat.sub_self, Nat.sub_zero] at bI
      simp only [Nat.sub_self, List.drop_zero] at vI
      obtain ⟨kF, eF, diF⟩ := dF
      have lF : F.length ≤ 300 := Nat.le_trans (keys_len (g := 16) diF.2 fun x hx => by have := dgF x hx; omega) (by decide)
      have hN : t * (17 * (μ * (3 * Λ) ^ (m - (i + 1)))) ≤ 300 * (μ * (3 * Λ) ^ (m + 1)) := by
        rw [← Nat.mul_assoc]
        exact Nat.mul_le_mul (by omega) (pw _ (by omega))
      refine q_asg (c_call (va_cons (val_var rfl) (va_cons (val_var rfl) va_nil)) ⟨f, ov, F, a, b, e, rfl, ⟨kF, s3 _ _ eF, diF⟩, s3 _ _ (s1 _ _ eo), lF, Λb h1, Λb h2, Λb h3, fun x hx i' hi' => big (Nat.le_trans (bF.mem diF.2 hx hi') hN), fun p H3 M s4 np dM cM kM lM => ?_⟩)
      obtain ⟨kI, eI, diI⟩ := dI.same s4
      obtain ⟨kM', eM, diM⟩ := dM
      have neg : gI ≠ p := fun y => by
        obtain ⟨kI0, eI0, _⟩ := dI
        rw [y, np] at eI0
        cases eI0
      have S14 := (s1.trans s3).trans s4
      have es4 := s4 _ _ (s3 _ _ es)
      have np1 : H p = none := Same.free (s1.trans s3) np
      have ngH : H gI = none := Same.free s1 hg
      refine q_keysE (kvs := kI) (d := gI) rfl (.inl eI) (fun HL y σ H4 => ∃ (z11 : Option V) (N : List En), σ = [some (.ref l), some (.ref ov), some (.ref up), some (.int bot), some (.int (m : Int)), some (.ref sc), z6, some (.ref p), some (.int (i : Int)), some (.ref gI), z10, z11] ∧ Wk H3 HL gI p kI H4 ∧ DJ H4 p N ∧ (∀ i' j', cf N i' j' = cf M i' j' + cf (I.take y) i' j') ∧ (∀ x ∈ N, x.1 ∈ M.map (·.1) ∨ x.1 ∈ I.map (·.1)))
        (fun HL off rd => ⟨z11, M, rfl, ⟨off, rd, But.refl, neg⟩, ⟨kM', by rw [off p (Ne.symm neg)]; exact eM, diM⟩, fun i' j' => by show _ = _ + (0 : Rat); grind, fun x hx => .inl (List.mem_map.mpr ⟨x, hx, rfl⟩)⟩) (fun HL y σ H' ⟨_, _, _, w, _⟩ => w.at) ?_ ?_
      · rintro HL y kk v q σ H' rdL hk ⟨z11, N, rfl, w, ⟨kN', eN, diN⟩, hcf, hky⟩ hq D' hnx hct
        have ylt : y < I.length := by rw [← diI.len]; exact (List.getElem?_eq_some_iff.mp hk).1
        obtain ⟨x, hx⟩ : ∃ x, I[y]? = some x := ⟨_, List.getElem?_eq_getElem ylt⟩
        obtain ⟨n, hkn, x2, hval⟩ := diI.at hx
        rw [hk] at hkn
        obtain ⟨rfl, rfl⟩ := Prod.mk.inj (Option.some.inj hkn)
        obtain ⟨i0, hget, hc0⟩ := diN.get x.1
        have lN : kN'.length ≤ 1000 := by
          rw [diN.len]
          refine Nat.le_trans (keys_len (g := 16) diN.2 fun u hu => ?_) (by decide)
          rcases hky u hu with h | h
          · obtain ⟨u2, hu2, e2⟩ := List.mem_map.mp h
            obtain ⟨w2, hw2, lw⟩ := tlW_deg (kM u2 hu2)
            have := dgF w2 hw2
            rw [← e2]
            omega
          · obtain ⟨u2, hu2, e2⟩ := List.mem_map.mp h
            have := dgI u2 hu2
            rw [← e2]
            omega
        refine s_put2 ((v_add (v_get2 (val_var rfl) (.inl eN) (val_var rfl) hq hget) (v_dgetT (val_var rfl) (val_var rfl) w.rdH hq hval)) _ ((val_var rfl) _ ((val_var rfl) _ ⟨p, _, rfl, DPut.t eN hq (Nat.lt_of_le_of_lt lN (by decide)), ?_⟩)))
        rw [hnx]
        have b4 : But p H' (upd H' p (.dT (putK kN' (kN x.1) (.int (i0 + n))))) := fun b o eb nb => by rw [upd_ne nb]; exact eb
        refine ⟨_, putE N x.1 ((i0 + n : Int) : Rat), rfl, w.step b4, ⟨_, upd_same, diN.put⟩, fun i' j' => ?_, fun u hu => ?_⟩
        · rw [cf_put diN.2, cf_take hx]
          split
          · rename_i z
            have g1 : i' = x.1.1 := (congrArg Prod.fst z).symm
            have g2 : j' = x.1.2 := (congrArg Prod.snd z).symm
            have h3 := hcf i' j'
            rw [g1, g2, hc0] at h3
            rw [g1, g2, Rat.intCast_add, h3, x2]
            grind
          · rw [hcf]
            grind
        · rcases mem_put hu with rfl | hu
          · exact .inr (List.mem_map.mpr ⟨x, get_mem hx, rfl⟩)
          · exact hky u hu
      · rintro HL σ H' ⟨z11, N, rfl, w, ⟨kN', eN, diN⟩, hcf, hky⟩ H4 hoff hd4
        obtain ⟨b0, tu2, ff⟩ := w.fin hoff hd4
        rw [diI.len, List.take_length] at hcf
        have hcf2 : ∀ i' j', cf N i' j' = cf (M ++ I) i' j' := fun i' j' => by rw [hcf, cf_app]
        have SH : L2.Same H H4 := fun c o ec => b0 c o (S14 _ _ ec) (ne_of_none ec np1)
        have sc4 : H4 sc = some (.lst (pws bot (m + 1))) := b0 _ _ es4 (ne_of es4 eM (by intro z; cases z))
        refine ⟨_, _, _, _, _, p, N, rfl, SH, np1, sc4, ⟨kN', by rw [ff]; exact eN, diN⟩, fun u hu => ?_, ?_, fun x y => ?_⟩
        · rcases hky u hu with h | h
          · obtain ⟨u2, hu2, e2⟩ := List.mem_map.mp h
            obtain ⟨w2, hw2, lw⟩ := tlW_deg (kM u2 hu2)
            have := dgF w2 hw2
            rw [← e2]
            omega
          · obtain ⟨u2, hu2, e2⟩ := List.mem_map.mp h
            have := dgI u2 hu2
            rw [← e2]
            omega
        · have b1 := (BI.cf (bF.tl h1 h2 h3) cM).add bI (S := N) hcf
          refine b1.le ?_
          have b2 := stepB (t := t) (μ := 17 * μ) (Λ := Λ) (e := m - (i + 1)) (e' := m - i) (by omega)
          rw [Nat.mul_assoc, Nat.mul_assoc] at b2
          rw [Nat.add_mul, Nat.one_mul]
          exact Nat.add_le_add b2 (Nat.mul_le_mul_right _ (by omega))
        · have hat := inL_at bot (lnV a' b' e' x y) m Z i zs hzs
          rw [ev_of_cf hcf2, evL_app, ev_of_cf cM, ev_tlW, vF, vI, drop_at hat, peval_cons]
          show _ * lnV a b e x y + _ = _
          grind
  · obtain ⟨z6, z8, z9, z10, z11, f, F, rfl, s1, hf, es, dF, dgF, bF, vF⟩ := h
    rw [Nat.sub_self] at bF
    refine r_ret (l_tup (va_cons (val_var rfl) (va_cons (v_ixL (n := m) (val_var rfl) (val_var rfl) (SqL.of es) (pws_at (by omega))) va_nil)) (by show 2 ≤ 100000; decide) fun t ht => ?_)
    have s2 := Same.new' (o := .tup [.ref f, .int (bot ^ m)]) ht
    refine k t f _ F (s1.trans s2) upd_same (dF.same s2) (fun x hx => by have := dgF x hx; omega) (bF.le ?_) (fun x y => by rw [vF, Nat.sub_self, List.drop_zero])
    rw [Nat.sub_zero, ← Nat.mul_assoc]
    exact Nat.mul_le_mul_right _ (by omega)
end
end LW

namespace LW
open PySem PySem.Spec PyProof.Rows L2 GL
section
variable {P : Program} {w : World} {K : PySem.W.Frag} {mg : Str → Option Value} {base : Heap}
section
variable {σ : L2.St} {H : Hp} {d : Addr} {kvs : List (List Key × V)} {i : Nat} {g : TG} {te : TE} {vs : List Nat} {F : Nat → V}
theorem lcKG_walk {HL : Hp} {od : Obj} {Q : VK} (hi : σ[i]? = some (some (.ref d))) (e : HL d = some (.frz od (.dT kvs))) (hn : kvs.length ≤ 1000) 
    (hs : ∀ n k v q H', kvs[n]? = some (k, v) → H' q = some (.tup (k.map kV)) → ∀ K' : L2.St → Hp → Prop, (∀ σ2, wipe σ2 vs = wipe σ vs → Val te σ2 H' (F n) → K' σ2 H') → g (.ref q) (wipe σ vs) H' K')
    (hd : ∀ p H', L2.Same HL H' → HL p = none → H' p = some (.lst ((List.range kvs.length).map F)) → Q (.ref p) H') : tLc (iKeys (tVar i)) g tYes te vs σ HL Q := by
  refine ⟨_, hi, d, od, rfl, .inr ⟨kvs, e, fun D hD => ⟨fun n m H' => m = kvs.length - n ∧ n ≤ kvs.length ∧ (L2.Same HL H' ∧ H' D = some (.lst ((List.range n).map F))), ⟨_, rfl, Nat.zero_le _, GL.Same.new' hD, upd_same⟩, ?_⟩⟩⟩
  rintro n m H' ⟨rfl, hn2, s, eD⟩
  have q := s _ _ e
  rcases Nat.lt_or_ge n kvs.length with lt | ge
  · refine .inr ⟨⟨q, lt⟩, fun H2 => L2.Same HL H2 ∧ H2 D = some (.lst ((List.range (n + 1)).map F)), fun H2 p' => ⟨kvs.length - (n + 1), by omega, rfl, lt, p'⟩, ?_⟩
    rintro v H2 ⟨rfl, k, w, t, hk, rfl, ht⟩
    refine hs n k w t H2 hk ht _ fun σ2 hw hv => ⟨hw, t_yesX ?_⟩
    refine iteT ?_
    refine hv _ ⟨_, eD, by rw [List.length_map, List.length_range]; exact Nat.lt_of_le_of_lt (show n ≤ 1000 by omega) (by decide), fun b o z => ?_, ?_⟩
    · rw [upd_ne (ne_of_none z hD)]
      exact s _ _ z
    · rw [upd_same, List.range_succ, List.map_append]
      rfl
  · obtain rfl : n = kvs.length := by omega
    exact .inl ⟨⟨q, Nat.le_refl _⟩, hd D H' s hD eD⟩
theorem l_lcKeysG {Q : VK} (hi : σ[i]? = some (some (.ref d))) (rd : Rd H d (.dT kvs)) (hn : kvs.length ≤ 1000) 
    (hs : ∀ n k v q H', kvs[n]? = some (k, v) → H' q = some (.tup (k.map kV)) → ∀ K' : L2.St → Hp → Prop, (∀ σ2, wipe σ2 vs = wipe σ vs → Val te σ2 H' (F n) → K' σ2 H') → g (.ref q) (wipe σ vs) H' K')
    (hd : ∀ p H', L2.Same H H' → H p = none → H' p = some (.lst ((List.range kvs.length).map F)) → Q (.ref p) H') : tLockEO (tLc (iKeys (tVar i)) g tYes te vs) σ H Q := by
  rcases rd with e | ⟨od, e⟩
  · refine .inl ⟨d, _, e, True.intro, fun od => ?_⟩
    have e2 : upd H d (.frz od (.dT kvs)) d = some (.frz od (.dT kvs)) := upd_same
    refine lcKG_walk hi e2 hn hs fun p H' s np ep => ⟨s _ _ e2, ?_⟩
    have nd : p ≠ d := fun z => by rw [z, e2] at np; cases np
    refine hd p _ (fun b o z => ?_) (by rw [upd_ne nd] at np; exact np) (by rw [upd_ne nd]; exact ep)
    by_cases hb : b = d
    · rw [hb] at z ⊢
      rw [upd_same, ← e, z]
    · rw [upd_ne hb]
      exact s _ _ (by rw [upd_ne hb]; exact z)
  · exact .inr (lcKG_walk hi e hn hs hd)
end
/-- max([one part of each key], default=-1) -/
theorem v_maxG {i i1 i2 jj : Nat} {f : En → Nat} {vs : List Nat} {σ : L2.St} {H : Hp} {d : Addr} {kvs : List (List Key × V)} {L : List En} {Q : VK} (hi : σ[i]? = some (some (.ref d))) (ed : H d = some (.dT kvs)) (de : DI kvs L) (hl : L.length ≤ 300)
    (hv : ∀ x : En, ∀ H', wipe (((wipe σ vs).set i1 (some (.int (x.1.1 : Int)))).set i2 (some (.int (x.1.2 : Int)))) vs = wipe σ vs ∧ Val (tVar jj) (((wipe σ vs).set i1 (some (.int (x.1.1 : Int)))).set i2 (some (.int (x.1.2 : Int)))) H' (.int (f x : Int)))
    (k : ∀ (n : Nat) (H' : Hp), L2.Same H H' → (∀ x ∈ L, f x < n) → (n = 0 ∨ ∃ x ∈ L, f x + 1 = n) → Q (.int ((n : Int) - 1)) H') :
    tCKw (rMaxD K) (tCons (tLockEO (tLc (iKeys (tVar i)) (gTup K 2 (gCons (gName i1) (gCons (gName i2) gNil))) tYes (tVar jj) vs)) tNil) (tCons (tUn (rU fun i => .int (-i)) (tC (.int 1))) tNil) σ H Q := by
  refine kw_one (l_lcKeysG (F := fun n => V.int (((L[n]?.map f).getD 0 : Nat) : Int)) hi (.inl ed) (by rw [de.len]; omega) (fun n kk v q H' hk hq K' k' => ?_) fun p H1 s1 np ep => (v_neg (n := 1) val_c) _ ⟨p, (List.range kvs.length).map (fun n => (((L[n]?.map f).getD 0 : Nat) : Int)), .int (-1), rfl, rfl, SqL.of (by rw [List.map_map]; exact ep), fun z => ?_, fun m hm hmax => ?_⟩)
  · have lt : n < L.length := by rw [← de.len]; exact (List.getElem?_eq_some_iff.mp hk).1
    obtain ⟨x, hx⟩ : ∃ x, L[n]? = some x := ⟨_, List.getElem?_eq_getElem lt⟩
    obtain ⟨w, hkn, _, _⟩ := de.at hx
    rw [hk] at hkn
    obtain ⟨rfl, rfl⟩ := Prod.mk.inj (Option.some.inj hkn)
    obtain ⟨h1, h2⟩ := hv x H'
    refine g_two (SqT.of (show H' q = some (.tup [.int (x.1.1 : Int), .int (x.1.2 : Int)]) from hq)) (k' _ h1 ?_)
    rw [hx]
    exact h2
  · have l0 : kvs.length = 0 := by
      have := congrArg List.length z
      rw [List.length_map, List.length_range] at this
      exact this
    have L0 : L = [] := List.eq_nil_of_length_eq_zero (by rw [← de.len]; exact l0)
    refine k 0 H1 s1 (fun x hx => by rw [L0] at hx; cases hx) (.inl rfl)
  · obtain ⟨n, hn, e⟩ := List.mem_map.mp hm
    have lt : n < L.length := by rw [← de.len]; exact List.mem_range.mp hn
    have hx : L[n]? = some L[n] := List.getElem?_eq_getElem lt
    rw [hx] at e
    have e2 : ((f L[n] : Nat) : Int) = m := e
    have hk := k (f L[n] + 1) H1 s1 (fun y hy => by
      obtain ⟨n2, hn2⟩ := List.getElem?_of_mem hy
      have lt2 : n2 < L.length := (List.getElem?_eq_some_iff.mp hn2).1
      have := hmax ((f y : Nat) : Int) (List.mem_map.mpr ⟨n2, List.mem_range.mpr (by rw [de.len]; exact lt2), by rw [hn2]; rfl⟩)
      omega) (.inr ⟨_, List.getElem_mem lt, rfl⟩)
    rw [show ((f L[n] + 1 : Nat) : Int) - 1 = m by omega] at hk
    exact hk
/-- a plane of the numbers of a dict over one bottom -/
def spPN (mg : Str → Option Value) : Sp := fun vs H Q _ => ∃ (d : Addr) (L : List En) (b : Int) (N : Nat), vs = [.ref d, .int b] ∧ DJ H d L ∧ (∀ x ∈ L, x.1.1 + x.1.2 ≤ 16) ∧ 0 < b ∧ b.natAbs < 2 ^ 1000 ∧ BI N L ∧ N < 2 ^ 1000 ∧
  ∀ a H' R, L2.Same H H' → PnAt (pnA mg) H' a R → (∀ i j, cf2 R i j = cf L i j / (b : Rat)) → Q (.ref a) H'
def PrB (b : Int) (H : Hp) (v : V) (n : Int) : Prop := ∃ p, v = V.ref p ∧ H p = some (.tup [.int n, .int b])
def IQ (f : Nat → Int) (b : Int) : Addr → Nat → V → Hp → Prop := fun _ j v H => PrB b H v (f j)
theorem iq_st (f : Nat → Int) (b : Int) : ∀ D k, Stays (IQ f b D k) := fun D k v H1 H2 s ⟨p, e, h⟩ => ⟨p, e, s _ _ h⟩
theorem iq_off (f : Nat → Int) (b : Int) : OffL (IQ f b) := fun D k v H ys zs ⟨p, e, h⟩ eD => ⟨p, e, tu_lst eD _ _ h⟩
theorem iq_all {f : Nat → Int} {b : Int} {D : Addr} {n : Nat} {ys : List V} {H : Hp} (r : Rows (IQ f b D) 0 n ys H) : All2 (PrB b H) ys ((List.range n).map f) := All2.mk (by rw [r.2, List.length_map, List.length_range]) fun i v q hv hq => by
  have hi : i < n := by rw [← r.2]; exact (List.getElem?_eq_some_iff.mp hv).1
  have h := r.1.get hv
  rw [Nat.zero_add] at h
  rw [List.getElem?_map, List.getElem?_range hi] at hq
  cases hq
  exact h
def GrL (F : Nat → Nat → Int) (b : Int) (n : Nat) : Addr → Nat → V → Hp → Prop := fun D i v H => ∃ l ys, v = V.ref l ∧ l ≠ D ∧ H l = some (.lst ys) ∧ All2 (PrB b H) ys ((List.range n).map (F i))
theorem grl_st (F : Nat → Nat → Int) (b : Int) (n : Nat) : ∀ D k, Stays (GrL F b n D k) := fun D k v H1 H2 s ⟨l, ys, e, ne, h, al⟩ => ⟨l, ys, e, ne, s _ _ h, al.imp fun _ _ ⟨p, e, h⟩ => ⟨p, e, s _ _ h⟩⟩
theorem grl_off (F : Nat → Nat → Int) (b : Int) (n : Nat) : OffL (GrL F b n) := fun D k v H ws zs ⟨l, ys, e, ne, h, al⟩ eD => ⟨l, ys, e, ne, by rw [upd_ne ne]; exact h, al.imp fun _ _ ⟨p, e, h⟩ => ⟨p, e, tu_lst eD _ _ h⟩⟩
theorem prb_row {b : Int} {H : Hp} (b0 : 0 < b) (bb : b.natAbs < 2 ^ 1000) {ys : List V} {ns : List Int} (al : All2 (PrB b H) ys ns) (hn : ∀ n ∈ ns, n.natAbs < 2 ^ 1000) : All2 (Rq H) ys (ns.map fun n => Rat.divInt n b) := by
  induction al with
  | nil => exact .nil
  | cons h _ ih =>
    obtain ⟨p, rfl, hp⟩ := h
    exact .cons ⟨_, b, .pair (.inr hp) b0, ⟨hn _ List.mem_cons_self, bb⟩, rfl⟩ (ih fun n h => hn n (List.mem_cons_of_mem _ h))
def numF (L : List En) (i j : Nat) : Int := (cf L i j).num
theorem numF_of {L : List En} {i j : Nat} {n : Int} (h : cf L i j = (n : Rat)) : numF L i j = n := by
  unfold numF
  rw [h]
  rfl
def gridN (L : List En) (b : Int) (h w : Nat) : List (List Rat) := (List.range h).map fun i => ((List.range w).map (numF L i)).map fun n => Rat.divInt n b
theorem cf2_gridN {L : List En} {b : Int} {h w N : Nat} (bI : BI N L) (h1 : ∀ x ∈ L, x.1.1 < h) (w1 : ∀ x ∈ L, x.1.2 < w) (i j : Nat) : cf2 (gridN L b h w) i j = cf L i j / (b : Rat) := by
  unfold gridN
  rw [cf2_grid]
  have out : ¬ (i < h ∧ j < w) → cf L i j = 0 := fun n => cf_out fun z => by
    obtain ⟨x, hx, e⟩ := List.mem_map.mp z
    have a := h1 x hx
    have c := w1 x hx
    rw [e] at a c
    exact n ⟨a, c⟩
  split
  · rename_i hi
    rw [List.map_map, co_range]
    split
    · obtain ⟨n, e, _⟩ := bI i j
      show Rat.divInt (numF L i j) b = _
      rw [numF_of e, e, Rat.divInt_eq_div]
    · rename_i hj
      rw [out (fun z => hj z.2), Rat.div_def, Rat.zero_mul]
  · rename_i hi
    rw [out (fun z => hi z.1), Rat.div_def, Rat.zero_mul]
theorem ok_plane_of_numbers (T : Txt K mg) (TP : PlaneT K mg) : FnOk P w K mg base CX0 10 (fA mg "_plane_of_numbers") (fDat K (fA mg "_plane_of_numbers")) ["numbers", "below"] (spPN mg) := by
  have GPlane_init := ok_Plane_init (P := P) (w := w) (base := base) T TP
  refine T._plane_of_numbers.F.ok sc_plane_of_numbers (fun vs H Q E h => ?_) (fun cdv A outer s H vs Q E hr h => ?_)
  · obtain ⟨d, L, b, N, rfl, _⟩ := h
    rfl
  obtain ⟨d, L, b, N, rfl, ⟨kvs, ed, de⟩, hb, b0, bb, bI, hN, q⟩ := h
  refine ⟨_, (pss_cons (ps_set (i := 2) sc_plane_of_numbers.nd rfl (Or.inl rfl) (pe_callBK (cr_maxDef rfl) (by rfl) T.max (by decide +kernel) (pa_cons (pe_lockEO (pe_lc (own := [("i", 3), ("_", 4)]) (g := gTup K 2 (gCons (gName 3) (gCons (gName 4) gNil))) (tt := tYes) (by rfl) sc_plane_of_numbers.nd (pi_keys (pv 0)) (blkOk_by (own := [("i", 3), ("_", 4)]) (N := ["numbers", "below", "high", "i", "_", "wide", "j"]) (sc := defScope s_plane_of_numbers) (by decide +kernel)) (fun _ _ _ _ _ => pg_tup rfl (pgs_cons (pg_name (i := 3) sc_plane_of_numbers.nd rfl (Or.inl rfl)) (pgs_cons (pg_name (i := 4) sc_plane_of_numbers.nd rfl (Or.inl rfl)) pgs_nil))) (fun _ _ _ _ _ => pts_nil) (fun _ _ _ _ _ => (pv 3)))) pa_nil) (pk_cons (pe_un un_neg pe_int) pk_nil)))
  (pss_cons (ps_set (i := 5) sc_plane_of_numbers.nd rfl (Or.inr rfl) (pe_callBK (cr_maxDef rfl) (by rfl) T.max (by decide +kernel) (pa_cons (pe_lockEO (pe_lc (own := [("_", 4), ("j", 6)]) (g := gTup K 2 (gCons (gName 4) (gCons (gName 6) gNil))) (tt := tYes) (by rfl) sc_plane_of_numbers.nd (pi_keys (pv 0)) (blkOk_by (own := [("_", 4), ("j", 6)]) (N := ["numbers", "below", "high", "i", "_", "wide", "j"]) (sc := defScope s_plane_of_numbers) (by decide +kernel)) (fun _ _ _ _ _ => pg_tup rfl (pgs_cons (pg_name (i := 4) sc_plane_of_numbers.nd rfl (Or.inl rfl)) (pgs_cons (pg_name (i := 6) sc_plane_of_numbers.nd rfl (Or.inl rfl)) pgs_nil))) (fun _ _ _ _ _ => pts_nil) (fun _ _ _ _ _ => (pv 6)))) pa_nil) (pk_cons (pe_un un_neg pe_int) pk_nil)))
  (pss_one (ps_ret (pe_make TP.mkc GPlane_init (hr.mono (by decide)) (by rfl) TP.g TP.m_init.b .nil passL (pa_cons (pe_lc (own := [("i", 3)]) (g := gName 3) (tt := tYes) (by rfl) sc_plane_of_numbers.nd (pi_range1 (by rfl) T.range (pa_cons (pe_op op_add (pv 2) pe_int) pa_nil)) (blkOk_by (own := [("i", 3)]) (N := ["numbers", "below", "high", "i", "_", "wide", "j"]) (sc := defScope s_plane_of_numbers) (by decide +kernel)) (fun _ _ _ _ _ => pg_name (i := 3) sc_plane_of_numbers.nd rfl (Or.inr rfl)) (fun _ _ _ _ _ => pts_nil) (fun _ _ _ _ _ => (pe_lc (own := [("j", 6)]) (g := gName 6) (tt := tYes) (by rfl) sc_plane_of_numbers.nd (pi_range1 (by rfl) T.range (pa_cons (pe_op op_add (pv 5) pe_int) pa_nil)) (blkOk_in (own := [("j", 6)]) (N := ["numbers", "below", "high", "i", "_", "wide", "j"]) (defScope s_plane_of_numbers) rfl (by decide +kernel)) (fun _ _ _ _ _ => pg_name (i := 6) sc_plane_of_numbers.nd rfl (Or.inl rfl)) (fun _ _ _ _ _ => pts_nil) (fun _ _ _ _ _ => (pe_tup (pa_cons (pe_dget2 (hu_of hr) (pv 0) (pe_tup (pa_cons (pv 3) (pa_cons (pv 6) pa_nil))) pe_int ⟨by rfl, by rfl, by rfl, by rfl⟩) (pa_cons (pv 1) pa_nil))))))) pa_nil)))))), ?_⟩
  have lL : L.length ≤ 300 := Nat.le_trans (keys_len (g := 16) de.2 hb) (by decide)
  refine q_asg (v_maxG (f := fun e => e.1.1) rfl ed de lL (fun x H' => ⟨rfl, val_var rfl⟩) fun ht H1 s1 h1 h2 => ?_)
  refine q_asg (v_maxG (f := fun e => e.1.2) rfl (s1 _ _ ed) de lL (fun x H' => ⟨rfl, val_var rfl⟩) fun wd H2 s2 w1 w2 => ?_)
  have hh : ht ≤ 17 := by
    rcases h2 with rfl | ⟨x, hx, e⟩
    · omega
    · have := hb x hx
      omega
  have hw : wd ≤ 17 := by
    rcases w2 with rfl | ⟨x, hx, e⟩
    · omega
    · have := hb x hx
      omega
  have s12 := s1.trans s2
  have ed2 := s12 _ _ ed
  refine r_ret (va_1 (d_lcR (n := ht) (R := GrL (numF L) b wd) (grl_st _ _ _) (grl_off _ _ _) (va_cons (Val.is (v_add (val_var rfl) val_c) (congrArg V.int (show (ht : Int) - 1 + 1 = (ht : Int) by omega))) va_nil) (by omega) (fun D i H3 hi s3 eD => turn_name rfl fun Q' q' => ?_) (fun p zs H3 s3 np e3 r3 => ?_)))
  · obtain ⟨ys, eD⟩ := eD
    refine d_lcR (n := wd) (R := IQ (numF L i) b) (iq_st _ _) (iq_off _ _) (va_cons (Val.is (v_add (val_var rfl) val_c) (congrArg V.int (show (wd : Int) - 1 + 1 = (wd : Int) by omega))) va_nil) (by omega) (fun D2 j H4 hj s4 _ => turn_name rfl fun Q2 q2 => ?_) (fun l2 ws H4 s4 n4 e4 r4 => q' _ H4 s4 ⟨l2, ws, rfl, ne_of_some eD n4, e4, iq_all r4⟩)
    obtain ⟨i0, hget, hc0⟩ := de.get (i, j)
    refine tup_two (em_get2 (k := (i, j)) (val_var rfl) (s4 _ _ (s3 _ _ ed2)) (val_var rfl) (val_var rfl) hget _ fun w5 H5 s5 ew => (val_var rfl) _ ⟨by decide, fun p hp => q2 _ _ (s5.trans (Same.new' hp)) ⟨p, rfl, ?_⟩⟩)
    rw [upd_same, ew, numF_of hc0]
  · refine made_plane (R := gridN L b ht wd) ⟨p, zs, rfl, .inl e3, by rw [r3.2]; omega, All2.mk (by unfold gridN; rw [r3.2, List.length_map, List.length_range]) fun i v r hv hr2 => ?_⟩ fun c H' s' pc _ => q c H' _ ((s12.trans s3).trans s') pc fun i j => by rw [cf2_planeR]; exact cf2_gridN bI h1 w1 i j
    have hi : i < ht := by rw [← r3.2]; exact (List.getElem?_eq_some_iff.mp hv).1
    obtain ⟨l, ys, rfl, _, el, al⟩ := r3.1.get hv
    rw [Nat.zero_add] at al
    unfold gridN at hr2
    rw [List.getElem?_map, List.getElem?_range hi] at hr2
    cases hr2
    refine ⟨l, ys, rfl, .inl el, by rw [al.len, List.length_map, List.length_range]; omega, prb_row b0 bb al fun n hn => ?_⟩
    obtain ⟨j, _, rfl⟩ := List.mem_map.mp hn
    obtain ⟨n2, e2, b2⟩ := bI i j
    rw [numF_of e2]
    exact Nat.lt_of_le_of_lt b2 hN
end
end LW

namespace LW
open PySem PySem.Spec PyProof.Rows L2 GL
section
variable {P : Program} {w : World} {K : PySem.W.Frag} {mg : Str → Option Value} {base : Heap}
/-! ### the value of what was moved -/
theorem cast_pow (b : Int) : ∀ m : Nat, ((b ^ m : Int) : Rat) = rp (b : Rat) m
  | 0 => by rw [Int.pow_zero]; rfl
  | m + 1 => by rw [Int.pow_succ, Rat.intCast_mul, cast_pow b m]; rfl
theorem rts_cons (z : Int) (r : List Int) : rts (z :: r) = (z : Rat) :: rts r := rfl
theorem scl_math {bot : Int} {U u : Rat} (h : U = (bot : Rat) * u) : ∀ (m : Nat) (zs : List Int), zs.length ≤ m + 1 → peval (rts (scl bot m zs)) U = rp (bot : Rat) m * peval (rts zs) u
  | m, [], _ => by
    show (0 : Rat) = _ * 0
    rw [Rat.mul_zero]
  | m, z :: r, hl => by
    show peval (rts (z * bot ^ m :: scl bot (m - 1) r)) U = rp (bot : Rat) m * peval (rts (z :: r)) u
    rw [rts_cons, rts_cons, peval_cons, peval_cons, Rat.intCast_mul, cast_pow]
    cases r with
    | nil =>
      show (z : Rat) * _ + U * 0 = _ * ((z : Rat) + u * 0)
      grind
    | cons z2 r2 =>
      obtain ⟨k, rfl⟩ : ∃ k, m = k + 1 := ⟨m - 1, by have : r2.length + 1 + 1 ≤ m + 1 := hl; omega⟩
      have ih := scl_math h k (z2 :: r2) (by have : r2.length + 1 + 1 ≤ k + 1 + 1 := hl; show r2.length + 1 ≤ k + 1; omega)
      show (z : Rat) * _ + U * peval (rts (scl bot k (z2 :: r2))) U = _
      rw [ih, rp_succ, h]
      grind
theorem inL_math {bot : Int} {U u O o : Rat} (h : U = (bot : Rat) * u) (h2 : O = (bot : Rat) * o) : ∀ (m : Nat) (Z : List (List Int)), Z.length ≤ m + 1 → (∀ i zs, Z[i]? = some zs → zs.length ≤ m + 1 - i) →
    peval (inL bot U m Z) O = rp (bot : Rat) m * peval (Z.map fun zs => peval (rts zs) u) o
  | m, [], _, _ => by
    show (0 : Rat) = _ * 0
    rw [Rat.mul_zero]
  | m, zs :: Z, hl, hz => by
    have z0 := hz 0 zs rfl
    show peval (rts (scl bot m zs)) U + O * peval (inL bot U (m - 1) Z) O = rp (bot : Rat) m * (peval (rts zs) u + o * peval (Z.map fun zs => peval (rts zs) u) o)
    rw [scl_math h m zs (by omega)]
    cases Z with
    | nil =>
      show _ + O * 0 = _ * (_ + o * 0)
      grind
    | cons z2 Z2 =>
      obtain ⟨k, rfl⟩ : ∃ k, m = k + 1 := ⟨m - 1, by have : Z2.length + 1 + 1 ≤ m + 1 := hl; omega⟩
      have ih := inL_math h h2 k (z2 :: Z2) (by have : Z2.length + 1 + 1 ≤ k + 1 + 1 := hl; show Z2.length + 1 ≤ k + 1; omega) (fun i zs hi => by
        have := hz (i + 1) zs hi
        omega)
      show _ + O * peval (inL bot U k (z2 :: Z2)) O = _
      rw [ih, rp_succ, h2]
      grind
theorem rows_math {D0 : Nat} {R : List (List Rat)} (dd : ∀ r ∈ R, ∀ q ∈ r, q.den ∣ D0) (o u : Rat) : peval ((R.map (tops D0)).map fun zs => peval (rts zs) u) o = (D0 : Rat) * evP R o u := by
  unfold evP
  rw [← peval_mul]
  congr 1
  rw [List.map_map, List.map_map]
  refine List.map_congr_left fun r hr => ?_
  show peval (rts (tops D0 r)) u = (D0 : Rat) * peval r u
  unfold rts
  rw [cast_tops (dd r hr), peval_mul]
/-- rows whose numbers are a dict's over one bottom: their values -/
theorem ev_over {L : List En} {R : List (List Rat)} {D M g : Nat} {c : Rat} (h : ∀ i j, cf2 R i j = cf L i j / c) (n : Nice D M g R) (cn : Can R) (dg : ∀ e ∈ L, e.1.1 + e.1.2 ≤ g) (x y : Rat) : evP R x y = evL L x y / c := by
  rw [evL_box (N := g) (fun e he => by have := dg e he; omega), evP_box (N := g) (k := g + 1) ⟨n.lenR cn, fun r hr => n.lenM cn hr⟩ (Nat.le_refl _)]
  unfold ev2
  rw [Rat.div_def, Rat.mul_comm, ← rs_mulL]
  refine rs_congr fun p _ => ?_
  show cf2 R p.1 p.2 * _ = c⁻¹ * (cf L p.1 p.2 * _)
  rw [h, Rat.div_def]
  grind
end
end LW

namespace LW
open PySem PySem.Spec PyProof.Rows L2 GL
section
variable {P : Program} {w : World} {K : PySem.W.Frag} {mg : Str → Option Value} {base : Heap}
inductive RwQ (H : Hp) (n : Nat) : V → Bool → Prop
  | odd {v : V} {k : String} (h : Is H v k) (n1 : k ≠ "list") (n2 : k ≠ "tuple") : RwQ H n v false
  | seq {a : Addr} {xs : List V} {bs : List Bool} (h : Sq H a xs) (l : xs.length ≤ 1000) (r : All2 (RatQ H) xs bs) : RwQ H n (.ref a) (bs.all id && decide (xs.length = n))
theorem RwQ.same {H H' : Hp} {n : Nat} {v : V} {b : Bool} (h : RwQ H n v b) (s : L2.Same H H') : RwQ H' n v b := by
  cases h with
  | odd h n1 n2 => exact .odd (h.same s) n1 n2
  | seq h l r => exact .seq (h.same s) l (r.imp fun _ _ q => q.same s)
def spRowN : Sp := fun vs H Q _ => ∃ (v : V) (n : Nat) (b : Bool), vs = [v, .int (n : Int)] ∧ RwQ H n v b ∧ ∀ H', L2.Same H H' → Q (.bl b) H'
theorem ok_is_row_ofN (T : Txt K mg) : FnOk P w K mg base CX0 6 (fA mg "is_row_of") (fDat K (fA mg "is_row_of")) ["value", "many"] spRowN := by
  have Gis_row := ok_is_row (P := P) (w := w) (base := base) T
  refine T.is_row_of.F.ok scis_row_of (fun vs H Q E h => ?_) (fun cdv A outer s H vs Q E hr h => ?_)
  · obtain ⟨v, n, b, rfl, _⟩ := h
    rfl
  obtain ⟨v, n, b, rfl, hR, k⟩ := h
  refine ⟨_, (pss_one (ps_ret (pe_and (pe_c T.is_row Gis_row (hr.mono (by decide)) (pa_cons (pv 0) pa_nil)) (pe_one (pe_cmpR op_eq (pe_callB call_len_seq (by rfl) T.len PySem.boot_len (pa_cons (pv 0) pa_nil)) (pv 1) (nomark _)))))), ?_⟩
  refine r_ret ?_
  cases hR with
  | odd h n1 n2 => exact c_call (va_cons (val_var rfl) va_nil) ⟨_, rfl, .inl ⟨_, h, n1, n2, fun H1 s1 => ⟨_, rfl, iteF (k H1 s1)⟩⟩⟩
  | @seq a xs bs h l r =>
    refine c_call (va_cons (val_var rfl) va_nil) ⟨_, rfl, .inr ⟨_, _, _, rfl, h, l, r, fun H1 s1 => ⟨_, rfl, ?_⟩⟩⟩
    cases hb : bs.all id with
    | false =>
      rw [hb] at k
      exact iteF (k H1 s1)
    | true =>
      rw [hb] at k
      refine iteT ((v_eq (v_len (val_var rfl) (h.same s1).sq) (val_var rfl) rfl) _ ?_)
      have e : decide ((V.int (xs.length : Int)) = V.int (n : Int)) = (true && decide (xs.length = n)) := by
        rw [Bool.true_and]
        refine decide_eq_decide.mpr ⟨fun z => ?_, fun z => by rw [z]⟩
        have := V.int.inj z
        omega
      rw [e]
      exact k H1 s1
def spWholeL : Sp := fun vs H Q _ => ∃ (t : Addr) (xs : List Rat) (B : Nat), vs = [.ref t] ∧ LosL H t xs ∧ Sms 1000 xs ∧ 0 < B ∧ B < 2 ^ 1000 ∧ (∀ q ∈ xs, q.den ∣ B) ∧ xs.length ≤ 1000 ∧ ∀ (p l : Addr) (D : Nat) (H' : Hp), Same H H' → 0 < D → D ∣ B → (∀ q ∈ xs, q.den ∣ D) → H' p = some (.tup [.ref l, .int (D : Int)]) → H' l = some (.lst ((tops D xs).map V.int)) → Q (.ref p) H'
theorem ok_whole_rowL (T : Txt K mg) : FnOk P w K mg base CX0 3 (fA mg "whole_row") (fDat K (fA mg "whole_row")) ["pairs"] spWholeL := by
  have Gbottom_of := ok_bottom_of (P := P) (w := w) (base := base) T
  refine T.whole_row.F.ok scwhole_row (fun vs H Q E h => ?_) (fun cdv A outer s H vs Q E hr h => ?_)
  · obtain ⟨t, xs, n, rfl, _⟩ := h
    rfl
  obtain ⟨t, xs, B, rfl, ⟨vs, e, al⟩, sm, B0, Bb, bd, hl, k⟩ := h
  refine ⟨_, (pss_cons (ps_set (i := 1) scwhole_row.nd rfl (Or.inr rfl) (pe_c T.bottom_of Gbottom_of (hr.mono (by decide)) (pa_cons (pv 0) pa_nil)))
  (pss_one (ps_ret (pe_tup (pa_cons (pe_lc (own := [("top", 2), ("bottom", 3)]) (g := gTup K 2 (gCons (gName 2) (gCons (gName 3) gNil))) (tt := tYes) (by rfl) scwhole_row.nd (pi_list (pv 0)) (blkOk_by (own := [("top", 2), ("bottom", 3)]) (N := ["pairs", "below", "top", "bottom"]) (sc := defScope swhole_row) (by decide +kernel)) (fun _ _ _ _ _ => pg_tup rfl (pgs_cons (pg_name (i := 2) scwhole_row.nd rfl (Or.inl rfl)) (pgs_cons (pg_name (i := 3) scwhole_row.nd rfl (Or.inl rfl)) pgs_nil))) (fun _ _ _ _ _ => pts_nil) (fun _ _ _ _ _ => (pe_op op_mulW (pv 2) (pe_op op_fdivW (pv 1) (pv 3))))) (pa_cons (pv 1) pa_nil)))))), ?_⟩
  refine q_asg (c_call (va_cons (val_var rfl) va_nil) ⟨t, xs, B, rfl, ⟨vs, .inl e, al⟩, B0, Bb, bd, by omega, fun D H1 s1 d0 dl dd => ?_⟩)
  refine r_ret (tup_two ?_)
  have al1 := al.imp fun v q (h : ∃ p, v = V.ref p ∧ Lo H p q) => (⟨h.choose, h.choose_spec.1, h.choose_spec.2.same s1⟩ : ∃ p, v = V.ref p ∧ Lo H1 p q)
  refine l_lcL (R := fun i v _ => ∃ b, (tops D xs)[i]? = some b ∧ v = V.int b) (fun _ _ _ _ _ h => h) (fun _ _ _ _ _ _ h _ => h) (val_var rfl) (SqL.of (s1 _ _ e)) (by rw [al.len]; omega) (fun i v H2 hv s2 => ?_) (fun p ys H2 s2 e2 r2 => ?_)
  · obtain ⟨q, hq, p, rfl, lo⟩ := al1.get hv
    have sq := sm q (get_mem hq)
    have fn := (sq.fit (by omega)).1
    have fd := (sq.fit (by omega)).2
    have dpos := q.den_pos
    have fD : ((D / q.den : Nat) : Int).natAbs < 2 ^ 1000 := by rw [Int.natAbs_natCast]; exact Nat.lt_of_le_of_lt (Nat.le_trans (Nat.div_le_self _ _) (Nat.le_of_dvd B0 dl)) Bb
    refine turn_two (SqT.of (lo.same s2)) rfl (em_val (v := .int (q.num * ((D / q.den : Nat) : Int))) (v_mul (val_var rfl) (Val.is (GL.v_div (i := (D : Int)) (j := (q.den : Int)) (val_var rfl) (val_var rfl) (wide_div (b := 1000) (by omega) fd (by decide) (by decide))) (by rw [Int.natCast_ediv])) (fit_mul fn fD)) ⟨_, ?_, rfl⟩)
    unfold tops
    rw [List.getElem?_map, hq]
    rfl
  · refine val_var rfl _ ⟨by show 2 ≤ sizeLine; decide, fun p2 hp2 => ?_⟩
    have s3 := Same.new' (o := .tup [.ref p, .int (D : Int)]) hp2
    refine k p2 p D _ ((s1.trans s2).trans s3) d0 dl dd upd_same ?_
    rw [al.len] at r2
    rw [← rows_map r2 (by unfold tops; rw [List.length_map])]
    exact s3 _ _ e2

/-- a plane with both letters put as lines -/
def spMv (mg : Str → Option Value) : Sp := fun vs H Q _ => ∃ (a m1 m2 : Addr), vs = [.ref a, .ref m1, .ref m2] ∧ ∃ (x1 x2 x3 x4 y1 y2 : V) (R : List (List Rat)) (q1 q2 q3 q4 s1 s2 : Rat) (D M d Δ lam : Nat), PnAt (pnA mg) H a R ∧ Sq H m1 [x1, x2, x3, x4] ∧ Sq H m2 [y1, y2] ∧ Rq H x1 q1 ∧ Rq H x2 q2 ∧ Rq H x3 q3 ∧ Rq H x4 q4 ∧ Rq H y1 s1 ∧ Rq H y2 s2 ∧
  Nice D M d R ∧ Fz D M ∧ d ≤ 16 ∧ Bds Δ lam [q1, q2, q3, q4, s1, s2] ∧ Sms 1000 [q1, q2, q3, q4, s1, s2] ∧ 1 ≤ lam ∧ 1 ≤ M ∧ 0 < Δ ∧ Δ < 2 ^ 1000 ∧ 300 * (M * D * (3 * (lam * Δ)) ^ (d + 1)) < 2 ^ 1000 ∧
  ∀ c H' R', L2.Same H H' → PnAt (pnA mg) H' c R' → Nice (D * Δ ^ d) (300 * (M * (3 * lam) ^ d)) d R' → (∀ x y, evP R' x y = evP R (q1 * x + q2 * y + s1) (q3 * x + q4 * y + s2)) → Q (.ref c) H'
theorem lc_in {ti te : TE} {g : TG} {tt : TT} {vs : List Nat} {σ : L2.St} {H : Hp} {Q : VK} (h : ti σ H fun x H1 => tLc (iList K (tC x)) g tt te vs σ H1 Q) : tLc (iList K ti) g tt te vs σ H Q := h
theorem star_in {te : TE} {t : TA} {σ : L2.St} {H : Hp} {Q : List V → Hp → Prop} (h : te σ H fun x H1 => ∃ p xs, x = V.ref p ∧ (SqT K H1 p xs ∨ SqL K H1 p xs) ∧ t σ H1 fun ys H2 => Q (xs ++ ys) H2) : StX.tStar K te t σ H Q := h
theorem st_two {i j : Nat} {σ : L2.St} {H : Hp} {x y : Addr} {xs ys : List V} {Q : VK} (h1 : σ[i]? = some (some (.ref x))) (h2 : σ[j]? = some (some (.ref y))) (e1 : Sq H x xs) (e2 : Sq H y ys) (l : (xs ++ ys).length ≤ sizeLine) (k : ∀ q, H q = none → Q (.ref q) (upd H q (.lst (xs ++ ys)))) : tLst (StX.tStar K (tVar i) (StX.tStar K (tVar j) tNil)) σ H Q := by
  refine l_s (star_in ((val_var h1) _ ⟨x, xs, rfl, e1.sq.symm, star_in ((val_var h2) _ ⟨y, ys, rfl, e2.sq.symm, ?_⟩)⟩))
  show (xs ++ (ys ++ [])).length ≤ sizeLine ∧ ∀ q, H q = none → Q (.ref q) (upd H q (.lst (xs ++ (ys ++ []))))
  rw [List.append_nil]
  exact ⟨l, k⟩
theorem tops_of {B : Nat} {q : Rat} (h : q.den ∣ B) : ((q.num * ((B / q.den : Nat) : Int) : Int) : Rat) = (B : Rat) * q := by
  have := cast_tops (D := B) (xs := [q]) (fun r hr => by rw [List.mem_singleton.mp hr]; exact h)
  exact (List.cons.inj this).1
theorem cb_in {r : List V → Hp → VK → Prop} {ta : TA} {σ : L2.St} {H : Hp} {Q : VK} (h : ta σ H fun vs H1 => r vs H1 Q) : tCB r ta σ H Q := h
theorem lnV_tops {B : Nat} {p q r : Rat} (h1 : p.den ∣ B) (h2 : q.den ∣ B) (h3 : r.den ∣ B) (x y : Rat) : lnV (p.num * ((B / p.den : Nat) : Int)) (q.num * ((B / q.den : Nat) : Int)) (r.num * ((B / r.den : Nat) : Int)) x y = (((B : Nat) : Int) : Rat) * (p * x + q * y + r) := by
  unfold lnV
  rw [tops_of h1, tops_of h2, tops_of h3]
  show _ = (B : Rat) * _
  grind
theorem deg_nat {R : List (List Rat)} {D M d : Nat} {dg : Int} (n : Nice D M d R) (h : IsDeg (cf2 R) dg) : ∃ m : Nat, (if (0 : Int) > dg then 0 else dg) = (m : Int) ∧ m ≤ d ∧ ∀ i j, m < i + j → cf2 R i j = 0 := by
  rcases h with ⟨rfl, z⟩ | ⟨i, j, nz, rfl, z⟩
  · exact ⟨0, rfl, Nat.zero_le _, fun i j _ => z i j⟩
  · refine ⟨i + j, by rw [if_neg (by omega)]; omega, ?_, fun i' j' h => ?_⟩
    · rcases Nat.lt_or_ge d (i + j) with lt | ge
      · exact (nz (n.dg i j lt)).elim
      · exact ge
    · refine Decidable.byContradiction fun y => ?_
      have := z i' j' y
      omega
theorem pdl {a b : Nat} (h : a ∣ b) : ∀ n : Nat, a ^ n ∣ b ^ n
  | 0 => Nat.dvd_refl _
  | n + 1 => Nat.mul_dvd_mul (pdl h n) h
theorem size8 {M D0 lam B m d : Nat} (h : m ≤ d) (l : 1 ≤ lam) : 300 * (M * D0 * (3 * (lam * B)) ^ m) ≤ 300 * (M * (3 * lam) ^ d) * (D0 * B ^ m) := by
  rw [← Nat.mul_assoc 3 lam B, Nat.mul_pow]
  have h2 : (3 * lam) ^ m ≤ (3 * lam) ^ d := Nat.pow_le_pow_right (by omega) h
  generalize (3 * lam) ^ m = X at h2 ⊢
  generalize (3 * lam) ^ d = Y at h2 ⊢
  generalize B ^ m = P
  have e : 300 * (M * D0 * (X * P)) = 300 * (M * X) * (D0 * P) := by ac_rfl
  rw [e]
  exact Nat.mul_le_mul_right _ (Nat.mul_le_mul_left _ (Nat.mul_le_mul_left _ h2))
theorem div8 {r d c V : Rat} (h : c = d * r) (n : c ≠ 0) : r * (d * V) / c = V := by
  have e : r * (d * V) = V * c := by rw [h]; grind
  rw [e, Rat.div_def, Rat.mul_assoc, Rat.mul_inv_cancel _ n, Rat.mul_one]
theorem ok_Plane_moved (T : Txt K mg) (TP : PlaneT K mg) : FnOk P w K mg base (L2.CX P w) 11 (mA K (pnA mg) "moved") (fDat K (mA K (pnA mg) "moved")) ["self", "matrix", "shift"] (spMv mg) := by
  have Gis_row_of := ok_is_row_ofN (P := P) (w := w) (base := base) T
  have Gis_place := ok_is_place (P := P) (w := w) (base := base) T
  have Gi_BadRow := init_BadRow (P := P) (w := w) (base := base) T
  have Gtold := ok_told (P := P) (w := w) (base := base) T
  have Gwhole_row := ok_whole_rowL (P := P) (w := w) (base := base) T
  have Gwhole_rows := ok_whole_rows (P := P) (w := w) (base := base) T
  have Gmoved_whole := ok_moved_whole (P := P) (w := w) (base := base) T
  have GPlane_degree := ok_Plane_degree (P := P) (w := w) (base := base) T TP
  have G_plane_of_numbers := ok_plane_of_numbers (P := P) (w := w) (base := base) T TP
  refine TP.m_moved.F.okX scPlane_moved (fun vs H Q E h => ?_) (fun cdv A outer s H vs Q E hr h => ?_)
  · obtain ⟨a, m1, m2, rfl, _⟩ := h
    rfl
  obtain ⟨a, m1, m2, rfl, x1, x2, x3, x4, y1, y2, R, q1, q2, q3, q4, s1, s2, D, M, d, Δ, lam, pa, e1, e2, r1, r2, r3, r4, r5, r6, nR, fz, hd, bds, hsm, lam1, M1, Δ0, Δb, sz, k⟩ := h
  refine ⟨_, (pss_cons (ps_if (pt_not (pt_val (pe_c T.is_row_of Gis_row_of (hr.mono (by decide)) (pa_cons (pv 1) (pa_cons pe_int pa_nil))))) (pss_one (ps_raise rfl (takes_of rfl rfl rfl rfl) (pmk_oex T.BadRow.o T.BadRow.i T.BadRow.t Gi_BadRow (hr.mono (by decide)) T.BadRow.b .nil pass0 (by rfl) T.BadRow.g (pa_cons (pv 1) pa_nil)))) pss_nil)
  (pss_cons (ps_if (pt_not (pt_val (pe_c T.is_place Gis_place (hr.mono (by decide)) (pa_cons (pv 2) pa_nil)))) (pss_one (ps_raise rfl (takes_of rfl rfl rfl rfl) (pmk_oex T.BadRow.o T.BadRow.i T.BadRow.t Gi_BadRow (hr.mono (by decide)) T.BadRow.b .nil pass0 (by rfl) T.BadRow.g (pa_cons (pv 2) pa_nil)))) pss_nil)
  (pss_cons (ps_setLc (i := 3) (own := [("number", 4)]) (g := gName 4) (tt := tYes) (by rfl) scPlane_moved.nd rfl rfl (sw_true rfl rfl rfl (by decide +kernel)) (pi_list (pe_lst (StX.pa_star (pv 1) (StX.pa_star (pv 2) pa_nil)))) (blkOk_by (own := [("number", 4)]) (N := ["self", "matrix", "shift", "parts", "number", "a", "b", "c", "d", "e", "f", "bottom", "rows", "below", "numbers", "scale"]) (sc := defScope sPlane_moved) (by decide +kernel)) (fun _ _ _ _ _ => pg_name (i := 4) scPlane_moved.nd rfl (Or.inl rfl)) (fun _ _ _ _ _ => pts_nil) (fun _ _ _ _ _ => (pe_call Gtold (hr.mono (by decide)) (by rfl) T.told.g T.told.F.kp T.told.b .nil passL (pa_cons (pv 4) (pa_cons pe_str pa_nil)))))
  (pss_cons (ps_asg (pe_c T.whole_row Gwhole_row (hr.mono (by decide)) (pa_cons (pv 3) pa_nil)) (pg_tup rfl (pgs_cons (pg_unl rfl (pgs_cons (pg_name (i := 5) scPlane_moved.nd rfl (Or.inl rfl)) (pgs_cons (pg_name (i := 6) scPlane_moved.nd rfl (Or.inl rfl)) (pgs_cons (pg_name (i := 7) scPlane_moved.nd rfl (Or.inl rfl)) (pgs_cons (pg_name (i := 8) scPlane_moved.nd rfl (Or.inl rfl)) (pgs_cons (pg_name (i := 9) scPlane_moved.nd rfl (Or.inl rfl)) (pgs_cons (pg_name (i := 10) scPlane_moved.nd rfl (Or.inl rfl)) pgs_nil))))))) (pgs_cons (pg_name (i := 11) scPlane_moved.nd rfl (Or.inl rfl)) pgs_nil))))
  (pss_cons (ps_asg (pe_c T.whole_rows Gwhole_rows (hr.mono (by decide)) (pa_cons (pe_fld (pv 0) (by rfl)) pa_nil)) (pg_tup rfl (pgs_cons (pg_name (i := 12) scPlane_moved.nd rfl (Or.inl rfl)) (pgs_cons (pg_name (i := 13) scPlane_moved.nd rfl (Or.inl rfl)) pgs_nil))))
  (pss_cons (ps_asg (pe_c T.moved_whole Gmoved_whole (hr.mono (by decide)) (pa_cons (pv 12) (pa_cons (pe_tup (pa_cons (pv 5) (pa_cons (pv 6) (pa_cons (pv 9) pa_nil)))) (pa_cons (pe_tup (pa_cons (pv 7) (pa_cons (pv 8) (pa_cons (pv 10) pa_nil)))) (pa_cons (pv 11) (pa_cons (pe_callB (call_max2 rfl) (by rfl) T.max (by decide +kernel) (pa_cons (pe_meth0 (pv 0) TP.cls TP.m_degree.meth GPlane_degree (hr.mono (by decide)) TP.m_degree.b .nil pass0) (pa_cons pe_int pa_nil))) pa_nil)))))) (pg_tup rfl (pgs_cons (pg_name (i := 14) scPlane_moved.nd rfl (Or.inl rfl)) (pgs_cons (pg_name (i := 15) scPlane_moved.nd rfl (Or.inl rfl)) pgs_nil))))
  (pss_one (ps_ret (pe_c T._plane_of_numbers G_plane_of_numbers (hr.mono (by decide)) (pa_cons (pv 14) (pa_cons (pe_op op_mulW (pv 13) (pv 15)) pa_nil))))))))))), ?_⟩
  obtain ⟨dx, t, ea, los, cR⟩ := pa
  have rqs : All2 (Rq H) [x1, x2, x3, x4] [q1, q2, q3, q4] := .cons r1 (.cons r2 (.cons r3 (.cons r4 .nil)))
  have rq6 : All2 (Rq H) [x1, x2, x3, x4, y1, y2] [q1, q2, q3, q4, s1, s2] := .cons r1 (.cons r2 (.cons r3 (.cons r4 (.cons r5 (.cons r6 .nil)))))
  refine q_ifNot (c_call (va_cons (val_var rfl) (va_cons val_c va_nil)) ⟨.ref m1, 4, true, rfl, .seq (bs := [true, true, true, true]) e1 (by show 4 ≤ 1000; decide) (.cons r1.yes (.cons r2.yes (.cons r3.yes (.cons r4.yes .nil)))), fun H1 s1' => ⟨_, rfl, iteF ?_⟩⟩)
  have plr : PlR H1 (.ref m2) (s1, s2) := ⟨m2, y1, y2, rfl, e2.same s1', r5.same s1', r6.same s1'⟩
  refine q_ifNot (c_is_place (val_var rfl) plr.yes fun H2 s2' => ⟨_, rfl, iteF ?_⟩)
  have s12 := s1'.trans s2'
  refine q_asg (lc_in (st_two rfl rfl (e1.same s12) (e2.same s12) (by show 6 ≤ sizeLine; decide) fun l0 hl0 => ?_))
  have s3' := Same.new' (o := .lst ([x1, x2, x3, x4] ++ [y1, y2])) hl0
  refine d_lcL (R := Itm [q1, q2, q3, q4, s1, s2]) (itm_st _) (itm_off _) (val_c) (SqL.of upd_same) (by show 6 ≤ 10000; decide) (fun D i x H3 hx s4 eD => turn_name rfl fun Q2 q2' => ?_) (fun l1 ys H3 s4 nl e3 r3 => ?_)
  · obtain ⟨q, hq, rq⟩ := rq6.get hx
    exact c_told (va_cons (val_var rfl) (va_cons val_c va_nil)) (rq.same ((s12.trans s3').trans s4)) fun p H' s' lo => q2' _ H' s' ⟨p, q, rfl, hq, lo⟩
  have S3 := (s12.trans s3').trans s4
  have lol := itm_los e3 r3 rfl
  clear s1' s2' plr hl0 s3' s4 nl e3 r3 s12
  have dvd : ∀ q ∈ [q1, q2, q3, q4, s1, s2], q.den ∣ Δ := fun q hq => (bds q hq).1
  refine (show tSeq (tAsg _ _) _ _ _ _ from c_call (va_cons (val_var rfl) va_nil) ⟨l1, [q1, q2, q3, q4, s1, s2], Δ, rfl, lol, hsm, Δ0, Δb, dvd, by show 6 ≤ 1000; decide, fun pw lw B H4 s4 B0 Bd bd epw elw => ?_⟩)
  refine ⟨pw, _, rfl, SqT.of epw, rfl, _, _, rfl, ⟨lw, _, rfl, SqL.of elw, rfl, _, _, rfl, _, _, rfl, _, _, rfl, _, _, rfl, _, _, rfl, _, _, rfl, rfl, _, _, rfl, rfl, ?_⟩⟩
  have S4 := S3.trans s4
  refine q_two (call_one ((v_rows TP (val_var rfl) (S4 _ _ ea)) _ ⟨t, R, D, M, d, rfl, los.same S4, cR, nR, fz, by omega, fun pr lr D0 H5 s5 d00 dl dd epr lsW => g_two (SqT.of epr) ?_⟩))
  have S5 := S4.trans s5
  refine q_two (call_1 ((val_var rfl) _ (va_x (l_tup (va_cons (val_var rfl) (va_cons (val_var rfl) (va_cons (val_var rfl) va_nil))) (by show 3 ≤ 100000; decide) fun o1 ho1 => va_x (l_tup (va_cons (val_var rfl) (va_cons (val_var rfl) (va_cons (val_var rfl) va_nil))) (by show 3 ≤ 100000; decide) fun u1 hu1 => va_s (val_var rfl) (va_1 ?_))))))
  have s6 := Same.new' (o := .tup [.int (q1.num * ((B / q1.den : Nat) : Int)), .int (q2.num * ((B / q2.den : Nat) : Int)), .int (s1.num * ((B / s1.den : Nat) : Int))]) ho1
  have s7 := Same.new' (o := .tup [.int (q3.num * ((B / q3.den : Nat) : Int)), .int (q4.num * ((B / q4.den : Nat) : Int)), .int (s2.num * ((B / s2.den : Nat) : Int))]) hu1
  have S7 := (S5.trans s6).trans s7
  have pa7 : PnAt (pnA mg) _ a R := (show PnAt (pnA mg) H a R from ⟨dx, t, ea, los, cR⟩).same S7
  have lR := nR.lenR cR
  refine cb_in (va_x ((val_var rfl) _ ⟨a, dx, _, rfl, S7 _ _ ea, no_at "degree" (by decide +kernel), a, R, rfl, pa7, by omega, fun dg H8 s8 isd => va_s val_c ⟨dg, 0, rfl, ?_⟩⟩))
  obtain ⟨m, hme, md, mz⟩ := deg_nat nR isd
  rw [hme]
  have Dpos : 0 < D := fz.d0
  have D0D : D0 ≤ D := Nat.le_of_dvd Dpos dl
  have BΔ : B ≤ Δ := Nat.le_of_dvd Δ0 Bd
  have hZ : ∀ i zs, (R.map (tops D0))[i]? = some zs → zs.length ≤ m + 1 - i ∧ ∀ z ∈ zs, z.natAbs ≤ M * D0 := fun i zs hi => by
    rw [List.getElem?_map] at hi
    cases hr3 : R[i]? with
    | none => rw [hr3] at hi; cases hi
    | some r =>
      rw [hr3] at hi
      cases hi
      have rr := rowAt_some hr3
      refine ⟨?_, tops_bd (D := D0) d00 (Nat.dvd_refl _) (fun q hq => ⟨dd r (get_mem hr3) q hq, (nR.mem (get_mem hr3) q hq).2⟩) (dd r (get_mem hr3))⟩
      rw [tops_len]
      have := cR.rowL mz i
      rw [rr] at this
      omega
  have h6 : ∀ z ∈ tops B [q1, q2, q3, q4, s1, s2], z.natAbs ≤ lam * B := tops_bd (D := B) B0 (Nat.dvd_refl _) (fun q hq => ⟨bd q hq, (bds q hq).2⟩) bd
  have mem : ∀ {q : Rat}, q ∈ [q1, q2, q3, q4, s1, s2] → (q.num * ((B / q.den : Nat) : Int)).natAbs ≤ lam * B := fun {q} hq => h6 _ (List.mem_map.mpr ⟨q, hq, rfl⟩)
  have i1 : q1 ∈ [q1, q2, q3, q4, s1, s2] := by simp
  have i2 : q2 ∈ [q1, q2, q3, q4, s1, s2] := by simp
  have i3 : q3 ∈ [q1, q2, q3, q4, s1, s2] := by simp
  have i4 : q4 ∈ [q1, q2, q3, q4, s1, s2] := by simp
  have i5 : s1 ∈ [q1, q2, q3, q4, s1, s2] := by simp
  have i6 : s2 ∈ [q1, q2, q3, q4, s1, s2] := by simp
  have szm : 300 * (M * D0 * (3 * (lam * B)) ^ (m + 1)) < 2 ^ 1000 := by
    refine Nat.lt_of_le_of_lt (Nat.mul_le_mul_left _ (Nat.mul_le_mul (Nat.mul_le_mul_left _ D0D) (Nat.le_trans (Nat.pow_le_pow_left (Nat.mul_le_mul_left 3 (Nat.mul_le_mul_left lam BΔ)) (m + 1)) (Nat.pow_le_pow_right ?_ (by omega))))) sz
    have := Nat.mul_le_mul lam1 (show 1 ≤ Δ by omega)
    omega
  have μ1 : 1 ≤ M * D0 := Nat.mul_le_mul M1 (show 1 ≤ D0 by omega)
  refine ⟨lr, o1, u1, R.map (tops D0), _, _, _, _, _, _, (B : Int), m, M * D0, lam * B, rfl, lsW.same ((s6.trans s7).trans s8), s8 _ _ (s7 _ _ upd_same), s8 _ _ upd_same, fun i zs hi => (hZ i zs hi).1, by rw [List.length_map]; exact cR.len mz, by omega, by omega, ?_, fun zs hzs z hz => ?_, mem i1, mem i2, mem i5, mem i3, mem i4, mem i6, μ1, szm, fun tq p H9 M9 s9 etq dM degM bM vM => g_two (SqT.of etq) ?_⟩
  · rw [Int.natAbs_natCast]
    exact Nat.le_mul_of_pos_left _ (by omega)
  · obtain ⟨i, hi⟩ := List.getElem?_of_mem hzs
    exact (hZ i zs hi).2 z hz
  have X1 : 1 ≤ 3 * (lam * B) := by
    have := Nat.mul_le_mul lam1 (show 1 ≤ B by omega)
    omega
  have Bl : B ≤ 3 * (lam * B) := by
    have := Nat.mul_le_mul_right B lam1
    omega
  have pmm : (3 * (lam * B)) ^ m ≤ (3 * (lam * B)) ^ (m + 1) := Nat.pow_le_pow_right X1 (by omega)
  have Bm : B ^ m ≤ (3 * (lam * B)) ^ (m + 1) := Nat.le_trans (Nat.pow_le_pow_left Bl m) pmm
  have Nlt : 300 * (M * D0 * (3 * (lam * B)) ^ m) < 2 ^ 1000 := Nat.lt_of_le_of_lt (Nat.mul_le_mul_left _ (Nat.mul_le_mul_left _ pmm)) szm
  have lt0 : D0 * B ^ m < 2 ^ 1000 := by
    refine Nat.lt_of_le_of_lt (Nat.le_trans (Nat.mul_le_mul (Nat.le_mul_of_pos_left D0 M1) Bm) ?_) szm
    exact Nat.le_mul_of_pos_left _ (by decide)
  have Bp : 0 < B ^ m := Nat.pow_pos B0
  have lt1 : D0 < 2 ^ 1000 := Nat.lt_of_le_of_lt (Nat.le_mul_of_pos_right D0 Bp) lt0
  have lt2 : B ^ m < 2 ^ 1000 := Nat.lt_of_le_of_lt (Nat.le_mul_of_pos_left (B ^ m) d00) lt0
  have pos : 0 < D0 * B ^ m := Nat.mul_pos d00 Bp
  have cst : (D0 : Int) * (B : Int) ^ m = ((D0 * B ^ m : Nat) : Int) := by rw [Int.natCast_mul, Int.natCast_pow]
  refine r_ret (call_1 ((val_var rfl) _ (va_1 ((v_mul (val_var rfl) (val_var rfl) (fit_mul (by rw [Int.natAbs_natCast]; exact lt1) (by rw [← Int.natCast_pow, Int.natAbs_natCast]; exact lt2))) _ ?_))))
  rw [cst]
  refine ⟨p, M9, _, _, rfl, dM, fun x hx => by have := degM x hx; omega, by omega, by rw [Int.natAbs_natCast]; exact lt0, bM, Nlt, fun c H' R' s' pn cf' => ?_⟩
  have cR' : Can R' := by
    obtain ⟨_, _, _, _, c⟩ := pn
    exact c
  have dvd2 : D0 * B ^ m ∣ D * Δ ^ d := Nat.mul_dvd_mul dl (Nat.dvd_trans (Nat.pow_dvd_pow B md) (pdl Bd d))
  have nR' : Nice (D * Δ ^ d) (300 * (M * (3 * lam) ^ d)) d R' := by
    refine ⟨fun i j => ?_, fun i j l => ?_⟩
    · obtain ⟨n, e, bn⟩ := bM i j
      rw [cf', e, ← Rat.divInt_eq_div]
      exact LW.Bd.of pos dvd2 (Nat.le_trans bn (size8 md lam1))
    · rw [cf', cf_out (fun z => by
        obtain ⟨x, hx, e⟩ := List.mem_map.mp z
        have := degM x hx
        rw [e] at this
        omega), Rat.div_def, Rat.zero_mul]
  refine k c H' R' (((((S7.trans s8).trans s9).trans s')) ) pn nR' fun x y => ?_
  have e1 : lnV _ _ _ x y = _ := lnV_tops (bd _ i1) (bd _ i2) (bd _ i5) x y
  have e2 : lnV _ _ _ x y = _ := lnV_tops (bd _ i3) (bd _ i4) (bd _ i6) x y
  rw [ev_over cf' nR' cR' (fun e he => Nat.le_trans (degM e he) md), vM, inL_math e2 e1 m _ (by rw [List.length_map]; exact cR.len mz) (fun i zs hi => (hZ i zs hi).1), rows_math dd]
  refine div8 ?_ fun z => ?_
  · rw [← cst, Rat.intCast_mul, cast_pow]
    rfl
  · have := Rat.intCast_inj.mp (show (((D0 * B ^ m : Nat) : Int) : Rat) = ((0 : Int) : Rat) from z)
    omega
end
end LW

namespace LW
open PySem PySem.Spec PyProof.Rows L2 GL
section
variable {P : Program} {w : World} {K : PySem.W.Frag} {mg : Str → Option Value} {base : Heap}
/-! ### a field in changed letters -/
/-- the inverse of a matrix and where it starts -/
structure Inv4 (a b c d s1 s2 p1 p2 p3 p4 t1 t2 : Rat) : Prop where
  det : a * d - b * c ≠ 0
  e1 : p1 = d / (a * d - b * c)
  e2 : p2 = -b / (a * d - b * c)
  e3 : p3 = -c / (a * d - b * c)
  e4 : p4 = a / (a * d - b * c)
  f1 : t1 = -(p1 * s1 + p2 * s2)
  f2 : t2 = -(p3 * s1 + p4 * s2)
theorem t_four {t1 t2 t3 t4 : TE} {σ : L2.St} {H : Hp} {Q : VK} (h : t1 σ H fun u H1 => t2 σ H1 fun v H2 => t3 σ H2 fun w H3 => t4 σ H3 fun z H4 => 4 ≤ sizeLine ∧ ∀ q, H4 q = none → Q (.ref q) (upd H4 q (.tup [u, v, w, z]))) : tTup (tCons t1 (tCons t2 (tCons t3 (tCons t4 tNil)))) σ H Q := h
theorem all4 {α β : Type} {R : α → β → Prop} {ys : List α} {a b c d : β} (h : All2 R ys [a, b, c, d]) : ∃ y1 y2 y3 y4, ys = [y1, y2, y3, y4] ∧ R y1 a ∧ R y2 b ∧ R y3 c ∧ R y4 d := by
  cases h with
  | cons h1 t => cases t with
    | cons h2 t => cases t with
      | cons h3 t => cases t with
        | cons h4 t => cases t; exact ⟨_, _, _, _, rfl, h1, h2, h3, h4⟩
theorem Sm.neg {n : Nat} {q : Rat} (h : Sm n q) : Sm n (-q) := ⟨by rw [Rat.neg_num, Int.natAbs_neg]; exact h.1, by rw [Rat.neg_den]; exact h.2⟩
theorem all2 {α β : Type} {R : α → β → Prop} {ys : List α} {a b : β} (h : All2 R ys [a, b]) : ∃ y1 y2, ys = [y1, y2] ∧ R y1 a ∧ R y2 b := by
  cases h with
  | cons h1 t => cases t with
    | cons h2 t => cases t; exact ⟨_, _, rfl, h1, h2⟩
end
end LW

namespace LW
open PySem PySem.Spec PyProof.Rows L2 GL
section
variable {P : Program} {w : World} {K : PySem.W.Frag} {mg : Str → Option Value} {base : Heap}
/-! ### products by values, and that values tell a polynomial -/
theorem rp_mul (x y : Rat) : ∀ n : Nat, rp (x * y) n = rp x n * rp y n
  | 0 => by show (1 : Rat) = 1 * 1; rw [Rat.mul_one]
  | n + 1 => by
    rw [rp_succ, rp_succ, rp_succ, rp_mul x y n]
    grind
theorem rp_one : ∀ n : Nat, rp 1 n = 1
  | 0 => rfl
  | n + 1 => by rw [rp_succ, rp_one n, Rat.mul_one]
def prL (La Lb : List En) : List En := La.flatMap fun a => Lb.map fun b => ((a.1.1 + b.1.1, a.1.2 + b.1.2), a.2 * b.2)
theorem evL_map (a : En) (x y : Rat) : ∀ L : List En, evL (L.map fun b => ((a.1.1 + b.1.1, a.1.2 + b.1.2), a.2 * b.2)) x y = a.2 * (rp x a.1.1 * rp y a.1.2) * evL L x y
  | [] => by show (0 : Rat) = _ * 0; rw [Rat.mul_zero]
  | b :: L => by
    rw [List.map_cons, evL_cons, evL_map a x y L, evL_cons]
    show a.2 * b.2 * (rp x (a.1.1 + b.1.1) * rp y (a.1.2 + b.1.2)) + _ = _
    rw [rp_add, rp_add]
    grind
theorem evL_prL (Lb : List En) (x y : Rat) : ∀ La : List En, evL (prL La Lb) x y = evL La x y * evL Lb x y
  | [] => by show (0 : Rat) = 0 * _; rw [Rat.zero_mul]
  | a :: La => by
    have ih := evL_prL Lb x y La
    unfold prL at ih ⊢
    rw [List.flatMap_cons, evL_app, evL_map, ih, evL_cons]
    grind
theorem uniq1 : ∀ (N : Nat) (f : Nat → Rat), (∀ x, rs (fun j => f j * rp x j) (List.range (N + 1)) = 0) → ∀ j, j ≤ N → f j = 0
  | 0, f, h, j, hj => by
    have := h 0
    rw [rs_range_succ] at this
    obtain rfl : j = 0 := by omega
    have e : rs (fun j => f j * rp 0 j) (List.range 0) = 0 := rfl
    rw [e] at this
    have r : rp 0 0 = 1 := rfl
    rw [r] at this
    grind
  | N + 1, f, h, j, hj => by
    have hg : ∀ j, j ≤ N → f j * (rp 2 j - rp 2 (N + 1)) = 0 := uniq1 N (fun j => f j * (rp 2 j - rp 2 (N + 1))) fun x => by
      have h1 := h (2 * x)
      have h2 := h x
      rw [rs_range_succ] at h1 h2
      have e : rs (fun j => f j * (rp 2 j - rp 2 (N + 1)) * rp x j) (List.range (N + 1)) = rs (fun j => f j * rp (2 * x) j) (List.range (N + 1)) + rs (fun j => (-(rp 2 (N + 1))) * (f j * rp x j)) (List.range (N + 1)) := by
        rw [← rs_add]
        refine rs_congr fun j _ => ?_
        rw [rp_mul]
        grind
      rw [e, rs_mulL]
      rw [rp_mul] at h1
      grind
    have p2 : ∀ n : Nat, 0 < rp 2 n := fun n => by
      induction n with
      | zero => show (0 : Rat) < 1; decide
      | succ n ih => rw [rp_succ]; grind
    have lt : ∀ k j : Nat, rp 2 j < rp 2 (j + 1 + k) := fun k j => by
      induction k with
      | zero => rw [Nat.add_zero, rp_succ]; have := p2 j; grind
      | succ k ih => rw [← Nat.add_assoc, rp_succ]; have := p2 (j + 1 + k); grind
    have z : ∀ j, j ≤ N → f j = 0 := fun j hj => by
      have h1 := hg j hj
      have h2 := lt (N - j) j
      rw [show j + 1 + (N - j) = N + 1 by omega] at h2
      rcases Rat.mul_eq_zero.mp h1 with h3 | h3
      · exact h3
      · grind
    rcases Nat.lt_or_ge j (N + 1) with l | g
    · exact z j (by omega)
    · obtain rfl : j = N + 1 := by omega
      have h1 := h 1
      rw [rs_range_succ, rp_one, Rat.mul_one] at h1
      have e : rs (fun j => f j * rp 1 j) (List.range (N + 1)) = 0 := rs_zero fun j hj => by
        rw [z j (by have := List.mem_range.mp hj; omega), Rat.zero_mul]
      rw [e] at h1
      grind
theorem uniq2 {N : Nat} {f : Nat → Nat → Rat} (h : ∀ x y, ev2 N f x y = 0) (i j : Nat) (hi : i ≤ N) (hj : j ≤ N) : f i j = 0 := by
  have e : ∀ x y, ev2 N f x y = rs (fun i => rs (fun j => f i j * rp y j) (List.range (N + 1)) * rp x i) (List.range (N + 1)) := fun x y => by
    unfold ev2 box
    rw [rs_flat]
    refine rs_congr fun i _ => ?_
    rw [rs_map, Rat.mul_comm, ← rs_mulL]
    refine rs_congr fun j _ => ?_
    grind
  have h1 : ∀ y i, i ≤ N → rs (fun j => f i j * rp y j) (List.range (N + 1)) = 0 := fun y => uniq1 N (fun i => rs (fun j => f i j * rp y j) (List.range (N + 1))) fun x => by rw [← e]; exact h x y
  exact uniq1 N (f i) (fun y => h1 y i hi) j hj
theorem same_vals {L M : List En} (h : ∀ x y, evL L x y = evL M x y) (i j : Nat) : cf L i j = cf M i j := by
  have bd : ∀ L : List En, ∃ N : Nat, ∀ e ∈ L, e.1.1 ≤ N ∧ e.1.2 ≤ N := fun L => by
    induction L with
    | nil => exact ⟨0, fun e he => nomatch he⟩
    | cons a t ih =>
      obtain ⟨N, hN⟩ := ih
      refine ⟨N + a.1.1 + a.1.2, fun e he => ?_⟩
      rcases List.mem_cons.mp he with rfl | he
      · omega
      · have := hN e he
        omega
  obtain ⟨N, hN⟩ := bd (L ++ M)
  have hL := fun e he => hN e (List.mem_append_left M he)
  have hM := fun e he => hN e (List.mem_append_right L he)
  by_cases z : i ≤ N ∧ j ≤ N
  · have := uniq2 (N := N) (f := fun i j => cf L i j - cf M i j) (fun x y => by
      have e1 := h x y
      rw [evL_box hL, evL_box hM] at e1
      have e2 : ev2 N (fun i j => cf L i j - cf M i j) x y = ev2 N (cf L) x y + rs (fun p => (-1 : Rat) * (cf M p.1 p.2 * (rp x p.1 * rp y p.2))) (box N N) := by
        unfold ev2
        rw [← rs_add]
        refine rs_congr fun p _ => ?_
        grind
      rw [e2, rs_mulL, e1]
      show ev2 N (cf M) x y + -1 * ev2 N (cf M) x y = 0
      grind) i j z.1 z.2
    grind
  · have o1 : cf L i j = 0 := cf_out fun y => by
      obtain ⟨e, he, y2⟩ := List.mem_map.mp y
      have := hL e he
      rw [y2] at this
      exact z this
    have o2 : cf M i j = 0 := cf_out fun y => by
      obtain ⟨e, he, y2⟩ := List.mem_map.mp y
      have := hM e he
      rw [y2] at this
      exact z this
    rw [o1, o2]
theorem cf_prL (Lb : List En) (i j : Nat) : ∀ La : List En, cf (prL La Lb) i j = tm La Lb i j
  | [] => rfl
  | a :: La => by
    have ih := cf_prL Lb i j La
    unfold prL at ih ⊢
    rw [List.flatMap_cons, cf_app, ih]
    have h : cf (Lb.map fun b => ((a.1.1 + b.1.1, a.1.2 + b.1.2), a.2 * b.2)) i j = tm1 a Lb i j := by
      unfold cf tm1
      rw [rs_map]
    rw [h]
    rfl
/-- a product's value -/
theorem ev_tm {La Lb M : List En} (h : ∀ i j, cf M i j = tm La Lb i j) (x y : Rat) : evL M x y = evL La x y * evL Lb x y := by
  rw [ev_of_cf (M := prL La Lb) (fun i j => by rw [h, cf_prL]), evL_prL]
theorem ev_sum {La Lb M : List En} (h : ∀ i j, cf M i j = cf La i j + cf Lb i j) (x y : Rat) : evL M x y = evL La x y + evL Lb x y := by
  rw [ev_of_cf (M := La ++ Lb) (fun i j => by rw [h, cf_app]), evL_app]
theorem ev_scaled {L M : List En} {c : Rat} (h : ∀ i j, cf M i j = cf L i j * c) (x y : Rat) : evL M x y = evL L x y * c := by
  have e : ∀ L : List En, evL (L.map fun e => (e.1, e.2 * c)) x y = evL L x y * c := fun L => by
    induction L with
    | nil => show (0 : Rat) = 0 * c; rw [Rat.zero_mul]
    | cons a t ih =>
      rw [List.map_cons, evL_cons, ih, evL_cons]
      grind
  have e2 : ∀ (L : List En) (i j : Nat), cf (L.map fun e => (e.1, e.2 * c)) i j = cf L i j * c := fun L i j => by
    induction L with
    | nil => show (0 : Rat) = 0 * c; rw [Rat.zero_mul]
    | cons a t ih =>
      rw [List.map_cons, cf_cons, ih, cf_cons]
      dsimp only
      split <;> grind
  rw [ev_of_cf (M := L.map fun e => (e.1, e.2 * c)) (fun i j => by rw [h, e2]), e]
end
end LW

namespace LW
open PySem PySem.Spec PyProof.Rows L2 GL
section
variable {P : Program} {w : World} {K : PySem.W.Frag} {mg : Str → Option Value} {base : Heap}
/-! ### powers of lines -/
def spVPow : Sp := fun vs H Q _ => ∃ (d : Addr) (k : Nat) (L : List En) (D M : Nat), vs = [.ref d, .int (k : Int)] ∧ DW H d L ∧ (∀ e ∈ L, e.1.1 + e.1.2 ≤ 1) ∧ BdC D M L ∧ k ≤ 5 ∧ 1 ≤ M ∧ (∀ j, j ≤ max k 1 → Fz (D ^ j) ((25 * M) ^ j)) ∧
  ∀ p H' N, L2.Same H H' → H p = none → DW H' p N → (∀ e ∈ N, e.1.1 + e.1.2 ≤ k) → BdC (D ^ k) ((25 * M) ^ k) N → (∀ x y, evL N x y = rp (evL L x y) k) → Q (.ref p) H'
theorem ok_law_v_power (T : Txt K mg) : FnOk P w K mg base CX0 5 (fA mg "_law_v_power") (fDat K (fA mg "_law_v_power")) ["_law_one", "_law_many"] spVPow := by
  have G_law_v_times := ok_law_v_times (P := P) (w := w) (base := base) T
  refine T._law_v_power.F.ok sc_law_v_power (fun vs H Q E h => ?_) (fun cdv A outer s H vs Q E hr h => ?_)
  · obtain ⟨d, k, L, D, M, rfl, _⟩ := h
    rfl
  obtain ⟨d, k, L, D, M, rfl, dw, dg, bd, k4, M1, hz, q⟩ := h
  refine ⟨_, (pss_cons (ps_set (i := 2) sc_law_v_power.nd rfl (Or.inl rfl) (pe_dispT (hu64 hr) (pps_cons (pe_tup (pa_cons pe_int (pa_cons pe_int pa_nil))) (pe_tup (pa_cons pe_int (pa_cons pe_int pa_nil))) pps_nil) (by rfl) (by rfl) (fun z => by cases z) (by decide)))
  (pss_cons (ps_for PassesOwn.never rfl (pi_range1 (by rfl) T.range (pa_cons (pv 1) pa_nil)) (pg_name (i := 3) sc_law_v_power.nd rfl (Or.inl rfl))
  (pss_one (ps_set (i := 2) sc_law_v_power.nd rfl (Or.inl rfl) (pe_c T._law_v_times G_law_v_times (hr.mono (by decide)) (pa_cons (pv 2) (pa_cons (pv 0) pa_nil))))))
  (pss_one (ps_ret (pv 2))))), ?_⟩
  refine q_asg fun p hp => ?_
  refine l_tup (va_cons val_c (va_cons val_c va_nil)) (by show 2 ≤ 100000; decide) fun b hb => l_tup (va_cons val_c (va_cons val_c va_nil)) (by show 2 ≤ 100000; decide) fun v hv => ?_
  have sb := Same.new' (o := .tup [.int 0, .int 0]) hb
  have sv := Same.new' (o := .tup [.int 1, .int 1]) hv
  have sp := Same.new' (o := .dT []) hp
  have e0 := sv _ _ (sb _ _ (upd_same (H := H) (a := p) (o := .dT [])))
  refine ⟨e0, [(kN (0, 0), .ref v)], .cons ⟨⟨b, rfl, sv _ _ upd_same⟩, rfl⟩ .nil, by show 1 ≤ 15; decide, ?_⟩
  have nvp : v ≠ p := fun z => by
    rw [z, sb _ _ (upd_same (H := H) (a := p) (o := .dT []))] at hv
    cases hv
  have s0 : L2.Same H _ := Same.updN (o := .dT (mergeT [] [(kN (0, 0), V.ref v)])) ((sp.trans sb).trans sv) hp
  have dw0 : DW (upd (upd (upd (upd H p (.dT [])) b (.tup [.int 0, .int 0])) v (.tup [.int 1, .int 1])) p (.dT (mergeT [] [(kN (0, 0), V.ref v)]))) p [((0, 0), 1)] := ⟨_, upd_same, .cons ⟨rfl, v, rfl, by
    show upd (upd (upd (upd H p (.dT [])) b (.tup [.int 0, .int 0])) v (.tup [.int 1, .int 1])) p _ v = some (.tup [.int 1, .int 1])
    rw [upd_ne nvp, upd_same]⟩ .nil, by simp⟩
  refine q_forR1 (n := k) (va_cons (val_var rfl) va_nil) (by omega) (fun j σ H1 => ∃ (z3 : Option V) (p : Addr) (N : List En), σ = [some (.ref d), some (.int (k : Int)), some (.ref p), z3] ∧ L2.Same H H1 ∧ H p = none ∧ DW H1 p N ∧ (∀ e ∈ N, e.1.1 + e.1.2 ≤ j) ∧ BdC (D ^ j) ((25 * M) ^ j) N ∧ ∀ x y, evL N x y = rp (evL L x y) j)
    ⟨none, p, [((0, 0), 1)], rfl, s0, hp, dw0, fun e he => by rw [List.mem_singleton.mp he]; exact Nat.le_refl _, fun i j => by
      rw [cf_one, Nat.pow_zero, Nat.pow_zero]
      split
      · exact Bd.nat 1
      · exact Bd.zero, fun x y => by
      rw [evL_cons, evL_nil]
      show (1 : Rat) * (1 * 1) + 0 = 1
      grind⟩ (fun j σ H1 hj h => ?_) (fun σ H1 h => ?_)
  · obtain ⟨z3, p1, N, rfl, s1, np, dN, dgN, bN, vN⟩ := h
    have nd := DE.nodup dN
    have ndL := DE.nodup dw
    have lN : N.length ≤ 25 := by
      have h1 := keys_len nd dgN
      have h2 : (j + 1) * (j + 1) ≤ 5 * 5 := Nat.mul_le_mul (by omega) (by omega)
      omega
    have f1 := hz (j + 1) (by omega)
    have f2 : N.length * ((25 * M) ^ j * M) ≤ (25 * M) ^ (j + 1) := by
      rw [Nat.pow_succ, Nat.mul_left_comm]
      exact Nat.mul_le_mul_left _ (Nat.mul_le_mul_right _ lN)
    have f3 : (25 * M) ^ j * M ≤ (25 * M) ^ (j + 1) := by
      rw [Nat.pow_succ]
      exact Nat.mul_le_mul_left _ (by omega)
    have fD : Fz D M := by
      have := hz 1 (by omega)
      rw [Nat.pow_one, Nat.pow_one] at this
      exact this.le (by omega)
    rw [Nat.pow_succ] at f1
    refine g_name (s_asg (c_call (va_two rfl rfl) ⟨p1, d, N, L, D ^ j, (25 * M) ^ j, D, M, j + 1, rfl, dN.dp, (dw.same s1).dp, fun a ha b hb => by
      have := dgN a ha
      have := dg b hb
      omega, by
      have h2 : (j + 1 + 1) * (j + 1 + 1) ≤ 30 * 30 := Nat.mul_le_mul (by omega) (by omega)
      omega, bN, bd, hz j (by omega), fD, f1.le f3, f1.le f2, fun p2 H2 N2 s2 np2 dM cM mM lM => g_name ⟨_, p2, N2, rfl, s1.trans s2, s1.free np2, dM, fun e he => ?_, fun i' j' => ?_, fun x y => ?_⟩⟩))
    · obtain ⟨⟨a, ha, b', hb', ee⟩, _⟩ := mM e he
      have := dgN a ha
      have := dg b' hb'
      rw [ee]
      show a.1.1 + b'.1.1 + (a.1.2 + b'.1.2) ≤ j + 1
      omega
    · rw [cM, Nat.pow_succ]
      exact (tm_bd ndL bd i' j' fun e he => bN.mem nd he).le f2
    · rw [ev_tm cM, vN, rp_succ]
  · obtain ⟨z3, p1, N, rfl, s1, np, dN, dgN, bN, vN⟩ := h
    exact r_ret ((val_var rfl) _ (q p1 H1 N s1 np dN dgN bN vN))
end
end LW

namespace LW
open PySem PySem.Spec PyProof.Rows L2 GL
section
variable {P : Program} {w : World} {K : PySem.W.Frag} {mg : Str → Option Value} {base : Heap}
/-! ### lines put for the letters -/
def spVPut : Sp := fun vs H Q _ => ∃ (d fl f0 f1 : Addr) (L F0 F1 : List En) (D M Df Mf G : Nat), vs = [.ref d, .ref fl] ∧ DW H d L ∧ H fl = some (.lst [.ref f0, .ref f1]) ∧ DW H f0 F0 ∧ DW H f1 F1 ∧ f0 ≠ d ∧ f1 ≠ d ∧ (∀ e ∈ L, e.1.1 + e.1.2 ≤ G) ∧ (∀ e ∈ F0, e.1.1 + e.1.2 ≤ 1) ∧ (∀ e ∈ F1, e.1.1 + e.1.2 ≤ 1) ∧ BdC D M L ∧ BdC Df Mf F0 ∧ BdC Df Mf F1 ∧ 1 ≤ G ∧ G ≤ 5 ∧ 1 ≤ M ∧ 1 ≤ Mf ∧ 0 < D ∧ 0 < Df ∧ Fz (Df ^ G * D) (36 * (36 * (25 * Mf) ^ G * M)) ∧
  ∀ p H' N, L2.Same H H' → H p = none → DW H' p N → (∀ e ∈ N, e.1.1 + e.1.2 ≤ G) → (∀ x y, evL N x y = evL L (evL F0 x y) (evL F1 x y)) → BdC (Df ^ G * D) (36 * (36 * (25 * Mf) ^ G * M)) N → nz N → Q (.ref p) H'
theorem Fz.dn {D D' M M' : Nat} (h : Fz D M) (d0 : 0 < D') (hd : D' ≤ D) (hm : M' ≤ M) : Fz D' M' := ⟨d0, Nat.lt_of_le_of_lt hd h.db, Nat.lt_of_le_of_lt (Nat.mul_le_mul hm hd) h.mb⟩
theorem ok_law_v_put (T : Txt K mg) : FnOk P w K mg base CX0 6 (fA mg "_law_v_put") (fDat K (fA mg "_law_v_put")) ["_law_one", "_law_forms"] spVPut := by
  have G_law_v_times := ok_law_v_times (P := P) (w := w) (base := base) T
  have G_law_v_power := ok_law_v_power (P := P) (w := w) (base := base) T
  have G_law_v_plus := ok_law_v_plus (P := P) (w := w) (base := base) T
  have G_law_v_scaled := ok_law_v_scaled (P := P) (w := w) (base := base) T
  refine T._law_v_put.F.ok sc_law_v_put (fun vs H Q E h => ?_) (fun cdv A outer s H vs Q E hr h => ?_)
  · obtain ⟨d, fl, f0, f1, L, F0, F1, D, M, Df, Mf, G, rfl, _⟩ := h
    rfl
  obtain ⟨d, fl, f0, f1, L, F0, F1, D, M, Df, Mf, G, rfl, ⟨kvs, ed, de⟩, efl, dw0, dw1, n0, n1, dgL, g0, g1, bL, b0, b1, G1, G4, M1, Mf1, D0, Df0, sz, q⟩ := h
  refine ⟨_, (pss_cons (ps_set (i := 2) sc_law_v_put.nd rfl (Or.inl rfl) pe_dnewT)
  (pss_cons (ps_lockO (ps_for PassesOwn.never rfl (pi_keys (pv 0)) (pg_name (i := 3) sc_law_v_put.nd rfl (Or.inl rfl))
  (pss_cons (ps_set (i := 4) sc_law_v_put.nd rfl (Or.inl rfl) (pe_c T._law_v_times G_law_v_times (hr.mono (by decide)) (pa_cons (pe_c T._law_v_power G_law_v_power (hr.mono (by decide)) (pa_cons (pe_ix ix_list (pv 1) pe_int (fun _ _ => rfl)) (pa_cons (pe_ix ix_tup (pv 3) pe_int (fun _ _ => rfl)) pa_nil))) (pa_cons (pe_c T._law_v_power G_law_v_power (hr.mono (by decide)) (pa_cons (pe_ix ix_list (pv 1) pe_int (fun _ _ => rfl)) (pa_cons (pe_ix ix_tup (pv 3) pe_int (fun _ _ => rfl)) pa_nil))) pa_nil))))
  (pss_one (ps_set (i := 2) sc_law_v_put.nd rfl (Or.inl rfl) (pe_c T._law_v_plus G_law_v_plus (hr.mono (by decide)) (pa_cons (pv 2) (pa_cons (pe_c T._law_v_scaled G_law_v_scaled (hr.mono (by decide)) (pa_cons (pv 4) (pa_cons (pe_dget (hu_of hr) (pv 0) (pv 3) (fun _ _ => rfl)) pa_nil))) pa_nil))))))))
  (pss_one (ps_ret (pv 2))))), ?_⟩
  have lL : L.length ≤ 36 := by
    have h1 := keys_len de.2 dgL
    have h2 : (G + 1) * (G + 1) ≤ 6 * 6 := Nat.mul_le_mul (by omega) (by omega)
    omega
  have X1 : 1 ≤ 25 * Mf := by omega
  have pX : ∀ k, k ≤ G → (25 * Mf) ^ k ≤ (25 * Mf) ^ G := fun k hk => Nat.pow_le_pow_right X1 hk
  have pX1 : 1 ≤ (25 * Mf) ^ G := Nat.one_le_pow _ _ X1
  have pD : ∀ k, k ≤ G → Df ^ k ≤ Df ^ G * D := fun k hk => Nat.le_trans (Nat.pow_le_pow_right Df0 hk) (Nat.le_mul_of_pos_right _ D0)
  have dD : ∀ k, 0 < Df ^ k := fun k => Nat.pow_pos Df0
  have W1 : 36 * (25 * Mf) ^ G ≤ 36 * (25 * Mf) ^ G * M := Nat.le_mul_of_pos_right _ M1
  have W2 : 36 * (25 * Mf) ^ G * M ≤ 36 * (36 * (25 * Mf) ^ G * M) := Nat.le_mul_of_pos_left _ (by decide)
  have fk : ∀ k, k ≤ G → Fz (Df ^ k) ((25 * Mf) ^ k) := fun k hk => sz.dn (dD k) (pD k hk) (by
    have := pX k hk
    omega)
  have fDM : Fz D M := sz.dn D0 (Nat.le_mul_of_pos_left _ (dD G)) (by
    have := Nat.le_mul_of_pos_left M (show 0 < 36 * (25 * Mf) ^ G by omega)
    omega)
  refine q_asg fun p hp => ?_
  have sp := Same.new' (o := .dT []) hp
  have ed1 : Rd (upd H p (.dT [])) d (.dT kvs) := .inl (sp _ _ ed)
  have npd : p ≠ d := fun z => by rw [z, ed] at hp; cases hp
  refine q_keys (kvs := kvs) (d := d) rfl ed1 (fun HL y σ H' => ∃ (z3 z4 : Option V) (p : Addr) (N : List En), σ = [some (.ref d), some (.ref fl), some (.ref p), z3, z4] ∧ (∀ b, b ≠ d → HL b = (upd H p (.dT [])) b ∨ True) ∧ L2.Same HL H' ∧ p ≠ d ∧ H p = none ∧ DW H' p N ∧ (∀ e ∈ N, e.1.1 + e.1.2 ≤ G) ∧ BdC (Df ^ G * D) (y * (36 * (25 * Mf) ^ G * M)) N ∧ (∀ x y', evL N x y' = evL (L.take y) (evL F0 x y') (evL F1 x y')) ∧ nz N ∧ (∀ b o, H b = some o → b ≠ d → HL b = some o) ∧ Rd HL d (.dT kvs))
    (fun HL off rdL => ⟨none, none, p, [], rfl, fun _ _ => .inr trivial, Same.refl HL, npd, hp, ⟨[], by rw [off p npd, upd_same], .nil, by simp⟩, (fun e he => nomatch he), fun i j => by rw [Nat.zero_mul]; exact Bd.zero, fun x y => rfl, (fun e he => nomatch he), fun b o eb nb => by rw [off b nb]; exact sp _ _ eb, rdL⟩)
    (fun HL y σ H' ⟨_, _, _, _, _, _, s, _, _, _, _, _, _, _, _, rd⟩ => by
      rcases rd with e | ⟨o, e⟩
      · rw [e]; exact s _ _ e
      · rw [e]; exact s _ _ e) ?_ ?_
  · rintro HL y kk v q' σ H' rdL hk ⟨z3, z4, p, N, rfl, _, s, npd, np, dN, dgN, bN, vN, _, stay, rd⟩ hq D' hnx hct
    obtain ⟨x, hx, ek, t, et, lo⟩ := de.1.get hk
    dsimp only at ek et
    subst ek et
    have ylt : y < L.length := (List.getElem?_eq_some_iff.mp hx).1
    have xL := get_mem hx
    have ne2 : ∀ {b : Addr} {o : HO}, H b = some o → o ≠ .dT kvs → b ≠ d := fun e n => ne_of e ed n
    have stayS : ∀ {b : Addr} {o : HO}, H b = some o → b ≠ d → H' b = some o := fun e n => s _ _ (stay _ _ e n)
    have tuS : Tu H H' := fun b xs e => stayS e (ne2 e (by intro z; cases z))
    have efl' := stayS efl (ne2 efl (by intro z; cases z))
    have dwf : ∀ {f : Addr} {F : List En}, DW H f F → f ≠ d → DW H' f F := fun ⟨k', e, z⟩ n => ⟨k', stayS e n, z.tu tuS⟩
    have hdg := dgL x xL
    have rdH : Rd H' d (.dT kvs) := by
      rcases rd with e | ⟨o, e⟩
      · exact .inl (s _ _ e)
      · exact .inr ⟨o, s _ _ e⟩
    have hqT : SqT K H' q' [.int (x.1.1 : Int), .int (x.1.2 : Int)] := SqT.of hq
    refine q_asg (call_1 (c_call (va_cons (v_ixL (n := 0) (val_var rfl) val_c (SqL.of efl') rfl) (va_cons (v_ixT (n := 0) (val_var rfl) val_c hqT rfl) va_nil)) ⟨f0, x.1.1, F0, Df, Mf, rfl, dwf dw0 n0, g0, b0, by omega, Mf1, fun j hj => fk j (by omega), fun p1 H1 N1 s1 np1 dN1 dg1 bN1 v1 => va_1 (c_call (va_cons (v_ixL (n := 1) (val_var rfl) val_c (SqL.of (s1 _ _ efl')) rfl) (va_cons (v_ixT (n := 1) (val_var rfl) val_c (SqT.of (s1 _ _ hq)) rfl) va_nil)) ⟨f1, x.1.2, F1, Df, Mf, rfl, (dwf dw1 n1).same s1, g1, b1, by omega, Mf1, fun j hj => fk j (by omega), fun p2 H2 N2 s2 np2 dN2 dg2 bN2 v2 => ?_⟩)⟩))
    have nd1 := DE.nodup dN1
    have nd2 := DE.nodup dN2
    have l1 : N1.length ≤ 36 := by
      have h1 := keys_len nd1 dg1
      have h2 : (x.1.1 + 1) * (x.1.1 + 1) ≤ 6 * 6 := Nat.mul_le_mul (by omega) (by omega)
      omega
    have eM : (25 * Mf) ^ x.1.1 * (25 * Mf) ^ x.1.2 = (25 * Mf) ^ (x.1.1 + x.1.2) := (Nat.pow_add _ _ _).symm
    have eD : Df ^ x.1.1 * Df ^ x.1.2 = Df ^ (x.1.1 + x.1.2) := (Nat.pow_add _ _ _).symm
    have pp := pX (x.1.1 + x.1.2) (by omega)
    have lp : N1.length * (25 * Mf) ^ (x.1.1 + x.1.2) ≤ 36 * (25 * Mf) ^ G := Nat.mul_le_mul l1 pp
    have fT : Fz (Df ^ (x.1.1 + x.1.2)) (36 * (25 * Mf) ^ G) := sz.dn (dD _) (pD _ (by omega)) (by omega)
    refine ⟨p1, p2, N1, N2, Df ^ x.1.1, (25 * Mf) ^ x.1.1, Df ^ x.1.2, (25 * Mf) ^ x.1.2, x.1.1 + x.1.2, rfl, (dN1.same s2).dp, dN2.dp, fun a ha b hb => by
      have := dg1 a ha
      have := dg2 b hb
      omega, by
      have h2 : (x.1.1 + x.1.2 + 1) * (x.1.1 + x.1.2 + 1) ≤ 30 * 30 := Nat.mul_le_mul (by omega) (by omega)
      omega, bN1, bN2, fk _ (by omega), fk _ (by omega), by rw [eD, eM]; exact fT.le (by omega), by rw [eD, eM]; exact fT.le lp, fun p3 H3 N3 s3 np3 dN3 c3 m3 l3 => ?_⟩
    have nd3 := DE.nodup dN3
    have S3 := (s1.trans s2).trans s3
    have d3 : ∀ e ∈ N3, e.1.1 + e.1.2 ≤ x.1.1 + x.1.2 := fun e he => by
      obtain ⟨⟨a, ha, b, hb, ee⟩, _⟩ := m3 e he
      have := dg1 a ha
      have := dg2 b hb
      rw [ee]
      show a.1.1 + b.1.1 + (a.1.2 + b.1.2) ≤ _
      omega
    have bN3 : BdC (Df ^ G) (36 * (25 * Mf) ^ G) N3 := fun i j => by
      rw [c3]
      refine (tm_bd nd2 bN2 i j fun e he => bN1.mem nd1 he).mono ?_ ?_
      · rw [eD]
        exact Nat.pow_dvd_pow _ (by omega)
      · rw [eM]
        exact lp
    have l3' : N3.length ≤ 36 := by
      have h1 := keys_len nd3 d3
      have h2 : (x.1.1 + x.1.2 + 1) * (x.1.1 + x.1.2 + 1) ≤ 6 * 6 := Nat.mul_le_mul (by omega) (by omega)
      omega
    have bx : LW.Bd D M x.2 := bL.mem de.2 xL
    have fG : Fz (Df ^ G) (36 * (25 * Mf) ^ G) := sz.dn (dD _) (pD _ (Nat.le_refl _)) (by omega)
    obtain ⟨t', q2, hv, lo2, hm⟩ : ∃ t' q2, valV kvs (kN x.1) = some (.ref t') ∧ Lo H t' q2 ∧ (x.1, q2) ∈ L := by
      rcases DE.val de.1 x.1 with ⟨_, n⟩ | h
      · exact absurd (List.mem_map.mpr ⟨x, xL, rfl⟩) n
      · exact h
    have eq2 : q2 = x.2 := by
      have h1 := cf_in (k := x.1) (q := x.2) xL de.2
      have h2 := cf_in hm de.2
      rw [← h1, ← h2]
    have rd3 : Rd H3 d (.dT kvs) := by
      rcases rdH with e | ⟨o, e⟩
      · exact .inl (S3 _ _ e)
      · exact .inr ⟨o, S3 _ _ e⟩
    have lo3 : Lo H3 t' x.2 := by
      rw [← eq2]
      exact S3 _ _ (tuS _ _ lo2)
    refine s_asg (call_1 ((val_var rfl) _ (va_1 (c_call (va_cons (val_var rfl) (va_cons (v_dgetT (val_var rfl) (val_var rfl) rd3 (S3 _ _ hq) hv) va_nil)) ⟨p3, t', N3, x.2, 1000, 1000, rfl, dN3.dp, lo3, bx.sm fDM, by omega, bN3.sm fG, by decide, by decide, fun p4 H4 N4 s4 np4 dN4 c4 m4 l4 => ?_⟩))))
    have ndN := DE.nodup dN
    have lN : N.length ≤ 36 := by
      have h1 := keys_len ndN dgN
      have h2 : (G + 1) * (G + 1) ≤ 6 * 6 := Nat.mul_le_mul (by omega) (by omega)
      omega
    have d4 : ∀ e ∈ N4, e.1.1 + e.1.2 ≤ G := fun e he => by
      obtain ⟨u, hu, eu⟩ := List.mem_map.mp (m4 e he).1
      have := d3 u hu
      rw [← eu]
      omega
    have b4 : BdC (Df ^ G * D) (36 * (25 * Mf) ^ G * M) N4 := fun i j => by
      rw [c4]
      exact (bN3 i j).mul bx
    have S4 := S3.trans s4
    have yT : y * (36 * (25 * Mf) ^ G * M) ≤ 36 * (36 * (25 * Mf) ^ G * M) := Nat.mul_le_mul_right _ (by omega)
    refine ⟨p, p4, N, N4, 1000, 1000, rfl, (dN.same S4).dp, dN4.dp, fun e he => by have := dgN e he; unfold bxN; omega, by omega, by omega, bN.sm (sz.le yT), b4.sm (sz.le W2), by decide, by decide, fun p5 H5 N5 s5 np5 dN5 c5 m5 l5 => g_name ?_⟩
    rw [hnx]
    have S5 := S4.trans s5
    have np5' : H' p5 = none := Same.free S4 np5
    refine ⟨_, _, p5, N5, rfl, fun _ _ => .inr trivial, s.trans S5, fun z => ?_, ?_, dN5, fun e he => ?_, fun i j => ?_, fun X Y => ?_, fun e he => (m5 e he).2, stay, rd⟩
    · rw [z] at np5'
      rcases rdH with e | ⟨o, e⟩ <;> rw [np5'] at e <;> cases e
    · cases hz : H p5 with
      | none => rfl
      | some o =>
        have h2 := stayS hz (fun z => by
          rw [z] at np5'
          rcases rdH with e | ⟨o, e⟩ <;> rw [np5'] at e <;> cases e)
        rw [np5'] at h2
        cases h2
    · rcases (m5 e he).1 with h | h
      · obtain ⟨u, hu, eu⟩ := List.mem_map.mp h
        have := dgN u hu
        rw [← eu]
        omega
      · obtain ⟨u, hu, eu⟩ := List.mem_map.mp h
        have := d4 u hu
        rw [← eu]
        omega
    · rw [c5, Nat.add_mul, Nat.one_mul]
      exact (bN i j).add (b4 i j)
    · rw [ev_sum c5, vN, ev_scaled c4, ev_tm c3, v1, v2, List.take_succ, hx, evL_app]
      show _ = _ + (x.2 * (rp _ x.1.1 * rp _ x.1.2) + 0)
      grind
  · rintro HL σ H' ⟨z3, z4, p, N, rfl, _, s, npd, np, ⟨kN', eN, dN⟩, dgN, bN, vN, nzN, stay, rd⟩ H2 hoff hd2
    rw [de.len, List.take_length] at vN
    rw [de.len] at bN
    have eN2 : H2 p = some (.dT kN') := by rw [hoff p npd]; exact eN
    have SH : L2.Same H H2 := fun b o e => by
      by_cases z : b = d
      · rw [z, hd2, sp _ _ ed, ← ed, ← z, e]
      · rw [hoff b z]
        exact s _ _ (stay b o e z)
    refine r_ret ((val_var rfl) _ (q p H2 N SH np ⟨kN', eN2, dN.tu fun b xs e => ?_⟩ dgN vN (fun i j => (bN i j).le (Nat.mul_le_mul_right _ lL)) nzN))
    by_cases z : b = d
    · rw [z] at e
      rcases rd with y | ⟨o, y⟩
      · rw [s _ _ y] at e; cases e
      · rw [s _ _ y] at e; cases e
    · rw [hoff b z]; exact e
end
end LW

namespace LW
open PySem PySem.Spec PyProof.Rows L2 GL
section
variable {P : Program} {w : World} {K : PySem.W.Frag} {mg : Str → Option Value} {base : Heap}
/-! ### a plane's rows as a dict -/
def spVOf (mg : Str → Option Value) : Sp := fun vs H Q _ => ∃ (a : Addr) (R : List (List Rat)) (D M g : Nat), vs = [.ref a] ∧ PnAt (pnA mg) H a R ∧ Nice D M g R ∧ g ≤ 15 ∧
  ∀ p H' N, L2.Same H H' → H p = none → Pd H' p N g R → Q (.ref p) H'
theorem st_forR1 {n : Nat} {ta : TA} {g : TG} {tb : TS} {D : Ends} {σ : L2.St} {H : Hp} (h : VA ta σ H [.int (n : Int)]) (hn : n ≤ 100000) (Pv : Nat → L2.St → Hp → Prop) (h0 : Pv 0 σ H)
    (hs : ∀ i σ H, i < n → Pv i σ H → g (.int (i : Int)) σ H fun σ2 H2 => tb { D with nx := Pv (i + 1), ct := Pv (i + 1), bk := D.nx } σ2 H2) (hd : ∀ σ H, Pv n σ H → D.nx σ H) : tFor (iRng1 ta) g tb D σ H := q_forR1 (tz := fun D => D.nx) h hn Pv h0 hs hd
theorem cf2_hi {R : List (List Rat)} {i j : Nat} (h : R.length ≤ i) : cf2 R i j = 0 := by
  unfold cf2
  rw [rowAt_none h]
  exact co_none (Nat.zero_le _)
theorem ok_law_v_of (T : Txt K mg) (TP : PlaneT K mg) : FnOk P w K mg base CX0 2 (fA mg "_law_v_of") (fDat K (fA mg "_law_v_of")) ["_law_plane"] (spVOf mg) := by
  have G_law_v_plain := ok_law_v_plain (P := P) (w := w) (base := base) T
  refine T._law_v_of.F.ok sc_law_v_of (fun vs H Q E h => ?_) (fun cdv A outer s H vs Q E hr h => ?_)
  · obtain ⟨a, R, D, M, g, rfl, _⟩ := h
    rfl
  obtain ⟨a, R, D, M, g, rfl, ⟨dx, t, ea, ⟨vs, ev, al⟩, cR⟩, nR, hg, q⟩ := h
  refine ⟨_, (pss_cons (ps_set (i := 1) sc_law_v_of.nd rfl (Or.inl rfl) pe_dnewT)
  (pss_cons (ps_for PassesOwn.never rfl (pi_range1 (by rfl) T.range (pa_cons (pe_callB call_len_seq (by rfl) T.len PySem.boot_len (pa_cons (pe_fld (pv 0) (by rfl)) pa_nil)) pa_nil)) (pg_name (i := 2) sc_law_v_of.nd rfl (Or.inl rfl))
  (pss_one (ps_for PassesOwn.never rfl (pi_range1 (by rfl) T.range (pa_cons (pe_callB call_len_seq (by rfl) T.len PySem.boot_len (pa_cons (pe_ix ix_tup (pe_fld (pv 0) (by rfl)) (pv 2) (fun _ _ => rfl)) pa_nil)) pa_nil)) (pg_name (i := 3) sc_law_v_of.nd rfl (Or.inl rfl))
  (pss_one (ps_dput (hu_of hr) (pv 1) (pe_tup (pa_cons (pv 2) (pa_cons (pv 3) pa_nil))) (pe_ix ix_tup (pe_ix ix_tup (pe_fld (pv 0) (by rfl)) (pv 2) (fun _ _ => rfl)) (pv 3) (fun _ _ => rfl)) rfl)))))
  (pss_one (ps_ret (pe_c T._law_v_plain G_law_v_plain (hr.mono (by decide)) (pa_cons (pv 1) pa_nil)))))), ?_⟩
  refine q_asg fun p hp => ?_
  have sp := Same.new' (o := .dT []) hp
  have lv := al.len
  have lR := nR.lenR cR
  have kl : ∀ {F : List En}, (F.map (·.1)).Nodup → (∀ e ∈ F, e.1.1 + e.1.2 ≤ g) → F.length ≤ 256 := fun {F} nd h => by
    have h1 := keys_len nd h
    have h2 : (g + 1) * (g + 1) ≤ 16 * 16 := Nat.mul_le_mul (by omega) (by omega)
    omega
  refine q_forR1 (n := R.length) (va_cons (Val.is (v_len (v_rows TP (val_var rfl) (sp _ _ ea)) (.inr (SqT.of (sp _ _ ev)))) (by rw [lv])) va_nil) (by omega) (fun i σ H1 => ∃ (z2 z3 : Option V) (F : List En), σ = [some (.ref a), some (.ref p), z2, z3] ∧ L2.Same H H1 ∧ DW H1 p F ∧ (∀ i' j', cf F i' j' = if i' < i then cf2 R i' j' else 0) ∧ (∀ e ∈ F, e.1.1 + e.1.2 ≤ g))
    ⟨none, none, [], rfl, sp, ⟨[], upd_same, .nil, by simp⟩, fun i' j' => by rw [if_neg (by omega)]; rfl, fun e he => nomatch he⟩ (fun i σ H1 hi h => ?_) (fun σ H1 h => ?_)
  · obtain ⟨z2, z3, F, rfl, s1, dF, cF, dgF⟩ := h
    obtain ⟨v, hv⟩ : ∃ v, vs[i]? = some v := ⟨_, List.getElem?_eq_getElem (by omega)⟩
    obtain ⟨r, hr2, tr, rfl, us, er, ar⟩ := al.get hv
    have err := rowAt_some hr2
    have lu := ar.len
    have il := cR.rowL nR.dg i
    rw [err] at il
    refine g_name (st_forR1 (n := r.length) (va_cons (Val.is (v_len (v_ixT (n := i) (v_rows TP (val_var rfl) (s1 _ _ ea)) (val_var rfl) (SqT.of (s1 _ _ ev)) hv) (.inr (SqT.of (s1 _ _ er)))) (by rw [lu])) va_nil) (by omega) (fun j σ H2 => ∃ (z3 : Option V) (F : List En), σ = [some (.ref a), some (.ref p), some (.int (i : Int)), z3] ∧ L2.Same H H2 ∧ DW H2 p F ∧ (∀ i' j', cf F i' j' = if i' < i ∨ (i' = i ∧ j' < j) then cf2 R i' j' else 0) ∧ (∀ e ∈ F, e.1.1 + e.1.2 ≤ g))
      ⟨z3, F, rfl, s1, dF, fun i' j' => by
        rw [cF]
        by_cases z : i' < i
        · rw [if_pos z, if_pos (.inl z)]
        · rw [if_neg z, if_neg (by omega)], dgF⟩ (fun j σ H2 hj h => ?_) (fun σ H2 h => ?_))
    · obtain ⟨z3, F, rfl, s2, ⟨kF, eF, dF⟩, cF, dgF⟩ := h
      obtain ⟨u, hu⟩ : ∃ u, us[j]? = some u := ⟨_, List.getElem?_eq_getElem (by omega)⟩
      obtain ⟨x, hx, pu, rfl, lo⟩ := ar.get hu
      have c2 : cf2 R i j = x := by
        unfold cf2
        rw [err]
        exact co_some hx
      have lF := kl dF.2 dgF
      refine g_name (s_put2 ((v_ixT (n := j) (v_ixT (n := i) (v_rows TP (val_var rfl) (s2 _ _ ea)) (val_var rfl) (SqT.of (s2 _ _ ev)) hv) (val_var rfl) (SqT.of (s2 _ _ er)) hu) _ ((val_var rfl) _ (l_tup (va_cons (val_var rfl) (va_cons (val_var rfl) va_nil)) (by show 2 ≤ 100000; decide) fun c hc => ?_))))
      have sc := Same.new' (o := .tup [.int (i : Int), .int (j : Int)]) hc
      refine ⟨p, _, rfl, DPut.t (k := kN (i, j)) (sc _ _ eF) upd_same (Nat.lt_of_le_of_lt (show kF.length ≤ 1000 by have := dF.len; omega) (by decide)), ?_⟩
      refine ⟨_, putE F (i, j) x, rfl, Same.updN (s2.trans sc) hp, ⟨_, upd_same, ((dF.tu (Tu.of sc)).put ((lo.same s2).same sc)).tu (Tu.putT (sc _ _ eF))⟩, fun i' j' => ?_, fun e he => ?_⟩
      · rw [cf_put dF.2, cF]
        by_cases z : (i, j) = (i', j')
        · obtain ⟨rfl, rfl⟩ := Prod.mk.inj z
          rw [if_pos rfl, if_pos (by omega), c2]
        · rw [if_neg z]
          by_cases y : i' < i ∨ (i' = i ∧ j' < j)
          · rw [if_pos y, if_pos (by omega)]
          · rw [if_neg y, if_neg (fun y2 => ?_)]
            rcases y2 with y2 | ⟨rfl, y2⟩
            · exact y (.inl y2)
            · by_cases w2 : j' < j
              · exact y (.inr ⟨rfl, w2⟩)
              · exact z (by rw [show j' = j by omega])
      · rcases mem_put he with rfl | he
        · show i + j ≤ g
          omega
        · exact dgF e he
    · obtain ⟨z3, F, rfl, s2, dF, cF, dgF⟩ := h
      refine ⟨_, _, F, rfl, s2, dF, fun i' j' => ?_, dgF⟩
      rw [cF]
      by_cases z : i' < i
      · rw [if_pos (.inl z), if_pos (by omega)]
      · by_cases y : i' = i
        · subst y
          rw [if_pos (show i' < i' + 1 by omega)]
          by_cases y2 : j' < r.length
          · rw [if_pos (.inr ⟨rfl, y2⟩)]
          · rw [if_neg (by omega)]
            unfold cf2
            rw [err, co_none (by omega)]
        · rw [if_neg (by omega), if_neg (by omega)]
  · obtain ⟨z2, z3, F, rfl, s1, dF, cF, dgF⟩ := h
    have lF := kl (DE.nodup dF) dgF
    refine r_ret (c_call (va_cons (val_var rfl) va_nil) ⟨p, F, rfl, dF.dp, by omega, fun p2 H2 N s2 np dN cN mN lN => q p2 H2 N (s1.trans s2) (s1.free np) ⟨dN, fun e he => dgF e (mN e he).1, fun e he => (mN e he).2, fun i j => ?_⟩⟩)
    rw [cN, cF]
    by_cases z : i < R.length
    · rw [if_pos z]
    · rw [if_neg z, cf2_hi (by omega)]
end
end LW

namespace LW
open PySem PySem.Spec PyProof.Rows L2 GL
section
variable {P : Program} {w : World} {K : PySem.W.Frag} {mg : Str → Option Value} {base : Heap}
/-! ### the lines as dicts -/
theorem DW.upl {H : Hp} {L : Addr} {ws zs : List V} {d : Addr} {M : List En} (h : DW H d M) (e : H L = some (.lst ws)) : DW (upd H L (.lst zs)) d M := by
  obtain ⟨kvs, ed, de⟩ := h
  exact ⟨kvs, by rw [upd_ne (ne_of ed e (by intro z; cases z))]; exact ed, de.tu (tu_lst e)⟩
/-- a line of the law's own -/
structure Ln (H : Hp) (p : Addr) (F : List En) (a b s : Rat) (D M : Nat) : Prop where
  dw : DW H p F
  dg : ∀ e ∈ F, e.1.1 + e.1.2 ≤ 1
  bd : BdC D M F
  ev : ∀ x y, evL F x y = a * x + b * y + s
theorem Ln.same {H H' : Hp} {p : Addr} {F : List En} {a b s : Rat} {D M : Nat} (h : Ln H p F a b s D M) (z : L2.Same H H') : Ln H' p F a b s D M := ⟨h.dw.same z, h.dg, h.bd, h.ev⟩
theorem Ln.upl {H : Hp} {L : Addr} {ws zs : List V} {p : Addr} {F : List En} {a b s : Rat} {D M : Nat} (h : Ln H p F a b s D M) (e : H L = some (.lst ws)) : Ln (upd H L (.lst zs)) p F a b s D M := ⟨h.dw.upl e, h.dg, h.bd, h.ev⟩
theorem c_form {t1 t2 t3 : TE} {σ : L2.St} {H : Hp} {x1 x2 x3 : Addr} {a b s : Rat} {D M : Nat} {Q : VK} {E : XK} (h1 : ∀ H', L2.Same H H' → Val t1 σ H' (.ref x1)) (h2 : ∀ H', L2.Same H H' → Val t2 σ H' (.ref x2)) (h3 : ∀ H', L2.Same H H' → Val t3 σ H' (.ref x3)) (la : Lo H x1 a) (lb : Lo H x2 b) (ls : Lo H x3 s) (ba : Bd D M a) (bb : Bd D M b) (bs : Bd D M s)
    (k : ∀ p H' F, L2.Same H H' → H p = none → Ln H' p F a b s D M → Q (.ref p) H') :
    tCall spVPlain [] E (tCons (tDispT [(tTup (tCons (tC (.int 1)) (tCons (tC (.int 0)) tNil)), t1), (tTup (tCons (tC (.int 0)) (tCons (tC (.int 1)) tNil)), t2), (tTup (tCons (tC (.int 0)) (tCons (tC (.int 0)) tNil)), t3)]) tNil) σ H Q := by
  refine call_1 fun p hp => ?_
  have sp := Same.new' (o := .dT []) hp
  refine l_tup (va_cons val_c (va_cons val_c va_nil)) (by show 2 ≤ 100000; decide) fun k1 e1 => ?_
  have s1 := sp.trans (Same.new' (o := .tup [.int 1, .int 0]) e1)
  refine h1 _ s1 _ (l_tup (va_cons val_c (va_cons val_c va_nil)) (by show 2 ≤ 100000; decide) fun k2 e2 => ?_)
  have n2 := Same.new' (o := .tup [.int 0, .int 1]) e2
  have s2 := s1.trans n2
  refine h2 _ s2 _ (l_tup (va_cons val_c (va_cons val_c va_nil)) (by show 2 ≤ 100000; decide) fun k3 e3 => ?_)
  have n3 := Same.new' (o := .tup [.int 0, .int 0]) e3
  have s3 := s2.trans n3
  refine h3 _ s3 _ ?_
  have ep := n3 _ _ (n2 _ _ (Same.new' (o := .tup [.int 1, .int 0]) e1 _ _ (upd_same (H := H) (a := p) (o := .dT []))))
  refine ⟨ep, [(kN (1, 0), .ref x1), (kN (0, 1), .ref x2), (kN (0, 0), .ref x3)], .cons ⟨⟨k1, rfl, n3 _ _ (n2 _ _ upd_same)⟩, rfl⟩ (.cons ⟨⟨k2, rfl, n3 _ _ upd_same⟩, rfl⟩ (.cons ⟨⟨k3, rfl, upd_same⟩, rfl⟩ .nil)), by show 3 ≤ 15; decide, ?_⟩
  have tu := Tu.putT (kvs' := mergeT [] [(kN (1, 0), V.ref x1), (kN (0, 1), V.ref x2), (kN (0, 0), V.ref x3)]) ep
  have nd : ([((1, 0), a), ((0, 1), b), ((0, 0), s)] : List En).map (·.1) |>.Nodup := by simp
  have dw : DW (upd _ p (.dT (mergeT [] [(kN (1, 0), V.ref x1), (kN (0, 1), V.ref x2), (kN (0, 0), V.ref x3)]))) p [((1, 0), a), ((0, 1), b), ((0, 0), s)] := ⟨_, upd_same, .cons ⟨rfl, x1, rfl, (la.same s3).tu tu⟩ (.cons ⟨rfl, x2, rfl, (lb.same s3).tu tu⟩ (.cons ⟨rfl, x3, rfl, (ls.same s3).tu tu⟩ .nil)), nd⟩
  have sU := Same.updN (o := .dT (mergeT [] [(kN (1, 0), V.ref x1), (kN (0, 1), V.ref x2), (kN (0, 0), V.ref x3)])) s3 hp
  refine ⟨p, [((1, 0), a), ((0, 1), b), ((0, 0), s)], rfl, dw.dp, by show 3 ≤ 900; decide, fun p2 H2 N s4 np dN cN mN lN => k p2 H2 N (sU.trans s4) (Same.free sU np) ⟨dN, fun e he => ?_, fun i j => ?_, fun x y => ?_⟩⟩
  · have := (mN e he).1
    simp only [List.mem_cons, List.not_mem_nil, or_false] at this
    rcases this with rfl | rfl | rfl
    · exact Nat.le_refl _
    · exact Nat.le_refl _
    · exact Nat.zero_le _
  · rw [cN, cf_cons, cf_cons, cf_cons, cf_nil]
    dsimp only
    by_cases z1 : (1, 0) = (i, j)
    · rw [if_pos z1, if_neg (by rw [← z1]; decide), if_neg (by rw [← z1]; decide), Rat.add_zero, Rat.add_zero, Rat.add_zero]
      exact ba
    · by_cases z2 : (0, 1) = (i, j)
      · rw [if_neg z1, if_pos z2, if_neg (by rw [← z2]; decide), Rat.zero_add, Rat.add_zero, Rat.add_zero]
        exact bb
      · rw [if_neg z1, if_neg z2, Rat.zero_add, Rat.zero_add, Rat.add_zero]
        split
        · exact bs
        · exact Bd.zero
  · rw [ev_of_cf cN, evL_cons, evL_cons, evL_cons, evL_nil]
    show a * (1 * x * 1) + (b * (1 * (1 * y)) + (s * (1 * 1) + 0)) = _
    grind
end
end LW

namespace LW
open PySem PySem.Spec PyProof.Rows L2 GL
section
variable {P : Program} {w : World} {K : PySem.W.Frag} {mg : Str → Option Value} {base : Heap}
/-! ### the class Poly -/
abbrev poA (mg : Str → Option Value) : Addr := fA mg "Poly"
structure PolyT (K : PySem.W.Frag) (mg : Str → Option Value) : Prop where
  g : mg "Poly" = some (.ref (poA mg))
  cls : Cls K (poA mg)
  mkc : Mk K (poA mg) (mA K (poA mg) "__init__")
  no : NoAttr K (poA mg) "numbers"
  m_init : Me K (poA mg) "__init__" "Poly.__init__" (inClass tPoly 0) ["self", "numbers"]
  m_at : Me K (poA mg) "at" "Poly.at" (inClass tPoly 10) ["self", "point"]
  hc : PySem.W.findIn K (.ref (poA mg)) "__class__" = some (some (.builtin "object.__class__"))
  hn : PySem.W.specialIn K (.builtin "object.__class__") "__get__" = some (some (.builtin "getset_descriptor.__get__"))
  ht : PySem.W.takesIn K (.builtin "object.__class__") = some true
  hm : PySem.W.mroIn K (poA mg) (.type "object") = some true
  ks : PySem.W.kitOne K (.ref (poA mg)) (.ref (poA mg)) = some true
  kf : ∀ T : String, T = "int" ∨ T = "tuple" → PySem.W.kitOne K (.type T) (.ref (poA mg)) = some false
  subT : ∀ T : String, T = "int" ∨ T = "tuple" → PySem.W.subIn K (.type T) (.ref (poA mg)) = some false
abbrev sPoly_init : Stmt := (inClass tPoly 0)
theorem scPoly_init : FnScope ["self", "numbers", "pairs", "number", "degree", "top", "_"] ["self", "numbers"] (defScope sPoly_init) := ⟨rfl, rfl, rfl, by decide +kernel, rfl, by decide +kernel, by decide +kernel⟩
abbrev sPoly_at : Stmt := (inClass tPoly 10)
theorem scPoly_at : FnScope ["self", "point", "top", "bottom", "tops", "below", "total", "power", "number"] ["self", "point"] (defScope sPoly_at) := ⟨rfl, rfl, rfl, by decide +kernel, rfl, by decide +kernel, by decide +kernel⟩
def PoAt (C : Addr) (H : Hp) (a : Addr) (xs : List Rat) : Prop := ∃ dx t, H a = some (.ins C dx [("numbers", .ref t)]) ∧ Los H t xs ∧ tlen xs = xs.length
theorem PoAt.same {C : Addr} {H H' : Hp} {a : Addr} {xs : List Rat} (h : PoAt C H a xs) (s : Same H H') : PoAt C H' a xs := by
  obtain ⟨dx, t, e, l, z⟩ := h
  exact ⟨dx, t, s _ _ e, l.same s, z⟩
def spOInit (mg : Str → Option Value) : Sp := fun vs H Q E => ∃ (a dx : Addr) (v : V), vs = [.ref a, v] ∧ H a = some (.ins (poA mg) dx []) ∧ ((∃ n ws xs, v = .ref n ∧ Sq H n ws ∧ ws.length ≤ 1000 ∧ All2 (Rq H) ws xs ∧
    ∀ t H', (∀ b o, H b = some o → b ≠ a → H' b = some o) → H' a = some (.ins (poA mg) dx [("numbers", .ref t)]) → Los H' t (trim xs) → Q .non H') ∨ (NoRow H v ∧ BadR mg H a v E))
theorem ok_Poly_init (T : Txt K mg) (TO : PolyT K mg) : FnOk P w K mg base (L2.CX P w) 7 (mA K (poA mg) "__init__") (fDat K (mA K (poA mg) "__init__")) ["self", "numbers"] (spOInit mg) := by
  have Gis_row := ok_is_row (P := P) (w := w) (base := base) T
  have Gtold := ok_told (P := P) (w := w) (base := base) T
  have Gtop_power := ok_top_power (P := P) (w := w) (base := base) T
  have Gi_BadRow := init_BadRow (P := P) (w := w) (base := base) T
  refine TO.m_init.F.okX scPoly_init (fun vs H Q E h => ?_) (fun cdv A outer s H vs Q E hr h => ?_)
  · obtain ⟨a, dx, v, rfl, _⟩ := h
    rfl
  obtain ⟨a, dx, v, rfl, ha, h⟩ := h
  refine ⟨_, (pss_cons (ps_if (pt_not (pt_val (pe_c T.is_row Gis_row (hr.mono (by decide)) (pa_cons (pv 1) pa_nil)))) (pss_one (ps_raise rfl (takes_of rfl rfl rfl rfl) (pmk_oex T.BadRow.o T.BadRow.i T.BadRow.t Gi_BadRow (hr.mono (by decide)) T.BadRow.b .nil pass0 (by rfl) T.BadRow.g (pa_cons (pv 1) pa_nil)))) pss_nil)
  (pss_cons (ps_setLc (i := 2) (own := [("number", 3)]) (g := gName 3) (tt := tYes) (by rfl) scPoly_init.nd rfl rfl (sw_true rfl rfl rfl (by decide +kernel)) (pi_or (pi_list (pv 1)) (pi_tup (pv 1))) (blkOk_by (own := [("number", 3)]) (N := ["self", "numbers", "pairs", "number", "degree", "top", "_"]) (sc := defScope sPoly_init) (by decide +kernel)) (fun _ _ _ _ _ => pg_name (i := 3) scPoly_init.nd rfl (Or.inl rfl)) (fun _ _ _ _ _ => pts_nil) (fun _ _ _ _ _ => (pe_call Gtold (hr.mono (by decide)) (by rfl) T.told.g T.told.F.kp T.told.b .nil passL (pa_cons (pv 3) (pa_cons pe_str pa_nil)))))
  (pss_cons (ps_set (i := 4) scPoly_init.nd rfl (Or.inl rfl) (pe_c T.top_power Gtop_power (hr.mono (by decide)) (pa_cons (pe_lc (own := [("top", 5), ("_", 6)]) (g := gTup K 2 (gCons (gName 5) (gCons (gName 6) gNil))) (tt := tYes) (by rfl) scPoly_init.nd (pi_list (pv 2)) (blkOk_by (own := [("top", 5), ("_", 6)]) (N := ["self", "numbers", "pairs", "number", "degree", "top", "_"]) (sc := defScope sPoly_init) (by decide +kernel)) (fun _ _ _ _ _ => pg_tup rfl (pgs_cons (pg_name (i := 5) scPoly_init.nd rfl (Or.inl rfl)) (pgs_cons (pg_name (i := 6) scPoly_init.nd rfl (Or.inl rfl)) pgs_nil))) (fun _ _ _ _ _ => pts_nil) (fun _ _ _ _ _ => (pv 5))) pa_nil)))
  (pss_one (ps_fld (pv 0) (pe_callTy call_tuple_of (by rfl) T.tuple (by decide +kernel) (pa_cons (pe_slice sl_list (pv 2) po_none (po_some (pe_op op_add (pv 4) pe_int))) pa_nil)) (by rfl)))))), ?_⟩
  rcases h with ⟨n, ws, xs, rfl, hS, hl, al, k⟩ | ⟨h, b⟩
  · refine q_ifNot (c_call (va_cons (val_var rfl) va_nil) ⟨_, rfl, .inr ⟨n, ws, ws.map fun _ => true, rfl, hS, hl, All2.mk (by rw [List.length_map]) (fun i x b hx hb => ?_), fun H1 s1 => ⟨_, rfl, ?_⟩⟩⟩)
    · obtain ⟨q, _, rq⟩ := al.get hx
      rw [List.getElem?_map, hx] at hb
      cases hb
      exact rq.yes
    rw [all_true]
    refine iteF ?_
    have offR : Off (fun i v H => ∃ q p, xs[i]? = some q ∧ v = V.ref p ∧ Lo H p q) := fun k v H D ys zs h e => by
      obtain ⟨q, p, h1, h2, lo⟩ := h
      refine ⟨q, p, h1, h2, ?_⟩
      unfold Lo at lo ⊢
      rw [upd_ne (fun z => by rw [z, e] at lo; cases lo)]
      exact lo
    refine q_asg (l_lcS (R := fun i v H => ∃ q p, xs[i]? = some q ∧ v = V.ref p ∧ Lo H p q) (fun i v H1 H2 s ⟨q, p, h1, h2, lo⟩ => ⟨q, p, h1, h2, lo.same s⟩) offR (val_var rfl) (hS.same s1).seq (by omega) (fun i x H2 hx s2 => turn_name rfl fun Q q => ?_) (fun l ys H2 s2 e2 r2 => ?_))
    · obtain ⟨z, hz, rq⟩ := al.get hx
      exact c_told (va_cons (val_var rfl) (va_cons val_c va_nil)) ((rq.same s1).same s2) fun p H' s' lo => q _ H' s' ⟨z, p, hz, rfl, lo⟩
    rw [al.len] at r2
    have al2 : All2 (fun v q => ∃ p, v = V.ref p ∧ Lo H2 p q) ys xs := All2.mk r2.2 fun i v q hv hq => by
      obtain ⟨q', p, h1, h2, lo⟩ := r2.1.get hv
      rw [Nat.zero_add, hq] at h1
      cases h1
      exact ⟨p, h2, lo⟩
    have hlx : xs.length ≤ 1000 := by rw [← al.len]; exact hl
    refine q_asg (call_1 (l_lcL (K := K) (R := fun i v _ => ∃ b, (xs.map (·.num))[i]? = some b ∧ v = V.int b) (fun _ _ _ _ _ h => h) (fun _ _ _ _ _ _ h _ => h) (val_var rfl) (SqL.of e2) (by rw [r2.2]; omega) (fun i v H3 hv s3 => ?_) (fun l2 ns H3 s3 e3 r3 => ?_)))
    · obtain ⟨q, hq, p, rfl, lo⟩ := al2.get hv
      exact turn_two (SqT.of (lo.same s3)) rfl (em_val (val_var rfl) ⟨_, by rw [List.getElem?_map, hq]; rfl, rfl⟩)
    rw [r2.2] at r3
    have en := rows_map r3 (List.length_map _)
    refine ⟨l2, xs.map (·.num), xs, rfl, by rw [← en]; exact SqL.of e3, by rw [List.length_map]; omega, All2.mk (List.length_map _) (fun i a b h1 h2 => ?_), ?_⟩
    · rw [List.getElem?_map, h2] at h1
      cases h1
      exact Rat.num_eq_zero
    have s123 := (s1.trans s2).trans s3
    have ha3 := s123 _ _ ha
    refine cb_one (l_slHi (val_var rfl) (SqL.of (s3 _ _ e2)) (n := (tlen xs : Int)) (Val.is (GL.v_add (i := (tlen xs : Int) - 1) (j := 1) (val_var rfl) val_c) (by congr 1; omega)) fun p H4 s4 e4 => ⟨p, _, rfl, .inl ⟨SqL.of e4, fun t ht => ?_⟩⟩)
    refine val_var rfl _ ⟨a, poA mg, dx, [], rfl, (Same.new' ht) _ _ (s4 _ _ ha3), TO.cls, TO.no, by show 0 < 1000; decide, ?_⟩
    have keep : ∀ b o, H b = some o → b ≠ a → (upd (upd H4 t (.tup (cutV ys none (some (tlen xs : Int))))) a (.ins (poA mg) dx (putF "numbers" (.ref t) []))) b = some o := fun b o e nb => by
      rw [upd_ne nb]
      exact (Same.new' ht) _ _ (s4 _ _ (s123 _ _ e))
    have nt : t ≠ a := fun z => by
      have := (s4 _ _ ha3)
      rw [← z, ht] at this
      cases this
    have cut : cutV ys none (some (tlen xs : Int)) = ys.take (tlen xs) := by
      have l := tlen_le xs
      unfold cutV
      rw [HT.sIx_none, HT.sIx_nat, r2.2, List.drop_zero, Nat.sub_zero, Nat.min_eq_left l]
    refine k t _ keep upd_same ⟨ys.take (tlen xs), ?_, ?_⟩
    · rw [upd_ne nt, upd_same, cut]
    · refine All2.mk (by unfold trim; rw [List.length_take, List.length_take, r2.2]) fun i v q hv hq => ?_
      have hv' : ys[i]? = some v := by
        rw [List.getElem?_take] at hv
        split at hv
        · exact hv
        · cases hv
      unfold trim at hq
      have hq' : xs[i]? = some q := by
        rw [List.getElem?_take] at hq
        split at hq
        · exact hq
        · cases hq
      obtain ⟨q2, h2, p2, e5, lo⟩ := al2.get hv'
      rw [hq'] at h2
      cases h2
      refine ⟨p2, e5, ?_⟩
      have lo4 := (lo.same s3).same s4
      have n1 : p2 ≠ a := fun z => by
        have := s4 _ _ ha3
        unfold Lo at lo4
        rw [z, this] at lo4
        cases lo4
      unfold Lo
      rw [upd_ne n1]
      exact (Same.new' ht) _ _ lo4
  · have bad : ∀ {H1 : Hp} {Q' : Bool → Hp → Prop}, Same H H1 → Q' false H1 → ∃ c, V.bl false = .bl c ∧ Q' c H1 := fun s q => ⟨_, rfl, q⟩
    rcases h with ⟨n, i, n1, n2⟩ | ⟨n, ws, bs, rfl, hS, hl, al, hf⟩
    · refine q_ifNot (c_call (va_cons (val_var rfl) va_nil) ⟨_, rfl, .inl ⟨n, i, n1, n2, fun H1 s1 => ⟨_, rfl, iteT ?_⟩⟩⟩)
      exact x_made1 (va_cons (val_var rfl) va_nil) fun d H' s2 f e => b d H' (fun c o e' _ => s2 _ _ (s1 _ _ e')) (s1.free f) e
    · refine q_ifNot (c_call (va_cons (val_var rfl) va_nil) ⟨_, rfl, .inr ⟨n, ws, bs, rfl, hS, hl, al, fun H1 s1 => ⟨_, rfl, ?_⟩⟩⟩)
      rw [hf]
      refine iteT ?_
      exact x_made1 (va_cons (val_var rfl) va_nil) fun d H' s2 f e => b d H' (fun c o e' _ => s2 _ _ (s1 _ _ e')) (s1.free f) e
theorem v_numbers {σ : L2.St} {H : Hp} {te : TE} {a dx t : Addr} (TO : PolyT K mg) (h : Val te σ H (.ref a)) (e : H a = some (.ins (poA mg) dx [("numbers", .ref t)])) : Val (tFld K te "numbers") σ H (.ref t) := fun Q q => h _ ⟨a, poA mg, dx, _, _, rfl, e, TO.cls, TO.no, rfl, q⟩
theorem PolyT.tyI (TO : PolyT K mg) {H : Hp} {a : Addr} {xs : List Rat} (h : PoAt (poA mg) H a xs) : TyX K H (.ref a) (.ref (poA mg)) := by
  obtain ⟨dx, t, e, _⟩ := h
  exact .base (.ins e TO.cls TO.hc TO.hn TO.ht TO.hm)
theorem at_step {D : Nat} {x q h : Rat} {total power T : Int} (hT : (T : Rat) = x * (D : Rat)) (ht : (total : Rat) * (q.den : Rat) = (power : Rat) * (h * (D : Rat))) :
    ((total * q.num + T * power : Int) : Rat) * (q.den : Rat) = ((power * (q.den : Int) : Int) : Rat) * ((x + q * h) * (D : Rat)) := by
  have e := num_den q
  rw [Rat.intCast_add, Rat.intCast_mul, Rat.intCast_mul, Rat.intCast_mul, hT, e]
  have e2 : (((q.den : Int) : Rat)) = (q.den : Rat) := rfl
  rw [e2]
  grind
theorem at_fin {D : Nat} {q h : Rat} {total power : Int} (d0 : 0 < D) (p0 : 0 < power) (ht : (total : Rat) * (q.den : Rat) = (power : Rat) * (h * (D : Rat))) : h = Rat.divInt (total * (q.den : Int)) ((D : Int) * power) := by
  rw [Rat.divInt_eq_div, Rat.intCast_mul, Rat.intCast_mul]
  have e2 : (((q.den : Int) : Rat)) = (q.den : Rat) := rfl
  have e3 : (((D : Int) : Rat)) = (D : Rat) := rfl
  rw [e2, e3, ht]
  have hz : ((D : Rat) * (power : Rat)) ≠ 0 := fun z => by
    have : (0 : Rat) < (D : Rat) * (power : Rat) := Rat.mul_pos (Rat.natCast_pos.mpr d0) (Rat.intCast_pos.mpr p0)
    rw [z] at this
    exact Rat.lt_irrefl this
  have e4 : (power : Rat) * (h * (D : Rat)) = h * ((D : Rat) * (power : Rat)) := by grind
  rw [e4]
  exact (Rat.mul_div_cancel hz).symm
def spOAt (mg : Str → Option Value) : Sp := fun vs H Q E => ∃ (a : Addr) (v : V) (xs : List Rat), vs = [.ref a, v] ∧ PoAt (poA mg) H a xs ∧ ((∃ q D0 M A m, Rq H v q ∧ Bds D0 M xs ∧ Fz D0 M ∧ M * D0 < 2 ^ A ∧ D0 < 2 ^ A ∧ Sm m q ∧ A + (m + 1) * xs.length + 2 * m ≤ 990 ∧ xs.length ≤ 400 ∧ ∀ p H', Same H H' → Lo H' p (peval xs q) → Q (.ref p) H') ∨ (RatQ H v false ∧ Bad mg H (.str "point") v E))
theorem ok_Poly_at (T : Txt K mg) (TO : PolyT K mg) : FnOk P w K mg base (L2.CX P w) 7 (mA K (poA mg) "at") (fDat K (mA K (poA mg) "at")) ["self", "point"] (spOAt mg) := by
  have Gtold := ok_told (P := P) (w := w) (base := base) T
  have Gwhole_row := ok_whole_row (P := P) (w := w) (base := base) T
  refine TO.m_at.F.okX scPoly_at (fun vs H Q E h => ?_) (fun cdv A outer s H vs Q E hr h => ?_)
  · obtain ⟨a, v, xs, rfl, _⟩ := h
    rfl
  obtain ⟨a, v, xs, rfl, ⟨dx, t, e, los, tl⟩, h⟩ := h
  refine ⟨_, (pss_cons (ps_asg (pe_call Gtold (hr.mono (by decide)) (by rfl) T.told.g T.told.F.kp T.told.b .nil (passes_call (takes_of rfl rfl rfl rfl) (fun _ _ _ _ h => h)) (pa_cons (pv 1) (pa_cons pe_str pa_nil))) (pg_tup rfl (pgs_cons (pg_name (i := 2) scPoly_at.nd rfl (Or.inl rfl)) (pgs_cons (pg_name (i := 3) scPoly_at.nd rfl (Or.inl rfl)) pgs_nil))))
  (pss_cons (ps_asg (pe_c T.whole_row Gwhole_row (hr.mono (by decide)) (pa_cons (pe_fld (pv 0) (by rfl)) pa_nil)) (pg_tup rfl (pgs_cons (pg_name (i := 4) scPoly_at.nd rfl (Or.inl rfl)) (pgs_cons (pg_name (i := 5) scPoly_at.nd rfl (Or.inl rfl)) pgs_nil))))
  (pss_cons (ps_asg (pe_tup (pa_cons pe_int (pa_cons pe_int pa_nil))) (pg_tup rfl (pgs_cons (pg_name (i := 6) scPoly_at.nd rfl (Or.inl rfl)) (pgs_cons (pg_name (i := 7) scPoly_at.nd rfl (Or.inl rfl)) pgs_nil))))
  (pss_cons (ps_for (passes_of rfl) rfl (pi_reversed (by rfl) T.reversed (pa_cons (pv 4) pa_nil)) (pg_name (i := 8) scPoly_at.nd rfl (Or.inl rfl))
  (pss_cons (ps_set (i := 6) scPoly_at.nd rfl (Or.inl rfl) (pe_op op_add (pe_op op_mulW (pv 6) (pv 2)) (pe_op op_mulW (pv 8) (pv 7))))
  (pss_one (ps_set (i := 7) scPoly_at.nd rfl (Or.inl rfl) (pe_op op_mulW (pv 7) (pv 3))))))
  (pss_one (ps_ret (pe_call Gtold (hr.mono (by decide)) (by rfl) T.told.g T.told.F.kp T.told.b .nil (passes_call (takes_of rfl rfl rfl rfl) (fun _ _ _ _ h => h)) (pa_cons (pe_tup (pa_cons (pe_op op_mulW (pv 6) (pv 3)) (pa_cons (pe_op op_mulW (pv 5) (pv 7)) pa_nil))) (pa_cons pe_str pa_nil))))))))), ?_⟩
  rcases h with ⟨q, D0, M, A, m, rq, bx, fz, hA, hA2, sq, hm, hl, k⟩ | ⟨r, b⟩
  case inr => exact c_call (va_cons (val_var rfl) (va_cons val_c va_nil)) ⟨v, _, rfl, .inr ⟨r, b⟩⟩
  refine q_two (c_told (va_cons (val_var rfl) (va_cons val_c va_nil)) rq fun p1 H1 s1 lo => g_two (SqT.of lo) ?_)
  refine q_two (call_1 ((v_numbers TO (val_var rfl) (s1 _ _ e)) _ ?_))
  refine ⟨t, xs, D0, rfl, los.same s1, fun r hr => (bx r hr).sm fz, fz.d0, fz.db, fun r hr => (bx r hr).1, by omega, fun p l D H2 s2 d0 dv dd ep el => g_two (SqT.of ep) ?_⟩
  refine q_two (l_tup (va_cons val_c (va_cons val_c va_nil)) (by decide) fun pz hpz => g_two (SqT.of upd_same) ?_)
  have sz := Same.new' (o := .tup [.int 0, .int 1]) hpz
  have el := sz _ _ el
  have s2 := s2.trans sz
  revert el s2
  generalize upd H2 pz (.tup [.int 0, .int 1]) = H2
  intro el s2
  clear sz hpz ep
  have dl : D ≤ 2 ^ A := Nat.le_trans (Nat.le_of_dvd fz.d0 dv) (Nat.le_of_lt hA2)
  have b1 : ∀ T ∈ tops D xs, T.natAbs ≤ 2 ^ A := fun T hT => Nat.le_trans (tops_bd fz.d0 dv bx dd T hT) (Nat.le_of_lt hA)
  have den0 := q.den_pos
  have pw : ∀ k, k ≤ xs.length → q.den ^ k ≤ 2 ^ (m * k) := fun k _ => by
    rw [Nat.pow_mul]
    exact Nat.pow_le_pow_left (Nat.le_of_lt sq.2) k
  have P0 : ∀ {a b : Nat}, a ≤ b → b ≤ 999 → (2 : Nat) ^ a < 2 ^ 1000 := fun h g => Nat.pow_lt_pow_right (by decide) (by omega)
  have mk : ∀ k, k ≤ xs.length → A + (m + 1) * k + 2 * m ≤ 990 ∧ m * k + A + m ≤ 990 := fun k hk => by
    have h1 := Nat.mul_le_mul_left (m + 1) hk
    have h2 : m * k ≤ (m + 1) * k := Nat.mul_le_mul_right k (Nat.le_succ m)
    omega
  refine q_forRev (K := K) (xs := (tops D xs).map V.int) (va_cons (val_var rfl) va_nil) (SqL.of el) (fun k σ H3 => H3 = H2 ∧ ∃ (total power : Int) (z : Option V), σ = [some (.ref a), some v, some (.int q.num), some (.int (q.den : Int)), some (.ref l), some (.int (D : Int)), some (.int total), some (.int power), z] ∧
    power = ((q.den ^ k : Nat) : Int) ∧ total.natAbs ≤ 2 ^ (A + (m + 1) * k) ∧ (total : Rat) * (q.den : Rat) = (power : Rat) * (peval (xs.drop (xs.length - k)) q * (D : Rat))) ⟨rfl, 0, 1, none, rfl, rfl, Nat.zero_le _, ?_⟩ (fun k σ H3 z => by rw [z.1]; exact SqL.of el) (fun k x σ H3 hk hx z => ?_) (fun σ H3 z => ?_)
  · rw [Nat.sub_zero, List.drop_length]
    simp [peval, Rat.zero_mul]
  · obtain ⟨rfl, total, power, z, rfl, rfl, tb, te⟩ := z
    have lk : k < xs.length := by simpa [tops] using hk
    rw [List.length_map, tops_len] at hx
    have gx : xs[xs.length - 1 - k]? = some xs[xs.length - 1 - k] := List.getElem?_eq_getElem (by omega)
    generalize hxx : xs[xs.length - 1 - k] = x0 at gx
    have gT : (tops D xs)[xs.length - 1 - k]? = some (x0.num * ((D / x0.den : Nat) : Int)) := by unfold tops; rw [List.getElem?_map, gx]; rfl
    rw [List.getElem?_map, gT] at hx
    cases hx
    have hT : ((x0.num * ((D / x0.den : Nat) : Int) : Int) : Rat) = x0 * (D : Rat) := by rw [tops_of (dd x0 (get_mem gx)), Rat.mul_comm]
    have bT := b1 _ (get_mem gT)
    generalize x0.num * ((D / x0.den : Nat) : Int) = T at hT bT gT
    have mk1 := mk (k + 1) (by omega)
    have mk0 := mk k (by omega)
    have pk := pw k (by omega)
    refine g_name ((v_add (v_mul (i := total) (j := q.num) (val_var rfl) (val_var rfl) (fit_mul (Nat.lt_of_le_of_lt tb (P0 (Nat.le_refl _) (by omega))) (Nat.lt_trans sq.1 (P0 (Nat.le_refl _) (by omega))))) (v_mul (i := T) (j := ((q.den ^ k : Nat) : Int)) (val_var rfl) (val_var rfl) (fit_mul (Nat.lt_of_le_of_lt bT (P0 (Nat.le_refl _) (by omega))) (by rw [Int.natAbs_natCast]; exact Nat.lt_of_le_of_lt pk (P0 (Nat.le_refl _) (by omega)))))) _ ?_)
    refine (v_mul (i := ((q.den ^ k : Nat) : Int)) (j := (q.den : Int)) (val_var rfl) (val_var rfl) (fit_mul (by rw [Int.natAbs_natCast]; exact Nat.lt_of_le_of_lt pk (P0 (Nat.le_refl _) (by omega))) (by rw [Int.natAbs_natCast]; exact Nat.lt_trans sq.2 (P0 (Nat.le_refl _) (by omega))))) _ ?_
    refine ⟨rfl, _, _, _, rfl, by rw [Nat.pow_succ, Int.natCast_mul], ?_, ?_⟩
    · have e1 : (2 : Nat) ^ (A + (m + 1) * (k + 1)) = 2 ^ (A + (m + 1) * k) * 2 ^ m + 2 ^ (A + (m + 1) * k) * 2 ^ m := by
        rw [← Nat.mul_two, ← Nat.pow_add, ← Nat.pow_succ]
        congr 1
        rw [Nat.mul_succ]
        omega
      rw [e1]
      refine Nat.le_trans (Int.natAbs_add_le _ _) (Nat.add_le_add ?_ ?_)
      · rw [Int.natAbs_mul]
        exact Nat.mul_le_mul tb (Nat.le_of_lt sq.1)
      · rw [Int.natAbs_mul, Int.natAbs_natCast]
        have h1 : (2 : Nat) ^ (A) * 2 ^ (m * k) ≤ 2 ^ (A + (m + 1) * k) * 2 ^ m := by
          rw [← Nat.pow_add, ← Nat.pow_add]
          refine Nat.pow_le_pow_right (by decide) ?_
          have : m * k ≤ (m + 1) * k := Nat.mul_le_mul_right k (Nat.le_succ m)
          omega
        exact Nat.le_trans (Nat.mul_le_mul bT pk) h1
    · have ed : xs.drop (xs.length - (k + 1)) = x0 :: xs.drop (xs.length - k) := by
        have i1 : xs.length - (k + 1) = xs.length - 1 - k := by omega
        rw [i1, List.drop_eq_getElem_cons (by omega), hxx]
        congr 2
        omega
      rw [ed, peval]
      exact at_step hT te
  · obtain ⟨rfl, total, power, z, rfl, rfl, tb, te⟩ := z
    rw [List.length_map, tops_len] at tb te ⊢
    rw [Nat.sub_self, List.drop_zero] at te
    have mkn := mk xs.length (Nat.le_refl _)
    have pk := pw xs.length (Nat.le_refl _)
    have ppos : (0 : Int) < ((q.den ^ xs.length : Nat) : Int) := by
      have := Nat.pow_pos (n := xs.length) den0
      omega
    have fin := at_fin (D := D) (q := q) d0 ppos te
    have mul2 : ∀ {a b N M : Nat}, a ≤ 2 ^ N → b ≤ 2 ^ M → N + M ≤ 999 → a * b < 2 ^ 1000 := fun {a b N M} h1 h2 h3 => by
      have := Nat.mul_le_mul h1 h2
      rw [← Nat.pow_add] at this
      exact Nat.lt_of_le_of_lt this (Nat.pow_lt_pow_right (by decide) (by omega))
    have t1 : (total * (q.den : Int)).natAbs < 2 ^ 1000 := by
      rw [Int.natAbs_mul, Int.natAbs_natCast]
      exact mul2 tb (Nat.le_of_lt sq.2) (by omega)
    have t2 : ((D : Int) * ((q.den ^ xs.length : Nat) : Int)).natAbs < 2 ^ 1000 := by
      rw [Int.natAbs_mul, Int.natAbs_natCast, Int.natAbs_natCast]
      exact mul2 dl pk (by omega)
    refine r_ret (te := tCall _ _ _ _) (call_1 (l_tup (va_cons (v_mul (i := total) (j := (q.den : Int)) (val_var rfl) (val_var rfl) (fit_mul (Nat.lt_of_le_of_lt tb (P0 (Nat.le_refl _) (by omega))) (by rw [Int.natAbs_natCast]; exact Nat.lt_trans sq.2 (P0 (Nat.le_refl _) (by omega))))) (va_cons (v_mul (i := (D : Int)) (j := ((q.den ^ xs.length : Nat) : Int)) (val_var rfl) (val_var rfl) (fit_mul (by rw [Int.natAbs_natCast]; exact Nat.lt_of_le_of_lt dl (P0 (Nat.le_refl _) (by omega))) (by rw [Int.natAbs_natCast]; exact Nat.lt_of_le_of_lt pk (P0 (Nat.le_refl _) (by omega))))) va_nil)) (by show 2 ≤ 100000; decide) fun p hp => va_1 (val_c _ ?_)))
    have s3 := Same.new' (o := .tup [.int (total * (q.den : Int)), .int ((D : Int) * ((q.den ^ xs.length : Nat) : Int))]) hp
    exact c_told2 ⟨_, _, .pair (.inr upd_same) (Int.mul_pos (by omega) ppos), ⟨t1, t2⟩, fin⟩ fun p2 H4 s4 lo4 => k p2 H4 (((s1.trans s2).trans s3).trans s4) lo4
end
end LW

namespace LW
open PySem PySem.Spec PyProof.Rows L2 GL
section
variable {P : Program} {w : World} {K : PySem.W.Frag} {mg : Str → Option Value} {base : Heap}
section
variable {σ : L2.St} {H : Hp} {g : TG} {te : TE} {ta : TA} {vs : List Nat} {Q : VK} {a b : Addr} {xs ys : List V} {R : Nat → V → Hp → Prop}
theorem l_lcZP (st : ∀ k, Stays (R k)) (of : Off R) (h : VA ta σ H [.ref a, .ref b]) (hx : SqL K H a xs) (hy : SqL K H b ys) (hl : xs.length = ys.length) (hn : xs.length ≤ 10000)
    (hs : ∀ (i : Nat) x y T H1, xs[i]? = some x → ys[i]? = some y → Same H H1 → H1 T = some (.tup [x, y]) → Turn1 g te vs σ (.ref T) H1 (R i))
    (q : ∀ p zs H', Same H H' → H' p = some (.lst zs) → Rows R 0 xs.length zs H' → Q (.ref p) H') : tLc (iZip K ta) g tYes te vs σ H Q := by
  refine h _ ⟨a, b, xs, ys, rfl, hx, hy, fun D hD => ⟨fun i m H1 => m = xs.length - i ∧ i ≤ xs.length ∧ LcP R H D i H1, ⟨_, rfl, Nat.zero_le _, [], Same.new' hD, upd_same, hD, trivial, rfl⟩, ?_⟩⟩
  rintro i m H1 ⟨rfl, hi, p⟩
  have q1 := p.choose_spec.1.seq hx
  have q2 := p.choose_spec.1.seq hy
  rcases Nat.lt_or_ge i xs.length with lt | ge
  · have e : xs[i]? = some xs[i] := List.getElem?_eq_getElem lt
    have e' : ys[i]? = some (ys[i]'(by omega)) := List.getElem?_eq_getElem (by omega)
    refine .inr ⟨⟨xs, ys, xs[i], _, q1, q2, e, e'⟩, LcP R H D (i + 1), fun H' p' => ⟨xs.length - (i + 1), by omega, rfl, lt, p'⟩, ?_⟩
    rintro v H' ⟨T, x, y, rfl, hT, rfl, f, f'⟩
    have ex := f xs q1
    have ey := f' ys q2
    obtain ⟨zs, s, eD, nD, r⟩ := p
    have sT := Same.new' (o := .tup [x, y]) hT
    exact lc_step st of (H := H) ⟨zs, s.trans sT, sT _ _ eD, nD, Rows.stays st zs _ _ sT r⟩ (by omega) fun s2 => hs i x y T _ ex ey s2 upd_same
  · obtain rfl : i = xs.length := by omega
    obtain ⟨zs, s, e, _, r⟩ := p
    exact .inl ⟨⟨xs, ys, q1, q2, .inl (Nat.le_refl _)⟩, q D zs H1 s e r⟩
end
def spLPoly : Sp := fun vs H Q _ => ∃ (l : Addr) (xs : List Rat), vs = [.ref l] ∧ Lst H l xs ∧ xs.length ≤ 1000 ∧ ∀ (l' : Addr) (H' : Hp), L2.Same H H' → H l' = none → Lst H' l' (trim xs) → Q (.ref l') H'
theorem ok_law_poly (T : Txt K mg) : FnOk P w K mg base CX0 1 (fA mg "_law_poly") (fDat K (fA mg "_law_poly")) ["_law_numbers"] spLPoly := by
  refine T._law_poly.F.ok sc_law_poly (fun vs H Q E h => ?_) (fun cdv A outer s H vs Q E hr h => ?_)
  · obtain ⟨l, xs, rfl, _⟩ := h
    rfl
  obtain ⟨l, xs, rfl, ⟨vs, hl, al⟩, hn, k⟩ := h
  refine ⟨_, (pss_cons (ps_set (i := 1) sc_law_poly.nd rfl (Or.inl rfl) (pe_callTy call_list_of (by rfl) T.list (by decide +kernel) (pa_cons (pv 0) pa_nil)))
  (pss_cons (ps_for PassesOwn.never rfl (pi_range1 (by rfl) T.range (pa_cons (pe_callB call_len_seq (by rfl) T.len PySem.boot_len (pa_cons (pv 0) pa_nil)) pa_nil)) (pg_name (i := 2) sc_law_poly.nd rfl (Or.inl rfl))
  (pss_cons (ps_if (PW.pt (pw_or (pt_cmpR (op_eqD (hu64 hr)) (pv 1) (pe_lst pa_nil) (nomark _)) (pw_or1 (pt_cmpR op_ne (pe_ix ix_tup (pe_ix ix_list (pv 1) (pe_un un_neg pe_int) (fun _ _ => rfl)) pe_int (fun _ _ => rfl)) pe_int (nomark _))))) (pss_one ps_break) pss_nil)
  (pss_one (ps_expr (pe_bm0 PySem.F.plainAttrs_list PySem.F.slot_list_pop PySem.F.type_list_pop mt_pop (pv 1))))))
  (pss_one (ps_ret (pv 1))))), ?_⟩
  refine q_asg ((va_cons (val_var rfl) va_nil) _ ⟨l, vs, rfl, .inl (SqL.of hl), fun l' hl' => ?_⟩)
  have s0 := Same.new' (o := .lst vs) hl'
  have len := al.len
  have done : ∀ j H', Same H H' → j ≤ xs.length → H' l' = some (.lst (vs.take j)) → (∀ i q, j ≤ i → xs[i]? = some q → q = 0) → (j = 0 ∨ ∃ q, xs[j - 1]? = some q ∧ q ≠ 0) → Q (.ref l') H' := fun j H' s hj e z h => k l' H' s hl' (by
    have t := tlen_of hj z h
    unfold trim
    rw [t]
    exact ⟨_, e, (al.imp fun v q ⟨p, e, lo⟩ => ⟨p, e, lo.same s⟩).take j⟩)
  refine q_forR1 (n := xs.length) (va_cons (Val.is (v_len (xs := vs) (val_var rfl) (.inl (SqL.of (s0 _ _ hl)))) (by rw [len])) va_nil) (by omega) (fun i σ H1 => ∃ z, σ = [some (.ref l), some (.ref l'), z] ∧ Same H H1 ∧ H1 l' = some (.lst (vs.take (xs.length - i))) ∧ ∀ j q, xs.length - i ≤ j → xs[j]? = some q → q = 0)
    ⟨_, rfl, s0, by rw [Nat.sub_zero, ← len, List.take_length]; exact upd_same, fun j q h e => by have := (List.getElem?_eq_some_iff.mp e).1; omega⟩ (fun i σ H1 hi z => ?_) (fun σ H1 z => ?_)
  · obtain ⟨z, rfl, s1, e1, z1⟩ := z
    obtain ⟨j, hj⟩ : ∃ j, xs.length - i = j + 1 := ⟨xs.length - i - 1, by omega⟩
    rw [hj] at e1 z1
    have lj : j < xs.length := by omega
    have gx : xs[j]? = some xs[j] := List.getElem?_eq_getElem lj
    generalize xs[j] = q at gx
    obtain ⟨v, gv⟩ : ∃ v, vs[j]? = some v := ⟨_, List.getElem?_eq_getElem (by omega)⟩
    obtain ⟨q', hq', p, rfl, lo⟩ := al.get gv
    rw [gx] at hq'
    cases hq'
    have lt : (vs.take (j + 1)).length = j + 1 := by rw [List.length_take]; omega
    have last : (vs.take (j + 1))[(vs.take (j + 1)).length - 1]? = some (.ref p) := by
      rw [lt, List.getElem?_take, if_pos (by omega)]
      exact gv
    refine g_name (q_ifOr (t_op ((val_var rfl) _ (l_lst va_nil (by decide) fun e he => ?_))))
    have s2 := Same.new' (o := .lst []) he
    have L2 : Lst (upd H1 e (.lst [])) l' (xs.take (j + 1)) := ⟨_, s2 _ _ e1, (al.imp fun v q ⟨p, e, lo⟩ => ⟨p, e, lo.same (s1.trans s2)⟩).take (j + 1)⟩
    refine ⟨_, listD [], lst_dp L2, .lst (SqL.of upd_same) .nil, listD_shaped _, listD_shaped _, _, rfl, ?_⟩
    have ne : PyData.eqv (listD (xs.take (j + 1))) (listD []) = false := by
      have : ∃ x r, xs.take (j + 1) = x :: r := by
        cases h : xs.take (j + 1) with
        | nil =>
          have : (xs.take (j + 1)).length = 0 := by rw [h]; rfl
          rw [List.length_take] at this
          omega
        | cons x r => exact ⟨x, r, rfl⟩
      obtain ⟨x, r, h⟩ := this
      rw [h]
      rfl
    rw [ne]
    refine iteF (t_op ?_)
    have ev : Val (tOp (rIxT K) (tOp (rIxL K) (tVar 1) (tUn (rU fun i => .int (-i)) (tC (.int 1)))) (tC (.int 0))) [some (.ref l), some (.ref l'), some (.int (i : Int))] (upd H1 e (.lst [])) (.int q.num) :=
      v_ixT (n := 0) (xs := [.int q.num, .int (q.den : Int)]) (val_op (val_var rfl) (v_neg val_c) fun Q q => ⟨l', _, _, _, rfl, rfl, SqL.of (s2 _ _ e1), atI_m1 last, q⟩) val_c (SqT.of (lo.same (s1.trans s2))) rfl
    refine ev _ (val_c _ ⟨rfl, _, rfl, ?_⟩)
    by_cases q0 : q = 0
    · have n0 : (!decide (V.int q.num = V.int 0)) = false := by rw [q0]; rfl
      rw [n0]
      refine iteF ?_
      refine st_bm0 (x := .ref l') (val_var rfl) ⟨?_, l', _, _, rfl, rfl, s2 _ _ e1, last, ?_⟩
      · exact .inl ⟨rfl, _, SqL.of (s2 _ _ e1)⟩
      refine ⟨_, rfl, Same.updN (s1.trans s2) hl', ?_, fun i' q' h e => ?_⟩
      · rw [upd_same, show xs.length - (i + 1) = j by omega, List.dropLast_eq_take, lt, Nat.add_sub_cancel, List.take_take, Nat.min_eq_left (Nat.le_succ j)]
      · rcases Nat.lt_or_ge i' (j + 1) with lt | ge
        · have : i' = j := by omega
          subst this
          rw [gx] at e
          cases e
          exact q0
        · exact z1 i' q' ge e
    · have n1 : (!decide (V.int q.num = V.int 0)) = true := by
        rw [decide_eq_false (fun z => q0 (by
          have : q.num = 0 := by injection z
          exact Rat.num_eq_zero.mp this))]
        rfl
      rw [n1]
      exact iteT ((val_var (v := .ref l') rfl) _ (done (j + 1) _ (s1.trans s2) (by omega) (s2 _ _ e1) z1 (.inr ⟨q, by simpa using gx, q0⟩)))
  · obtain ⟨z, rfl, s1, e1, z1⟩ := z
    rw [Nat.sub_self] at e1 z1
    exact st_ret (val_var rfl) (done 0 _ s1 (Nat.zero_le _) e1 z1 (.inl rfl))
def psum (xs ys : List Rat) : List Rat := ofN (max xs.length ys.length) fun i => co xs i + co ys i
def rsum : Nat → (Nat → Rat) → Rat
  | 0, _ => 0
  | n + 1, f => rsum n f + f n
theorem rsum_congr {n : Nat} {f g : Nat → Rat} (h : ∀ i, i < n → f i = g i) : rsum n f = rsum n g := by
  induction n with
  | zero => rfl
  | succ n ih => rw [rsum, rsum, ih fun i hi => h i (by omega), h n (by omega)]
def cvl (xs ys : List Rat) (i : Nat) : Rat := rsum (i + 1) fun s => co xs s * co ys (i - s)
def pmul (xs ys : List Rat) : List Rat := ofN (xs.length + ys.length) (cvl xs ys)
theorem rows_lst {f : Nat → Rat} {n : Nat} {l : Addr} {vs : List V} {H : Hp} (e : H l = some (.lst vs)) (r : Rows (fun i v H => ∃ p, v = V.ref p ∧ Lo H p (f i)) 0 n vs H) : Lst H l ((List.range n).map f) :=
  ⟨vs, e, All2.mk (by rw [r.2, List.length_map, List.length_range]) fun i v q hv hq => by
    have hi : i < n := by rw [← r.2]; exact (List.getElem?_eq_some_iff.mp hv).1
    obtain ⟨p, rfl, lo⟩ := r.1.get hv
    rw [Nat.zero_add] at lo
    rw [List.getElem?_map, List.getElem?_range hi] at hq
    cases hq
    exact ⟨p, rfl, lo⟩⟩
theorem Lst.len {H : Hp} {l : Addr} {xs : List Rat} (h : Lst H l xs) : ∃ vs, H l = some (.lst vs) ∧ vs.length = xs.length := by
  obtain ⟨vs, e, al⟩ := h
  exact ⟨vs, e, al.len⟩
theorem v_lenQ {σ : L2.St} {H : Hp} {te : TE} {l : Addr} {xs : List Rat} (h : Val te σ H (.ref l)) (q : Lst H l xs) : Val (tCB (fun xs H Q => ∃ p ys, xs = [.ref p] ∧ (SqL K H p ys ∨ SqT K H p ys) ∧ Q (.int ys.length) H) (tCons te tNil)) σ H (.int (xs.length : Int)) := by
  obtain ⟨vs, e, n⟩ := q.len
  exact Val.is (v_len h (.inl (SqL.of e))) (by rw [n])
theorem rep_flat (v : V) : ∀ k, (List.replicate k [v]).flatten = List.replicate k v
  | 0 => rfl
  | k + 1 => by rw [List.replicate_succ, List.replicate_succ, List.flatten_cons, rep_flat v k]; rfl
theorem pad_all {H : Hp} {t : Addr} {vs : List V} {xs : List Rat} (al : All2 (fun v q => ∃ p, v = V.ref p ∧ Lo H p q) vs xs) (lt : Lo H t 0) {k : Nat} : All2 (fun v q => ∃ p, v = V.ref p ∧ Lo H p q) (vs ++ List.replicate k (V.ref t)) (xs ++ List.replicate k 0) := by
  have rep : ∀ k, All2 (fun v q => ∃ p, v = V.ref p ∧ Lo H p q) (List.replicate k (V.ref t)) (List.replicate k (0 : Rat)) := fun k => by
    induction k with
    | zero => exact .nil
    | succ k ih => exact .cons ⟨t, rfl, lt⟩ ih
  induction al with
  | nil => exact rep k
  | cons h _ ih => exact .cons h ih
theorem l_pad {σ : L2.St} {H : Hp} {t1 t2 : TE} {l : Addr} {xs : List Rat} {k : Nat} {Q : VK} (h : Val t1 σ H (.ref l)) (hl : Lst H l xs) (hn : xs.length ≤ 1000) (hk : k ≤ 1000) (h2 : ∀ H1, Same H H1 → Val t2 σ H1 (.int (k : Int)))
    (q : ∀ p H', Same H H' → Lst H' p (xs ++ List.replicate k 0) → Q (.ref p) H') : tOp rCat t1 (tOp rRep (tLst (tCons (tTup (tCons (tC (.int 0)) (tCons (tC (.int 1)) tNil))) tNil)) t2) σ H Q := by
  obtain ⟨vs, e, al⟩ := hl
  have len := al.len
  refine op_l h ?_
  refine l_s (va_1 (l_tup (va_cons val_c (va_cons val_c va_nil)) (by decide) fun t ht => ⟨by show 1 ≤ sizeLine; decide, fun z hz => ?_⟩))
  have s1 := Same.new' (o := .tup [.int 0, .int 1]) ht
  have s2 := Same.new' (o := .lst [.ref t]) hz
  refine (h2 _ (s1.trans s2)) _ ⟨z, k, [.ref t], rfl, rfl, upd_same, by omega, by omega, ?_, fun r hr => ?_⟩
  · rw [Int.toNat_natCast]
    exact Nat.le_trans (by show 1 * k ≤ 1000; omega) (show 1000 ≤ sizeLine by decide)
  have s3 := Same.new' (o := .lst (List.replicate (k : Int).toNat [V.ref t]).flatten) hr
  refine ⟨l, r, vs, _, rfl, rfl, s3 _ _ (s2 _ _ (s1 _ _ e)), upd_same, ?_, fun p hp => ?_⟩
  · rw [Int.toNat_natCast, List.length_flatten, List.map_replicate, List.sum_replicate_nat]
    exact Nat.le_trans (by show vs.length + k * 1 ≤ 2000; omega) (show 2000 ≤ sizeLine by decide)
  · have s4 := Same.new' (o := .lst (vs ++ (List.replicate (k : Int).toNat [V.ref t]).flatten)) hp
    have S := ((s1.trans s2).trans s3).trans s4
    refine q p _ S ⟨_, upd_same, ?_⟩
    have fl : (List.replicate (k : Int).toNat [V.ref t]).flatten = List.replicate k (V.ref t) := by rw [Int.toNat_natCast, rep_flat]
    rw [fl] at S s4 s3 ⊢
    exact pad_all (al.imp fun v q ⟨p, e, lo⟩ => ⟨p, e, lo.same S⟩) (s4 _ _ (s3 _ _ (s2 _ _ upd_same)))
theorem co_pad (xs : List Rat) (k i : Nat) (q : Rat) (h : (xs ++ List.replicate k 0)[i]? = some q) : q = co xs i := by
  rcases Nat.lt_or_ge i xs.length with lt | ge
  · rw [List.getElem?_append_left lt] at h
    exact (co_some h).symm
  · rw [List.getElem?_append_right ge, List.getElem?_replicate] at h
    split at h
    · cases h
      exact (co_none ge).symm
    · cases h
def spLPlus2 (f : List Rat → List Rat → List Rat) : Sp := fun vs H Q _ => ∃ (l b : Addr) (xs ys : List Rat) (n m : Nat), vs = [.ref l, .ref b] ∧ Lst H l xs ∧ Lst H b ys ∧ Sms n xs ∧ Sms m ys ∧ 1 ≤ n ∧ 1 ≤ m ∧ n ≤ 900 ∧ m ≤ 900 ∧ xs.length ≤ 500 ∧ ys.length ≤ 500 ∧ ∀ (l' : Addr) (H' : Hp), Same H H' → Lst H' l' (f xs ys) → Q (.ref l') H'
theorem ok_law_p_plus (T : Txt K mg) : FnOk P w K mg base CX0 4 (fA mg "_law_p_plus") (fDat K (fA mg "_law_p_plus")) ["_law_one", "_law_two"] (spLPlus2 psum) := by
  have G_law_poly := ok_law_poly (P := P) (w := w) (base := base) T
  have G_law_plus := ok_law_plus (P := P) (w := w) (base := base) T
  refine T._law_p_plus.F.ok sc_law_p_plus (fun vs H Q E h => ?_) (fun cdv A outer s H vs Q E hr h => ?_)
  · obtain ⟨l, b, xs, ys, n, m, rfl, _⟩ := h
    rfl
  obtain ⟨l, b, xs, ys, n, m, rfl, Lx, Ly, sx, sy, n1, m1, hn, hm, hx, hy, k⟩ := h
  refine ⟨_, (pss_cons (ps_set (i := 2) sc_law_p_plus.nd rfl (Or.inl rfl) (pe_callB (cr_max rfl) (by rfl) T.max (by decide +kernel) (pa_cons (pe_lst (pa_cons (pe_callB call_len_seq (by rfl) T.len PySem.boot_len (pa_cons (pv 0) pa_nil)) (pa_cons (pe_callB call_len_seq (by rfl) T.len PySem.boot_len (pa_cons (pv 1) pa_nil)) pa_nil))) pa_nil)))
  (pss_cons (ps_par (i := 3) (j := 4) (by rfl) sc_law_p_plus.nd rfl rfl (by decide) rfl rfl (pa_cons (pe_op op_cat (pv 0) (pe_op op_rep (pe_lst (pa_cons (pe_tup (pa_cons pe_int (pa_cons pe_int pa_nil))) pa_nil)) (pe_op op_sub (pv 2) (pe_callB call_len_seq (by rfl) T.len PySem.boot_len (pa_cons (pv 0) pa_nil))))) (pa_cons (pe_op op_cat (pv 1) (pe_op op_rep (pe_lst (pa_cons (pe_tup (pa_cons pe_int (pa_cons pe_int pa_nil))) pa_nil)) (pe_op op_sub (pv 2) (pe_callB call_len_seq (by rfl) T.len PySem.boot_len (pa_cons (pv 1) pa_nil))))) pa_nil)) (by rfl))
  (pss_one (ps_ret (pe_c T._law_poly G_law_poly (hr.mono (by decide)) (pa_cons (pe_lc (own := [("_law_a", 5), ("_law_b", 6)]) (g := gTup K 2 (gCons (gName 5) (gCons (gName 6) gNil))) (tt := tYes) (by rfl) sc_law_p_plus.nd (pi_zip (by rfl) T.zip (pa_cons (pv 3) (pa_cons (pv 4) pa_nil))) (blkOk_by (own := [("_law_a", 5), ("_law_b", 6)]) (N := ["_law_one", "_law_two", "_law_many", "_law_first", "_law_second", "_law_a", "_law_b"]) (sc := defScope s_law_p_plus) (by decide +kernel)) (fun _ _ _ _ _ => pg_tup rfl (pgs_cons (pg_name (i := 5) sc_law_p_plus.nd rfl (Or.inl rfl)) (pgs_cons (pg_name (i := 6) sc_law_p_plus.nd rfl (Or.inl rfl)) pgs_nil))) (fun _ _ _ _ _ => pts_nil) (fun _ _ _ _ _ => (pe_c T._law_plus G_law_plus (hr.mono (by decide)) (pa_cons (pv 5) (pa_cons (pv 6) pa_nil))))) pa_nil)))))), ?_⟩
  refine q_asg (va_1 (l_s (va_s (v_lenQ (val_var rfl) Lx) (va_1 ((v_lenQ (val_var rfl) Ly) _ ⟨by show 2 ≤ sizeLine; decide, fun q hq => ⟨q, [(xs.length : Int), (ys.length : Int)], rfl, SqL.of upd_same, by show 0 < 2; decide, fun mx hm1 hm2 => ?_⟩⟩)))))
  obtain rfl : mx = ((max xs.length ys.length : Nat) : Int) := by
    have h1 := hm2 (xs.length : Int) (by simp)
    have h2 := hm2 (ys.length : Int) (by simp)
    simp at hm1
    rcases hm1 with e | e <;> omega
  have s1 := Same.new' (o := .lst [V.int (xs.length : Int), V.int (ys.length : Int)]) hq
  refine q_par (ta_two (l_pad (k := max xs.length ys.length - xs.length) (val_var rfl) (Lx.same s1) (by omega) (by omega) (fun H2 s2 => ?_) fun l1 H2 s2 L1 => l_pad (k := max xs.length ys.length - ys.length) (val_var rfl) ((Ly.same s1).same s2) (by omega) (by omega) (fun H3 s3 => ?_) fun l2 H3 s3 L2 => ⟨_, _, rfl, ?_⟩))
  · exact Val.is (v_sub (val_var rfl) (v_lenQ (val_var rfl) ((Lx.same s1).same s2))) (by congr 1; omega)
  · exact Val.is (v_sub (val_var rfl) (v_lenQ (val_var rfl) (((Ly.same s1).same s2).same s3))) (by congr 1; omega)
  obtain ⟨vs1, e1, al1⟩ := L1.same s3
  obtain ⟨vs2, e2, al2⟩ := L2
  have len1 : vs1.length = max xs.length ys.length := by rw [al1.len, List.length_append, List.length_replicate]; omega
  have len2 : vs2.length = max xs.length ys.length := by rw [al2.len, List.length_append, List.length_replicate]; omega
  refine r_ret (te := tCall _ _ _ _) (va_1 (l_lcZP (R := fun i v H => ∃ p, v = V.ref p ∧ Lo H p (co xs i + co ys i)) (fun i v H1 H2 s ⟨p, h1, lo⟩ => ⟨p, h1, lo.same s⟩) (lo_offR _) (va_cons (val_var rfl) (va_cons (val_var rfl) va_nil)) (SqL.of e1) (SqL.of e2) (by omega) (by omega) (fun i x y U H4 hx hy s4 eU => turn_two (SqT.of eU) rfl fun Q q => ?_) (fun l5 zs H5 s5 e5 r5 => ?_)))
  · obtain ⟨q1, hq1, p1, rfl, lo1⟩ := al1.get hx
    obtain ⟨q2, hq2, p2, rfl, lo2⟩ := al2.get hy
    have c1 := co_pad _ _ _ _ hq1
    have c2 := co_pad _ _ _ _ hq2
    subst c1 c2
    exact c_lplus (va_cons (val_var rfl) (va_cons (val_var rfl) va_nil)) (lo1.same s4) (lo2.same s4) (sx.co n1 i) (sy.co m1 i) (by omega) (by omega) fun c H6 s6 lo6 => q _ H6 s6 ⟨c, rfl, lo6⟩
  · rw [len1] at r5
    exact ⟨l5, _, rfl, rows_lst e5 r5, by rw [List.length_map, List.length_range]; omega, fun l' H' s _ h => k l' H' ((((s1.trans s2).trans s3).trans s5).trans s) h⟩
theorem op_l' {r : R2} {ta tb : TE} {σ : L2.St} {H : Hp} {Q : VK} (k : ta σ H fun x H1 => tb σ H1 fun y H2 => r x y H2 Q) : tOp r ta tb σ H Q := k
theorem ixN_nat {n j : Nat} (h : j < n) : ixN n (j : Int) = some j := by
  unfold ixN
  rw [if_pos (by omega), if_pos (by omega), Int.toNat_natCast]

theorem rsum_zero {n : Nat} {f : Nat → Rat} (h : ∀ i, i < n → f i = 0) : rsum n f = 0 := by
  induction n with
  | zero => rfl
  | succ n ih => rw [rsum, ih fun i hi => h i (by omega), h n (by omega), Rat.add_zero]
theorem rsum_cut (a : Nat) (f : Nat → Rat) : ∀ d, (∀ i, a ≤ i → i < a + d → f i = 0) → rsum (a + d) f = rsum a f
  | 0, _ => rfl
  | d + 1, h => by
    show rsum (a + d) f + f (a + d) = _
    rw [rsum_cut a f d fun i h1 h2 => h i h1 (by omega), h (a + d) (by omega) (by omega), Rat.add_zero]
theorem rsum_cut' {a b : Nat} {f : Nat → Rat} (l : a ≤ b) (h : ∀ i, a ≤ i → i < b → f i = 0) : rsum b f = rsum a f := by
  obtain ⟨d, rfl⟩ : ∃ d, b = a + d := ⟨b - a, by omega⟩
  exact rsum_cut a f d h
def trm (xs ys : List Rat) (t s : Nat) : Rat := if s ≤ t then co xs s * co ys (t - s) else 0
theorem cvl_trm (xs ys : List Rat) (t : Nat) : cvl xs ys t = rsum xs.length (trm xs ys t) := by
  have e1 : cvl xs ys t = rsum (t + 1) (trm xs ys t) := rsum_congr fun i hi => by
    unfold trm
    rw [if_pos (by omega)]
  rw [e1]
  rcases Nat.le_total (t + 1) xs.length with l | l
  · exact (rsum_cut' l fun i h1 h2 => by unfold trm; rw [if_neg (by omega)]).symm
  · exact rsum_cut' l fun i h1 h2 => by
      unfold trm
      split
      · rw [co_none h1, Rat.zero_mul]
      · rfl
theorem cvl_zero {xs ys : List Rat} {t : Nat} (h : xs.length + ys.length - 1 ≤ t) : cvl xs ys t = 0 := by
  rw [cvl_trm]
  refine rsum_zero fun s hs => ?_
  unfold trm
  split
  · rw [co_none (xs := ys) (by omega), Rat.mul_zero]
  · rfl
theorem trm_sm {xs ys : List Rat} {n m : Nat} (sx : Sms n xs) (sy : Sms m ys) (n1 : 1 ≤ n) (m1 : 1 ≤ m) (t s : Nat) : Sm (n + m) (trm xs ys t s) := by
  unfold trm
  split
  · exact (sx.co n1 s).mul (sy.co m1 _)
  · exact Sm.zero (by omega)
theorem rsum_sm {f : Nat → Rat} {n : Nat} (h : ∀ s, Sm n (f s)) : ∀ i, Sm ((n + 1) * i + 1) (rsum i f)
  | 0 => Sm.zero (by omega)
  | i + 1 => ((rsum_sm h i).add (h i)).mono (by rw [Nat.mul_succ]; omega)
def Acc (H : Hp) (f : Addr) (N : Nat) (F : Nat → Rat) : Prop := ∃ ws, H f = some (.lst ws) ∧ ws.length = N ∧ ∀ (t : Nat) v, ws[t]? = some v → ∃ p, v = .ref p ∧ Lo H p (F t)
theorem Acc.congr {H : Hp} {f : Addr} {N : Nat} {F G : Nat → Rat} (h : Acc H f N F) (e : ∀ t, t < N → F t = G t) : Acc H f N G := by
  obtain ⟨ws, h1, h2, h3⟩ := h
  refine ⟨ws, h1, h2, fun t v hv => ?_⟩
  have lt : t < N := by rw [← h2]; exact (List.getElem?_eq_some_iff.mp hv).1
  rw [← e t lt]
  exact h3 t v hv
theorem Acc.lst {H : Hp} {f : Addr} {N : Nat} {F : Nat → Rat} (h : Acc H f N F) : Lst H f ((List.range N).map F) := by
  obtain ⟨ws, h1, h2, h3⟩ := h
  refine ⟨ws, h1, All2.mk (by rw [h2, List.length_map, List.length_range]) fun i v q hv hq => ?_⟩
  have hi : i < N := by rw [← h2]; exact (List.getElem?_eq_some_iff.mp hv).1
  rw [List.getElem?_map, List.getElem?_range hi] at hq
  cases hq
  exact h3 i v hv
def spLTimes : Sp := fun vs H Q _ => ∃ (l b : Addr) (xs ys : List Rat) (n m : Nat), vs = [.ref l, .ref b] ∧ Lst H l xs ∧ Lst H b ys ∧ Sms n xs ∧ Sms m ys ∧ 1 ≤ n ∧ 1 ≤ m ∧ (n + m + 1) * xs.length + n + m + 1 ≤ 900 ∧ xs.length ≤ 400 ∧ ys.length ≤ 400 ∧ ∀ (l' : Addr) (H' : Hp), Same H H' → Lst H' l' (pmul xs ys) → Q (.ref l') H'
theorem ok_law_p_times (T : Txt K mg) : FnOk P w K mg base CX0 4 (fA mg "_law_p_times") (fDat K (fA mg "_law_p_times")) ["_law_one", "_law_two"] spLTimes := by
  have G_law_poly := ok_law_poly (P := P) (w := w) (base := base) T
  have G_law_plus := ok_law_plus (P := P) (w := w) (base := base) T
  have G_law_times := ok_law_times (P := P) (w := w) (base := base) T
  refine T._law_p_times.F.ok sc_law_p_times (fun vs H Q E h => ?_) (fun cdv A outer s H vs Q E hr h => ?_)
  · obtain ⟨l, b, xs, ys, n, m, rfl, _⟩ := h
    rfl
  obtain ⟨l, b, xs, ys, n, m, rfl, Lx, Ly, sx, sy, n1, m1, hn, hx, hy, k⟩ := h
  refine ⟨_, (pss_cons (ps_set (i := 2) sc_law_p_times.nd rfl (Or.inl rfl) (pe_op op_rep (pe_lst (pa_cons (pe_tup (pa_cons pe_int (pa_cons pe_int pa_nil))) pa_nil)) (pe_callB (cr_max rfl) (by rfl) T.max (by decide +kernel) (pa_cons (pe_lst (pa_cons pe_int (pa_cons (pe_op op_sub (pe_op op_add (pe_callB call_len_seq (by rfl) T.len PySem.boot_len (pa_cons (pv 0) pa_nil)) (pe_callB call_len_seq (by rfl) T.len PySem.boot_len (pa_cons (pv 1) pa_nil))) pe_int) pa_nil))) pa_nil))))
  (pss_cons (ps_for PassesOwn.never rfl (pi_range1 (by rfl) T.range (pa_cons (pe_callB call_len_seq (by rfl) T.len PySem.boot_len (pa_cons (pv 0) pa_nil)) pa_nil)) (pg_name (i := 3) sc_law_p_times.nd rfl (Or.inl rfl))
  (pss_one (ps_for PassesOwn.never rfl (pi_range1 (by rfl) T.range (pa_cons (pe_callB call_len_seq (by rfl) T.len PySem.boot_len (pa_cons (pv 1) pa_nil)) pa_nil)) (pg_name (i := 4) sc_law_p_times.nd rfl (Or.inl rfl))
  (pss_one (ps_asg (pe_c T._law_plus G_law_plus (hr.mono (by decide)) (pa_cons (pe_ix ix_list (pv 2) (pe_op op_add (pv 3) (pv 4)) (fun _ _ => rfl)) (pa_cons (pe_c T._law_times G_law_times (hr.mono (by decide)) (pa_cons (pe_ix ix_list (pv 0) (pv 3) (fun _ _ => rfl)) (pa_cons (pe_ix ix_list (pv 1) (pv 4) (fun _ _ => rfl)) pa_nil))) pa_nil))) (pg_sub (pv 2) (pe_op op_add (pv 3) (pv 4)) set_list))))))
  (pss_one (ps_ret (pe_c T._law_poly G_law_poly (hr.mono (by decide)) (pa_cons (pv 2) pa_nil)))))), ?_⟩
  let N := xs.length + ys.length - 1
  refine q_asg (op_l' (l_s (va_1 (l_tup (va_cons val_c (va_cons val_c va_nil)) (by decide) fun t ht => ⟨by show 1 ≤ sizeLine; decide, fun z hz => ?_⟩))))
  have s1 := Same.new' (o := .tup [.int 0, .int 1]) ht
  have s2 := Same.new' (o := .lst [.ref t]) hz
  refine va_1 (l_s (va_s val_c (va_1 ((v_sub (v_add (v_lenQ (val_var rfl) ((Lx.same s1).same s2)) (v_lenQ (val_var rfl) ((Ly.same s1).same s2))) val_c) _ ⟨by show 2 ≤ sizeLine; decide, fun q hq => ⟨q, [0, (xs.length : Int) + (ys.length : Int) - 1], rfl, SqL.of upd_same, by show 0 < 2; decide, fun mx hm1 hm2 => ?_⟩⟩))))
  have s3 := Same.new' (o := .lst [.int 0, .int ((xs.length : Int) + (ys.length : Int) - 1)]) hq
  obtain rfl : mx = (N : Int) := by
    have h1 := hm2 0 (by simp)
    have h2 := hm2 ((xs.length : Int) + (ys.length : Int) - 1) (by simp)
    simp at hm1
    show mx = ((xs.length + ys.length - 1 : Nat) : Int)
    rcases hm1 with e | e <;> omega
  have hN : N ≤ 800 := by show xs.length + ys.length - 1 ≤ 800; omega
  refine ⟨z, (N : Int), [.ref t], rfl, rfl, s3 _ _ upd_same, by omega, by omega, Nat.le_trans (by show 1 * (N : Int).toNat ≤ 1000; omega) (show 1000 ≤ sizeLine by decide), fun f hf => ?_⟩
  have s4 := Same.new' (o := .lst (List.replicate (N : Int).toNat [V.ref t]).flatten) hf
  have fl : (List.replicate (N : Int).toNat [V.ref t]).flatten = List.replicate N (V.ref t) := by rw [Int.toNat_natCast, rep_flat]
  have A0 : Acc _ f N (fun _ => 0) := ⟨_, upd_same (o := .lst (List.replicate (N : Int).toNat [V.ref t]).flatten), by rw [fl, List.length_replicate], fun i v hv => by
    rw [fl, List.getElem?_replicate] at hv
    split at hv
    · cases hv
      exact ⟨t, rfl, s4 _ _ (s3 _ _ (s2 _ _ (show Lo _ t 0 from upd_same)))⟩
    · cases hv⟩
  have S := ((s1.trans s2).trans s3).trans s4
  have fH : H f = none := by
    cases h : H f with
    | none => rfl
    | some o => rw [((s1.trans s2).trans s3) _ _ h] at hf; cases hf
  revert A0 S
  generalize upd _ f (.lst (List.replicate (N : Int).toNat [V.ref t]).flatten) = H0
  intro A0 S
  refine q_forR1 (n := xs.length) (va_cons (v_lenQ (val_var rfl) (Lx.same S)) va_nil) (by omega) (fun i σ H1 => ∃ z z', σ = [some (.ref l), some (.ref b), some (.ref f), z, z'] ∧ Same H H1 ∧ Acc H1 f N (fun t => rsum i (trm xs ys t))) ⟨_, _, rfl, S, A0⟩ (fun i σ H1 hi z => ?_) (fun σ H1 z => ?_)
  · obtain ⟨z, z', rfl, S1, A1⟩ := z
    refine g_name (st_forR1 (n := ys.length) (va_cons (v_lenQ (val_var rfl) (Ly.same S1)) va_nil) (by omega) (fun k σ H2 => ∃ z', σ = [some (.ref l), some (.ref b), some (.ref f), some (.int (i : Int)), z'] ∧ Same H H2 ∧ Acc H2 f N (fun t => rsum i (trm xs ys t) + if i ≤ t ∧ t < i + k then co xs i * co ys (t - i) else 0))
      ⟨_, rfl, S1, A1.congr fun t _ => by rw [if_neg (by omega), Rat.add_zero]⟩ (fun k σ H2 hk z => ?_) (fun σ H2 z => ?_))
    · obtain ⟨z', rfl, S2, A2⟩ := z
      obtain ⟨ws, e1, e2, e3⟩ := A2
      have lj : i + k < N := by show i + k < xs.length + ys.length - 1; omega
      have gw : ws[i + k]? = some ws[i + k] := List.getElem?_eq_getElem (by omega)
      generalize ws[i + k] = v at gw
      obtain ⟨p, rfl, lo⟩ := e3 _ _ gw
      have lo : Lo H2 p (rsum i (trm xs ys (i + k)) + if i ≤ i + k ∧ i + k < i + k then co xs i * co ys (i + k - i) else 0) := lo
      rw [if_neg (by omega), Rat.add_zero] at lo
      obtain ⟨us, hu, alu⟩ := Lx.same S2
      obtain ⟨vs, hv, alv⟩ := Ly.same S2
      obtain ⟨u, gu⟩ : ∃ u, us[i]? = some u := ⟨_, List.getElem?_eq_getElem (by rw [alu.len]; exact hi)⟩
      obtain ⟨v, gv⟩ : ∃ v, vs[k]? = some v := ⟨_, List.getElem?_eq_getElem (by rw [alv.len]; exact hk)⟩
      obtain ⟨x, gx, px, rfl, lx⟩ := alu.get gu
      obtain ⟨y, gy, py, rfl, ly⟩ := alv.get gv
      have sx1 := sx x (get_mem gx)
      have sy1 := sy y (get_mem gy)
      have ei : (i : Int) + (k : Int) = ((i + k : Nat) : Int) := by omega
      have bd : (n + m + 1) * (i + 1) ≤ (n + m + 1) * xs.length := Nat.mul_le_mul_left _ (by omega)
      have bd' : (n + m + 1) * (i + 1) = (n + m + 1) * i + (n + m + 1) := Nat.mul_succ _ _
      refine g_name (call_1 ((v_ixL (n := i + k) (val_var rfl) (Val.is (v_add (val_var rfl) (val_var rfl)) (by rw [ei])) (SqL.of e1) gw) _ (va_1 (c_ltimes (va_cons (v_ixL (n := i) (val_var rfl) (val_var rfl) (SqL.of hu) gu) (va_cons (v_ixL (n := k) (val_var rfl) (val_var rfl) (SqL.of hv) gv) va_nil)) lx ly sx1 sy1 (by omega) (by omega) fun c H3 s3 lo3 => ?_))))
      refine cs_lplus (lo.same s3) lo3 (rsum_sm (trm_sm sx sy n1 m1 _) i) (sx1.mul sy1) (by omega) (by omega) fun d H4 s4 lo4 => ?_
      have e4 := s4 _ _ (s3 _ _ e1)
      refine (val_var (v := .ref f) rfl) _ ((Val.is (v_add (val_var rfl) (val_var rfl)) (by rw [ei])) _ ⟨f, ws, _, i + k, rfl, rfl, e4, ixN_nat (by omega), ?_⟩)
      refine ⟨_, rfl, Same.updN ((S2.trans s3).trans s4) fH, ws.set (i + k) (.ref d), upd_same, by rw [List.length_set]; exact e2, fun t v hv => ?_⟩
      rw [List.getElem?_set] at hv
      split at hv
      · rename_i et
        subst et
        rw [if_pos (by omega)] at hv
        cases hv
        refine ⟨d, rfl, ?_⟩
        show Lo _ d (rsum i (trm xs ys (i + k)) + if i ≤ i + k ∧ i + k < i + (k + 1) then co xs i * co ys (i + k - i) else 0)
        rw [if_pos (by omega), co_some gx, Nat.add_sub_cancel_left, co_some gy]
        exact lo_upd e4 lo4
      · rename_i et
        obtain ⟨p', e', lo'⟩ := e3 t v hv
        refine ⟨p', e', ?_⟩
        have iff : (i ≤ t ∧ t < i + (k + 1)) ↔ (i ≤ t ∧ t < i + k) := by omega
        have lo2 := lo_upd (zs := ws.set (i + k) (.ref d)) e4 ((lo'.same s3).same s4)
        show Lo _ p' (rsum i (trm xs ys t) + if i ≤ t ∧ t < i + (k + 1) then co xs i * co ys (t - i) else 0)
        simp only [iff]
        exact lo2
    · obtain ⟨z', rfl, S2, A2⟩ := z
      refine ⟨_, _, rfl, S2, A2.congr fun t _ => ?_⟩
      show _ = rsum i (trm xs ys t) + trm xs ys t i
      unfold trm
      by_cases h1 : i ≤ t
      · rw [if_pos h1]
        by_cases h2 : t < i + ys.length
        · rw [if_pos ⟨h1, h2⟩]
        · rw [if_neg (by omega), co_none (xs := ys) (by omega), Rat.mul_zero]
      · rw [if_neg h1, if_neg (by omega)]
  · obtain ⟨z, z', rfl, S1, A1⟩ := z
    have L1 := A1.lst
    refine r_ret (te := tCall _ _ _ _) (c_call (va_cons (val_var rfl) va_nil) ⟨f, _, rfl, L1, by rw [List.length_map, List.length_range]; omega, fun l' H' s _ L' => k l' H' (S1.trans s) ?_⟩)
    have : trim ((List.range N).map fun t => rsum xs.length (trm xs ys t)) = pmul xs ys := by
      refine eq_of_co (tlen_ofN (n := N)) tlen_ofN fun i => ?_
      show co (ofN N fun t => rsum xs.length (trm xs ys t)) i = _
      unfold pmul
      rw [co_ofN, co_ofN, ← cvl_trm]
      by_cases h1 : i < N
      · rw [if_pos h1, if_pos (by have : N = xs.length + ys.length - 1 := rfl; omega)]
      · rw [if_neg h1]
        split
        · exact (cvl_zero (by have : N = xs.length + ys.length - 1 := rfl; omega)).symm
        · rfl
    rw [← this]
    exact L'
end
end LW

namespace LW
open PySem PySem.Spec PyProof.Rows L2 GL
section
variable {P : Program} {w : World} {K : PySem.W.Frag} {mg : Str → Option Value} {base : Heap}
def adL : List Rat → List Rat → List Rat
  | [], s => s
  | a :: r, [] => a :: r
  | a :: r, b :: s => (a + b) :: adL r s
theorem peval_ad (h : Rat) : ∀ r s : List Rat, peval (adL r s) h = peval r h + peval s h
  | [], s => by show peval s h = 0 + peval s h; rw [Rat.zero_add]
  | a :: r, [] => by show peval (a :: r) h = peval (a :: r) h + 0; rw [Rat.add_zero]
  | a :: r, b :: s => by
    show (a + b) + h * peval (adL r s) h = (a + h * peval r h) + (b + h * peval s h)
    rw [peval_ad h r s]
    grind
/-! ### rows of numbers by values -/
theorem peval_of_co {xs ys : List Rat} (h : ∀ i, co xs i = co ys i) (x : Rat) : peval xs x = peval ys x := by
  rw [peval_rs x xs (xs.length + ys.length) (by omega), peval_rs x ys (xs.length + ys.length) (by omega)]
  exact rs_congr fun j _ => by rw [h]
theorem co_cons (a : Rat) (xs : List Rat) (i : Nat) : co (a :: xs) (i + 1) = co xs i := rfl
theorem co_adL (i : Nat) : ∀ r s : List Rat, co (adL r s) i = co r i + co s i := by
  induction i with
  | zero =>
    intro r s
    match r, s with
    | [], s => show co s 0 = 0 + co s 0; rw [Rat.zero_add]
    | a :: r, [] => show a = a + 0; rw [Rat.add_zero]
    | a :: r, b :: s => rfl
  | succ i ih =>
    intro r s
    match r, s with
    | [], s => show co s (i + 1) = 0 + co s (i + 1); rw [Rat.zero_add]
    | a :: r, [] => show co r i = co r i + 0; rw [Rat.add_zero]
    | a :: r, b :: s => exact ih r s
theorem co_map (c : Rat) (xs : List Rat) (i : Nat) : co (xs.map fun q => c * q) i = c * co xs i := by
  cases h : xs[i]? with
  | none =>
    have := List.getElem?_eq_none_iff.mp h
    rw [co_none this, co_none (by rw [List.length_map]; exact this), Rat.mul_zero]
  | some q => rw [co_some h, co_some (by rw [List.getElem?_map, h]; rfl)]
theorem co_psum (xs ys : List Rat) (i : Nat) : co (psum xs ys) i = co xs i + co ys i := by
  unfold psum
  rw [co_ofN]
  split
  · rfl
  · rw [co_none (xs := xs) (by omega), co_none (xs := ys) (by omega), Rat.add_zero]
theorem peval_psum (xs ys : List Rat) (x : Rat) : peval (psum xs ys) x = peval xs x + peval ys x := by
  rw [← peval_ad]
  exact peval_of_co (fun i => by rw [co_psum, co_adL]) x
theorem cvl_line {xs ys : List Rat} (h : ys.length ≤ 2) (t : Nat) : cvl xs ys t = co ys 0 * co xs t + (if t = 0 then 0 else co ys 1 * co xs (t - 1)) := by
  unfold cvl
  match t with
  | 0 =>
    show (0 : Rat) + co xs 0 * co ys 0 = co ys 0 * co xs 0 + 0
    grind
  | k + 1 =>
    show rsum k (fun s => co xs s * co ys (k + 1 - s)) + co xs k * co ys (k + 1 - k) + co xs (k + 1) * co ys (k + 1 - (k + 1)) = co ys 0 * co xs (k + 1) + co ys 1 * co xs (k + 1 - 1)
    rw [rsum_zero fun i hi => by rw [co_none (xs := ys) (by omega), Rat.mul_zero], show k + 1 - k = 1 by omega, Nat.sub_self, Nat.add_sub_cancel]
    grind
theorem co_pmul_line {xs ys : List Rat} (h : ys.length ≤ 2) (t : Nat) : co (pmul xs ys) t = co ys 0 * co xs t + (if t = 0 then 0 else co ys 1 * co xs (t - 1)) := by
  unfold pmul
  rw [co_ofN]
  split
  · exact cvl_line h t
  · rename_i n
    rw [← cvl_line h]
    exact (cvl_zero (by omega)).symm
theorem peval_line {xs ys : List Rat} (h : ys.length ≤ 2) (x : Rat) : peval (pmul xs ys) x = peval xs x * (co ys 0 + co ys 1 * x) := by
  rw [peval_of_co (ys := adL (xs.map fun q => co ys 0 * q) (0 :: xs.map fun q => co ys 1 * q)) (fun i => by
    rw [co_pmul_line h, co_adL, co_map]
    match i with
    | 0 => rfl
    | i + 1 => rw [co_cons, co_map]; rfl) x, peval_ad, peval_mul]
  show _ + (0 + x * peval (xs.map fun q => co ys 1 * q) x) = _
  rw [peval_mul]
  grind
theorem tlen_below {xs : List Rat} {k : Nat} (h : ∀ i, k ≤ i → co xs i = 0) : tlen xs ≤ k := by
  rcases Nat.lt_or_ge k (tlen xs) with lt | ge
  · obtain ⟨q, hq, nz⟩ := tlen_last (k := tlen xs - 1) (by omega : tlen xs = tlen xs - 1 + 1)
    have := h (tlen xs - 1) (by omega)
    rw [co_some hq] at this
    exact (nz this).elim
  · exact ge
theorem pmul_len {xs ys : List Rat} {k : Nat} (h : ys.length ≤ 2) (hk : xs.length ≤ k) : (pmul xs ys).length ≤ k + 1 := by
  have e : tlen (pmul xs ys) = (pmul xs ys).length := tlen_ofN
  rw [← e]
  refine tlen_below fun i hi => ?_
  rw [co_pmul_line h, co_none (xs := xs) (i := i) (by omega), co_none (xs := xs) (i := i - 1) (by omega), Rat.mul_zero, Rat.mul_zero]
  split <;> grind
theorem mem_ofN {n : Nat} {f : Nat → Rat} {q : Rat} (h : q ∈ ofN n f) : ∃ i, i < n ∧ q = f i := by
  unfold ofN trim at h
  obtain ⟨i, hi, rfl⟩ := List.mem_map.mp (List.mem_of_mem_take h)
  exact ⟨i, List.mem_range.mp hi, rfl⟩
theorem pmul_bd {D M E' N : Nat} {xs ys : List Rat} (hx : Bds D M xs) (hy : Bds E' N ys) (h : ys.length ≤ 2) : Bds (D * E') (M * N + M * N) (pmul xs ys) := fun q hq => by
  obtain ⟨i, _, rfl⟩ := mem_ofN hq
  rw [cvl_line h, Rat.mul_comm]
  refine ((hx.co i).mul (hy.co 0)).add ?_
  split
  · exact Bd.zero
  · rw [Rat.mul_comm]
    exact (hx.co _).mul (hy.co 1)
theorem psum_bd {D M N : Nat} {xs ys : List Rat} (hx : Bds D M xs) (hy : Bds D N ys) : Bds D (M + N) (psum xs ys) := fun q hq => by
  obtain ⟨i, _, rfl⟩ := mem_ofN hq
  exact (hx.co i).add (hy.co i)
theorem psum_len {xs ys : List Rat} {k : Nat} (hx : xs.length ≤ k) (hy : ys.length ≤ k) : (psum xs ys).length ≤ k := by
  have e : tlen (psum xs ys) = (psum xs ys).length := tlen_ofN
  rw [← e]
  refine tlen_below fun i hi => ?_
  rw [co_psum, co_none (by omega), co_none (by omega), Rat.add_zero]
theorem poly_vals {xs ys : List Rat} (hx : tlen xs = xs.length) (hy : tlen ys = ys.length) (h : ∀ t, peval xs t = peval ys t) : xs = ys := by
  refine eq_of_co hx hy fun i => ?_
  have z := uniq1 (xs.length + ys.length + i) (fun j => co xs j - co ys j) (fun x => by
    have e := h x
    rw [peval_rs x xs (xs.length + ys.length + i + 1) (by omega), peval_rs x ys (xs.length + ys.length + i + 1) (by omega)] at e
    have e2 : rs (fun j => (co xs j - co ys j) * rp x j) (List.range (xs.length + ys.length + i + 1)) = rs (fun j => co xs j * rp x j) (List.range (xs.length + ys.length + i + 1)) + rs (fun j => (-1) * (co ys j * rp x j)) (List.range (xs.length + ys.length + i + 1)) := by
      rw [← rs_add]
      exact rs_congr fun j _ => by grind
    rw [e2, rs_mulL, e]
    grind) i (by omega)
  grind
end
end LW

namespace LW
open PySem PySem.Spec PyProof.Rows L2 GL
section
variable {P : Program} {w : World} {K : PySem.W.Frag} {mg : Str → Option Value} {base : Heap}
/-! ### a polynomial along a line, by the law -/
/-- a term of the walk: i lines of x and j of y multiplied -/
structure Tm (H : Hp) (l : Addr) (q X SX Y SY : Rat) (i j : Nat) (xs : List Rat) : Prop where
  lst : Lst H l xs
  len : xs.length ≤ i + j + 1
  bd : Bds (q.den * ((X.den * SX.den) ^ i * (Y.den * SY.den) ^ j)) (4 * 6 ^ (i + j)) xs
  ev : ∀ t, peval xs t = q * (rp (X + SX * t) i * rp (Y + SY * t) j)
/-- a line as a row of numbers -/
structure Lin (H : Hp) (l : Addr) (X SX : Rat) (ys : List Rat) : Prop where
  lst : Lst H l ys
  len : ys.length ≤ 2
  c0 : co ys 0 = X
  c1 : co ys 1 = SX
  bd : Bds (X.den * SX.den) 3 ys
  sm : Sms 10 ys
theorem Lin.same {H H' : Hp} {l : Addr} {X SX : Rat} {ys : List Rat} (h : Lin H l X SX ys) (s : L2.Same H H') : Lin H' l X SX ys := ⟨h.lst.same s, h.len, h.c0, h.c1, h.bd, h.sm⟩
theorem lin_of {H : Hp} {l : Addr} {X SX : Rat} (h : Lst H l (trim [X, SX])) (sx : Sm 10 X) (ss : Sm 10 SX) (bx : Bd L9 3 X) (bs : Bd L9 3 SX) : Lin H l X SX (trim [X, SX]) := by
  have mem : ∀ q ∈ trim [X, SX], q = X ∨ q = SX := fun q hq => by
    have := List.mem_of_mem_take hq
    simp only [List.mem_cons, List.not_mem_nil, or_false] at this
    exact this
  refine ⟨h, by rw [trim_len]; exact tlen_le [X, SX], by rw [co_trim]; rfl, by rw [co_trim]; rfl, fun q hq => ?_, fun q hq => ?_⟩
  · rcases mem q hq with rfl | rfl
    · exact ⟨Nat.dvd_mul_right _ _, bx.2⟩
    · exact ⟨Nat.dvd_mul_left _ _, bs.2⟩
  · rcases mem q hq with rfl | rfl
    · exact sx
    · exact ss
theorem den_pow {a b : Nat} (ha : a < 2 ^ 10) (hb : b < 2 ^ 10) (i : Nat) : (a * b) ^ i ≤ 2 ^ (20 * i) := by
  rw [Nat.pow_mul]
  exact Nat.pow_le_pow_left (Nat.le_trans (Nat.mul_le_mul (Nat.le_of_lt ha) (Nat.le_of_lt hb)) (by decide)) i
theorem six_le {k n : Nat} (h : k ≤ n) : (4 : Nat) * 6 ^ k ≤ 4 * 6 ^ n := Nat.mul_le_mul_left _ (Nat.pow_le_pow_right (by decide) h)
/-- what the sizes of a term are, before another line comes -/
theorem Tm.sms {H : Hp} {l : Addr} {q X SX Y SY : Rat} {i j : Nat} {xs : List Rat} (h : Tm H l q X SX Y SY i j xs) (sq : Sm 10 q) (s1 : Sm 10 X) (s2 : Sm 10 SX) (s3 : Sm 10 Y) (s4 : Sm 10 SY) (hk : i + j ≤ 5) : Sms (10 + 20 * (i + j) + 15) xs := fun r hr => by
  have b := h.bd r hr
  have p1 := Nat.pow_pos (n := i) (Nat.mul_pos X.den_pos SX.den_pos)
  have p2 := Nat.pow_pos (n := j) (Nat.mul_pos Y.den_pos SY.den_pos)
  have le : q.den * ((X.den * SX.den) ^ i * (Y.den * SY.den) ^ j) ≤ 2 ^ (10 + 20 * (i + j)) := by
    have h1 := den_pow s1.2 s2.2 i
    have h2 := den_pow s3.2 s4.2 j
    have := Nat.mul_le_mul (Nat.le_of_lt sq.2) (Nat.mul_le_mul h1 h2)
    rw [← Nat.pow_add, ← Nat.pow_add] at this
    rw [show 10 + 20 * (i + j) = 10 + (20 * i + 20 * j) by omega]
    exact this
  refine b.smA (Nat.mul_pos q.den_pos (Nat.mul_pos p1 p2)) (Nat.lt_of_le_of_lt le (Nat.pow_lt_pow_right (by decide) (by omega))) ?_
  have m := Nat.mul_le_mul (six_le hk) le
  refine Nat.lt_of_le_of_lt m ?_
  rw [show 10 + 20 * (i + j) + 15 = 15 + (10 + 20 * (i + j)) by omega, Nat.pow_add 2 15]
  exact Nat.mul_lt_mul_of_pos_right (by decide) (Nat.two_pow_pos _)
theorem Tm.x {H H' : Hp} {l l' : Addr} {q X SX Y SY : Rat} {i j : Nat} {xs ys : List Rat} (h : Tm H l q X SX Y SY i j xs) {L : Addr} (y : Lin H L X SX ys) (e : Lst H' l' (pmul xs ys)) : Tm H' l' q X SX Y SY (i + 1) j (pmul xs ys) := ⟨e, by
  have := pmul_len y.len h.len
  omega, by
  have := pmul_bd h.bd y.bd y.len
  intro r hr
  refine (this r hr).mono ?_ ?_
  · rw [show q.den * ((X.den * SX.den) ^ i * (Y.den * SY.den) ^ j) * (X.den * SX.den) = q.den * ((X.den * SX.den) ^ (i + 1) * (Y.den * SY.den) ^ j) by rw [Nat.pow_succ]; ac_rfl]
    exact Nat.dvd_refl _
  · rw [show i + 1 + j = (i + j) + 1 by omega, Nat.pow_succ]
    omega, fun t => by rw [peval_line y.len, h.ev, y.c0, y.c1, rp_succ]; grind⟩
theorem Tm.y {H H' : Hp} {l l' : Addr} {q X SX Y SY : Rat} {i j : Nat} {xs ys : List Rat} (h : Tm H l q X SX Y SY i j xs) {L : Addr} (y : Lin H L Y SY ys) (e : Lst H' l' (pmul xs ys)) : Tm H' l' q X SX Y SY i (j + 1) (pmul xs ys) := ⟨e, by
  have := pmul_len y.len h.len
  omega, by
  have := pmul_bd h.bd y.bd y.len
  intro r hr
  refine (this r hr).mono ?_ ?_
  · rw [show q.den * ((X.den * SX.den) ^ i * (Y.den * SY.den) ^ j) * (Y.den * SY.den) = q.den * ((X.den * SX.den) ^ i * (Y.den * SY.den) ^ (j + 1)) by rw [Nat.pow_succ]; ac_rfl]
    exact Nat.dvd_refl _
  · rw [show i + (j + 1) = (i + j) + 1 by omega, Nat.pow_succ]
    omega, fun t => by rw [peval_line y.len, h.ev, y.c0, y.c1, rp_succ]; grind⟩
theorem c_ptimes {H : Hp} {ta : TA} {σ : L2.St} {l L : Addr} {q X SX Y SY : Rat} {i j : Nat} {xs ys : List Rat} {Q : VK} {E : XK} (h : VA ta σ H [.ref l, .ref L]) (t : Tm H l q X SX Y SY i j xs) (ly : Lst H L ys) (len : ys.length ≤ 2) (sy : Sms 10 ys) (sq : Sm 10 q) (s1 : Sm 10 X) (s2 : Sm 10 SX) (s3 : Sm 10 Y) (s4 : Sm 10 SY) (hk : i + j ≤ 4)
    (k : ∀ l' H', L2.Same H H' → Lst H' l' (pmul xs ys) → Q (.ref l') H') : tCall spLTimes [] E ta σ H Q := by
  have sx := t.sms sq s1 s2 s3 s4 (by omega)
  have tl := t.len
  refine c_call h ⟨l, L, xs, ys, 105, 10, rfl, t.lst, ly, fun r hr => (sx r hr).mono (by omega), sy, by decide, by decide, ?_, by omega, by omega, k⟩
  have : (105 + 10 + 1) * xs.length ≤ (105 + 10 + 1) * 5 := Nat.mul_le_mul_left _ (by omega)
  omega
def spVAl : Sp := fun vs H Q _ => ∃ (d a b x y sx sy : Addr) (L : List En) (X Y SX SY : Rat), vs = [.ref d, .ref a, .ref b] ∧ DW H d L ∧ KF 5 4 L ∧ L.length ≤ 21 ∧ H a = some (.tup [.ref x, .ref y]) ∧ H b = some (.tup [.ref sx, .ref sy]) ∧ Lo H x X ∧ Lo H y Y ∧ Lo H sx SX ∧ Lo H sy SY ∧ Sms 10 [X, Y, SX, SY] ∧ Bds L9 3 [X, Y, SX, SY] ∧
  ∀ l H' xs, L2.Same H H' → Lst H' l xs → tlen xs = xs.length → xs.length ≤ 6 → Sms 400 xs → (∀ t, peval xs t = evL L (X + SX * t) (Y + SY * t)) → Q (.ref l) H'
theorem fd_fz {D M : Nat} (h : D ≤ 2 ^ 340) (p : 0 < D) (m : M ≤ 21 * (4 * 6 ^ 5)) : D < 2 ^ 400 ∧ M * D < 2 ^ 400 := by
  refine ⟨Nat.lt_of_le_of_lt h (by decide +kernel), ?_⟩
  exact Nat.lt_of_le_of_lt (Nat.mul_le_mul m h) (by decide +kernel)
def LnD (X SX Y SY : Rat) : Addr → Nat → V → Hp → Prop := fun D i v H => ∃ l ys, v = V.ref l ∧ l ≠ D ∧ ((i = 0 ∧ Lin H l X SX ys) ∨ (i = 1 ∧ Lin H l Y SY ys))
theorem lnd_st (X SX Y SY : Rat) : ∀ D k, Stays (LnD X SX Y SY D k) := fun D k v H1 H2 s ⟨l, ys, e, n, h⟩ => ⟨l, ys, e, n, h.imp (fun ⟨i, h⟩ => ⟨i, h.same s⟩) fun ⟨i, h⟩ => ⟨i, h.same s⟩⟩
theorem Lin.off {H : Hp} {l D : Addr} {X SX : Rat} {ys : List Rat} {ws zs : List V} (h : Lin H l X SX ys) (n : l ≠ D) (e : H D = some (.lst ws)) : Lin (upd H D (.lst zs)) l X SX ys := ⟨LosL.off (l := l) h.lst n e, h.len, h.c0, h.c1, h.bd, h.sm⟩
theorem lnd_off (X SX Y SY : Rat) : OffL (LnD X SX Y SY) := fun D k v H ys zs ⟨l, xs, e, n, h⟩ eD => ⟨l, xs, e, n, h.imp (fun ⟨i, h⟩ => ⟨i, h.off n eD⟩) fun ⟨i, h⟩ => ⟨i, h.off n eD⟩⟩
theorem ok_law_v_along (T : Txt K mg) : FnOk P w K mg base CX0 6 (fA mg "_law_v_along") (fDat K (fA mg "_law_v_along")) ["_law_one", "_law_place_here", "_law_step"] spVAl := by
  have G_law_poly := ok_law_poly (P := P) (w := w) (base := base) T
  have G_law_p_times := ok_law_p_times (P := P) (w := w) (base := base) T
  have G_law_p_plus := ok_law_p_plus (P := P) (w := w) (base := base) T
  refine T._law_v_along.F.ok sc_law_v_along (fun vs H Q E h => ?_) (fun cdv A outer s H vs Q E hr h => ?_)
  · obtain ⟨d, a, b, x, y, sx, sy, L, X, Y, SX, SY, rfl, _⟩ := h
    rfl
  obtain ⟨d, a, b, x, y, sx, sy, L, X, Y, SX, SY, rfl, ⟨kvs, ed, de⟩, kf, lL, ea, eb, lx, ly, lsx, lsy, sm, bd, q⟩ := h
  refine ⟨_, (pss_cons (ps_set (i := 3) sc_law_v_along.nd rfl (Or.inl rfl) (pe_lst pa_nil))
  (pss_cons (ps_setLc (i := 4) (own := [("_law_k", 5)]) (g := gName 5) (tt := tYes) (by rfl) sc_law_v_along.nd rfl rfl (sw_true rfl rfl rfl (by decide +kernel)) (pi_range1 (by rfl) T.range (pa_cons pe_int pa_nil)) (blkOk_by (own := [("_law_k", 5)]) (N := ["_law_one", "_law_place_here", "_law_step", "_law_found", "_law_lines", "_law_k", "_law_spot", "_law_term", "_law_lap"]) (sc := defScope s_law_v_along) (by decide +kernel)) (fun _ _ _ _ _ => pg_name (i := 5) sc_law_v_along.nd rfl (Or.inl rfl)) (fun _ _ _ _ _ => pts_nil) (fun _ _ _ _ _ => (pe_c T._law_poly G_law_poly (hr.mono (by decide)) (pa_cons (pe_lst (pa_cons (pe_ix (show IxR _ (rIxT K) from ix_tup) (pv 1) (pv 5) (fun _ _ => rfl)) (pa_cons (pe_ix (show IxR _ (rIxT K) from ix_tup) (pv 2) (pv 5) (fun _ _ => rfl)) pa_nil))) pa_nil))))
  (pss_cons (ps_lockO (ps_for PassesOwn.never rfl (pi_keys (pv 0)) (pg_name (i := 6) sc_law_v_along.nd rfl (Or.inl rfl))
  (pss_cons (ps_set (i := 7) sc_law_v_along.nd rfl (Or.inl rfl) (pe_lst (pa_cons (pe_dget (hu_of hr) (pv 0) (pv 6) (fun _ _ => rfl)) pa_nil)))
  (pss_cons (ps_for PassesOwn.never rfl (pi_range1 (by rfl) T.range (pa_cons pe_int pa_nil)) (pg_name (i := 5) sc_law_v_along.nd rfl (Or.inl rfl))
  (pss_one (ps_for PassesOwn.never rfl (pi_range1 (by rfl) T.range (pa_cons (pe_ix ix_tup (pv 6) (pv 5) (fun _ _ => rfl)) pa_nil)) (pg_name (i := 8) sc_law_v_along.nd rfl (Or.inl rfl))
  (pss_one (ps_set (i := 7) sc_law_v_along.nd rfl (Or.inl rfl) (pe_c T._law_p_times G_law_p_times (hr.mono (by decide)) (pa_cons (pv 7) (pa_cons (pe_ix ix_list (pv 4) (pv 5) (fun _ _ => rfl)) pa_nil))))))))
  (pss_one (ps_set (i := 3) sc_law_v_along.nd rfl (Or.inl rfl) (pe_c T._law_p_plus G_law_p_plus (hr.mono (by decide)) (pa_cons (pv 3) (pa_cons (pv 7) pa_nil)))))))))
  (pss_one (ps_ret (pv 3)))))), ?_⟩
  have mX := sm X (by simp)
  have mY := sm Y (by simp)
  have mSX := sm SX (by simp)
  have mSY := sm SY (by simp)
  have bX := bd X (by simp)
  have bY := bd Y (by simp)
  have bSX := bd SX (by simp)
  have bSY := bd SY (by simp)
  refine q_lst0 va_nil (by show 0 ≤ 100000; decide) fun f0 hf0 => ?_
  have sf := Same.new' (o := .lst []) hf0
  have ef0 := upd_same (H := H) (a := f0) (o := .lst [])
  refine q_asg (d_lcR (n := 2) (R := LnD X SX Y SY) (lnd_st _ _ _ _) (lnd_off _ _ _ _) (va_cons val_c va_nil) (by decide) (fun D2 kk H3 hk s2 eD2 => turn_name rfl fun Q2 q2 => ?_) (fun ll ws H1 s2 n2 ell r2 => ?_))
  · have s3 := sf.trans s2
    obtain ⟨yD, eD2⟩ := eD2
    have fin : ∀ {u su : Addr} {U SU : Rat} {ta tb : TE} {σ1 : L2.St} {E1 : XK}, Val ta σ1 H3 (.ref u) → Val tb σ1 H3 (.ref su) → Lo H u U → Lo H su SU → Sm 10 U → Sm 10 SU → Bd L9 3 U → Bd L9 3 SU → (∀ l' H' ys, L2.Same H3 H' → l' ≠ D2 → Lin H' l' U SU ys → Q2 (.ref l') H') → tCall spLPoly [] E1 (tCons (tLst (tCons ta (tCons tb tNil))) tNil) σ1 H3 Q2 := fun {u su U SU ta tb σ1 E1} h1 h2 l1 l2 m1 m2 b1 b2 k => call_one (l_lst (va_cons h1 (va_cons h2 va_nil)) (by show 2 ≤ 100000; decide) fun t ht => by
      have st := Same.new' (o := .lst [.ref u, .ref su]) ht
      exact ⟨t, [U, SU], rfl, ⟨_, upd_same, .cons ⟨u, rfl, (l1.same s3).same st⟩ (.cons ⟨su, rfl, (l2.same s3).same st⟩ .nil)⟩, by show 2 ≤ 1000; decide, fun l' H' s nl lst => k l' H' _ (st.trans s) (fun z => by
        rw [z, st _ _ eD2] at nl
        cases nl) (lin_of lst m1 m2 b1 b2)⟩)
    match kk, hk with
    | 0, _ => exact fin (v_ixT (n := 0) (val_var rfl) (val_var rfl) (SqT.of (s3 _ _ ea)) rfl) (v_ixT (n := 0) (val_var rfl) (val_var rfl) (SqT.of (s3 _ _ eb)) rfl) lx lsx mX mSX bX bSX fun l' H' ys s n h => q2 _ H' s ⟨l', ys, rfl, n, .inl ⟨rfl, h⟩⟩
    | 1, _ => exact fin (v_ixT (n := 1) (val_var rfl) (val_var rfl) (SqT.of (s3 _ _ ea)) rfl) (v_ixT (n := 1) (val_var rfl) (val_var rfl) (SqT.of (s3 _ _ eb)) rfl) ly lsy mY mSY bY bSY fun l' H' ys s n h => q2 _ H' s ⟨l', ys, rfl, n, .inr ⟨rfl, h⟩⟩
  obtain ⟨v0, v1, g0, g1, ys0, ys1, rfl, rfl, rfl, h0, h1⟩ : ∃ v0 v1 g0 g1 ys0 ys1, ws = [v0, v1] ∧ v0 = V.ref g0 ∧ v1 = V.ref g1 ∧ Lin H1 g0 X SX ys0 ∧ Lin H1 g1 Y SY ys1 := by
    obtain ⟨rr, len⟩ := r2
    match ws, len, rr with
    | [v0, v1], _, ⟨⟨g0, ys0, e0, _, h0⟩, ⟨g1, ys1, e1, _, h1⟩, _⟩ =>
      refine ⟨v0, v1, g0, g1, ys0, ys1, rfl, e0, e1, ?_, ?_⟩
      · rcases h0 with ⟨_, h⟩ | ⟨z, _⟩
        · exact h
        · omega
      · rcases h1 with ⟨z, _⟩ | ⟨_, h⟩
        · omega
        · exact h
  have S1 := sf.trans s2
  have ef1 := s2 _ _ ef0
  have ed1 : Rd H1 d (.dT kvs) := .inl (S1 _ _ ed)
  have dl : L9 * ((X.den * SX.den) ^ 5 * (Y.den * SY.den) ^ 5) ≤ 2 ^ 340 := by
    have a1 := den_pow mX.2 mSX.2 5
    have a2 := den_pow mY.2 mSY.2 5
    exact Nat.le_trans (Nat.mul_le_mul_left L9 (Nat.mul_le_mul a1 a2)) (by decide +kernel)
  have dp : 0 < L9 * ((X.den * SX.den) ^ 5 * (Y.den * SY.den) ^ 5) := Nat.mul_pos (by decide) (Nat.mul_pos (Nat.pow_pos (Nat.mul_pos X.den_pos SX.den_pos)) (Nat.pow_pos (Nat.mul_pos Y.den_pos SY.den_pos)))
  have sms : ∀ {M : Nat} {xs : List Rat}, Bds (L9 * ((X.den * SX.den) ^ 5 * (Y.den * SY.den) ^ 5)) M xs → M ≤ 21 * (4 * 6 ^ 5) → Sms 400 xs := fun {M xs} b m r hr => (b r hr).smA dp (fd_fz dl dp m).1 (fd_fz dl dp m).2
  refine q_keys (kvs := kvs) (d := d) rfl ed1 (fun HL y σ H' => ∃ (z5 z6 z7 z8 : Option V) (f : Addr) (xs : List Rat), σ = [some (.ref d), some (.ref a), some (.ref b), some (.ref f), some (.ref ll), z5, z6, z7, z8] ∧ L2.Same HL H' ∧ f ≠ d ∧ Lst H' f xs ∧ tlen xs = xs.length ∧ xs.length ≤ 6 ∧ Bds (L9 * ((X.den * SX.den) ^ 5 * (Y.den * SY.den) ^ 5)) (y * (4 * 6 ^ 5)) xs ∧ (∀ t, peval xs t = evL (L.take y) (X + SX * t) (Y + SY * t)) ∧ (∀ b o, H1 b = some o → b ≠ d → HL b = some o) ∧ Rd HL d (.dT kvs))
    (fun HL off rdL => ⟨none, none, none, none, f0, [], rfl, Same.refl HL, ne_of ef1 (S1 _ _ ed) (by intro z; cases z), ⟨[], by rw [off f0 (ne_of ef1 (S1 _ _ ed) (by intro z; cases z))]; exact ef1, .nil⟩, rfl, Nat.zero_le _, fun r hr => (nomatch hr), fun t => rfl, fun b o eb nb => by rw [off b nb]; exact eb, rdL⟩)
    (fun HL y σ H' ⟨_, _, _, _, _, _, _, s, _, _, _, _, _, _, _, rd⟩ => by
      rcases rd with e | ⟨o, e⟩
      · rw [e]; exact s _ _ e
      · rw [e]; exact s _ _ e) ?_ ?_
  · rintro HL y kk v q' σ H' rdL hk ⟨z5, z6, z7, z8, f, xs, rfl, s, nf, lf, tf, lenf, bf, vf, stay, rd⟩ hq D' hnx hct
    obtain ⟨x', hx, ek, t, et, lo⟩ := de.1.get hk
    dsimp only at ek et
    subst ek et
    have ylt : y < L.length := (List.getElem?_eq_some_iff.mp hx).1
    have xL := get_mem hx
    have stayS : ∀ {b : Addr} {o : HO}, H1 b = some o → b ≠ d → H' b = some o := fun e n => s _ _ (stay _ _ e n)
    have ed1' := S1 _ _ ed
    have tuS : ∀ {b : Addr} {zs : List V}, H1 b = some (.tup zs) → H' b = some (.tup zs) := fun e => stayS e (ne_of e ed1' (by intro z; cases z))
    have lsS : ∀ {b : Addr} {zs : List V}, H1 b = some (.lst zs) → H' b = some (.lst zs) := fun e => stayS e (ne_of e ed1' (by intro z; cases z))
    have lin : ∀ {l : Addr} {U SU : Rat} {ys : List Rat}, Lin H1 l U SU ys → Lin H' l U SU ys := fun h => ⟨by
      obtain ⟨vs, e, al⟩ := h.lst
      exact ⟨vs, lsS e, al.imp fun _ _ ⟨p, e, lo⟩ => ⟨p, e, tuS lo⟩⟩, h.len, h.c0, h.c1, h.bd, h.sm⟩
    have h0 := lin h0
    have h1 := lin h1
    have ell := lsS ell
    have hdg := kf.deg x' xL
    have sq := kf.sm x' xL
    have bq := kf.bd x' xL
    have rdH : Rd H' d (.dT kvs) := by
      rcases rd with e | ⟨o, e⟩
      · exact .inl (s _ _ e)
      · exact .inr ⟨o, s _ _ e⟩
    obtain ⟨t', q2, hv, lo2, hm⟩ : ∃ t' q2, valV kvs (kN x'.1) = some (.ref t') ∧ Lo H t' q2 ∧ (x'.1, q2) ∈ L := by
      rcases DE.val de.1 x'.1 with ⟨_, n⟩ | h
      · exact absurd (List.mem_map.mpr ⟨x', xL, rfl⟩) n
      · exact h
    have eq2 : q2 = x'.2 := by
      have h1 := cf_in (k := x'.1) (q := x'.2) xL de.2
      have h2 := cf_in hm de.2
      rw [← h1, ← h2]
    have lo3 : Lo H' t' x'.2 := by
      rw [← eq2]
      exact tuS (S1 _ _ lo2)
    refine q_lst0 (va_cons (v_dgetT (val_var rfl) (val_var rfl) rdH hq hv) va_nil) (by show 1 ≤ 100000; decide) fun tl htl => ?_
    have st := Same.new' (o := .lst [V.ref t']) htl
    have tm0 : Tm (upd H' tl (.lst [V.ref t'])) tl x'.2 X SX Y SY 0 0 [x'.2] := ⟨⟨_, upd_same, .cons ⟨t', rfl, lo3.same st⟩ .nil⟩, Nat.le_refl _, fun r hr => by
      rw [List.mem_singleton.mp hr]
      exact ⟨Nat.dvd_mul_right _ _, bq.2⟩, fun t => by
      show x'.2 + t * 0 = x'.2 * (1 * 1)
      grind⟩
    have hqT := st _ _ hq
    have lf := lf.same st
    have h0 := h0.same st
    have h1 := h1.same st
    have ell := st _ _ ell
    have s := s.trans st
    revert tm0 hqT lf h0 h1 ell s
    generalize upd H' tl (.lst [V.ref t']) = HA
    intro tm0 hqT lf h0 h1 ell s
    have lp : ∀ {C : L2.St → Hp → Prop}, (∀ (z5 z8 : Option V) (l : Addr) (ts : List Rat) (HB : Hp), L2.Same HA HB → Tm HB l x'.2 X SX Y SY x'.1.1 x'.1.2 ts → C [some (.ref d), some (.ref a), some (.ref b), some (.ref f), some (.ref ll), z5, some (.ref q'), some (.ref l), z8] HB) → ∀ i σ HB, (∃ (z5 z8 : Option V) (l : Addr) (ts : List Rat), σ = [some (.ref d), some (.ref a), some (.ref b), some (.ref f), some (.ref ll), z5, some (.ref q'), some (.ref l), z8] ∧ L2.Same HA HB ∧ Tm HB l x'.2 X SX Y SY (if 1 ≤ i then x'.1.1 else 0) (if 2 ≤ i then x'.1.2 else 0) ts) → i = 2 → C σ HB := fun {C} k i σ HB ⟨z5, z8, l, ts, e1, e2, e3⟩ hi => by
      subst hi e1
      exact k z5 z8 l ts HB e2 e3
    refine q_forR1 (n := 2) (va_cons val_c va_nil) (by decide) (fun i σ HB => ∃ (z5 z8 : Option V) (l : Addr) (ts : List Rat), σ = [some (.ref d), some (.ref a), some (.ref b), some (.ref f), some (.ref ll), z5, some (.ref q'), some (.ref l), z8] ∧ L2.Same HA HB ∧ Tm HB l x'.2 X SX Y SY (if 1 ≤ i then x'.1.1 else 0) (if 2 ≤ i then x'.1.2 else 0) ts) ⟨_, _, tl, _, rfl, Same.refl HA, tm0⟩ (fun i σ HB hi z => ?_) (fun σ HB z => ?_)
    · obtain ⟨z5, z8, l, ts, rfl, sB, tm⟩ := z
      match i, hi, tm with
      | 0, _, tm =>
        refine g_name (st_forR1 (n := x'.1.1) (va_cons (v_ixT (n := 0) (val_var rfl) (val_var rfl) (SqT.of (sB _ _ hqT)) rfl) va_nil) (by omega) (fun j σ HC => ∃ (z8 : Option V) (l : Addr) (ts : List Rat), σ = [some (.ref d), some (.ref a), some (.ref b), some (.ref f), some (.ref ll), some (.int ((0 : Nat) : Int)), some (.ref q'), some (.ref l), z8] ∧ L2.Same HA HC ∧ Tm HC l x'.2 X SX Y SY j 0 ts) ⟨z8, l, ts, rfl, sB, tm⟩ (fun j σ HC hj z => ?_) (fun σ HC z => ?_))
        · obtain ⟨z8, l, ts, rfl, sC, tm⟩ := z
          exact g_name (s_asg (c_ptimes (va_cons (val_var rfl) (va_cons (v_ixL (n := 0) (val_var rfl) (val_var rfl) (SqL.of (sC _ _ ell)) rfl) va_nil)) tm (h0.lst.same sC) h0.len h0.sm sq mX mSX mY mSY (by omega) fun l' HD sD e => ⟨_, l', _, rfl, sC.trans sD, tm.x (h0.same sC) e⟩))
        · obtain ⟨z8, l, ts, rfl, sC, tm⟩ := z
          exact ⟨_, z8, l, ts, rfl, sC, tm⟩
      | 1, _, tm =>
        refine g_name (st_forR1 (n := x'.1.2) (va_cons (v_ixT (n := 1) (val_var rfl) (val_var rfl) (SqT.of (sB _ _ hqT)) rfl) va_nil) (by omega) (fun j σ HC => ∃ (z8 : Option V) (l : Addr) (ts : List Rat), σ = [some (.ref d), some (.ref a), some (.ref b), some (.ref f), some (.ref ll), some (.int ((1 : Nat) : Int)), some (.ref q'), some (.ref l), z8] ∧ L2.Same HA HC ∧ Tm HC l x'.2 X SX Y SY x'.1.1 j ts) ⟨z8, l, ts, rfl, sB, tm⟩ (fun j σ HC hj z => ?_) (fun σ HC z => ?_))
        · obtain ⟨z8, l, ts, rfl, sC, tm⟩ := z
          exact g_name (s_asg (c_ptimes (va_cons (val_var rfl) (va_cons (v_ixL (n := 1) (val_var rfl) (val_var rfl) (SqL.of (sC _ _ ell)) rfl) va_nil)) tm (h1.lst.same sC) h1.len h1.sm sq mX mSX mY mSY (by omega) fun l' HD sD e => ⟨_, l', _, rfl, sC.trans sD, tm.y (h1.same sC) e⟩))
        · obtain ⟨z8, l, ts, rfl, sC, tm⟩ := z
          exact ⟨_, z8, l, ts, rfl, sC, tm⟩
    · refine lp (C := fun σ HB => _) (fun z5 z8 l ts HB sB tm => ?_) 2 σ HB z rfl
      have bt : Bds (L9 * ((X.den * SX.den) ^ 5 * (Y.den * SY.den) ^ 5)) (4 * 6 ^ 5) ts := fun r hr => (tm.bd r hr).mono (Nat.mul_dvd_mul bq.1 (Nat.mul_dvd_mul (Nat.pow_dvd_pow _ (by omega)) (Nat.pow_dvd_pow _ (by omega)))) (six_le (by omega))
      have my : y * (4 * 6 ^ 5) ≤ 21 * (4 * 6 ^ 5) := Nat.mul_le_mul_right _ (by omega)
      have tl' := tm.len
      refine s_asg (c_call (va_cons (val_var rfl) (va_cons (val_var rfl) va_nil)) ⟨f, l, xs, ts, 400, 400, rfl, lf.same sB, tm.lst, sms bf my, sms bt (by decide), by decide, by decide, by decide, by decide, by omega, by omega, fun l' HC sC e => ?_⟩)
      rw [hnx]
      have SS := (s.trans sB).trans sC
      refine ⟨_, _, _, _, l', _, rfl, SS, fun z => ?_, e, tlen_ofN, psum_len lenf (by omega), ?_, fun t => ?_, stay, rd⟩
      · obtain ⟨vs, el, _⟩ := e
        rw [z] at el
        rcases rd with e | ⟨o, e⟩
        · rw [SS _ _ e] at el; cases el
        · rw [SS _ _ e] at el; cases el
      · rw [Nat.add_mul, Nat.one_mul]
        exact psum_bd bf bt
      · rw [peval_psum, vf, tm.ev, List.take_succ, hx, evL_app]
        show _ = _ + (x'.2 * (rp _ x'.1.1 * rp _ x'.1.2) + 0)
        rw [Rat.add_zero]
  · rintro HL σ H' ⟨z5, z6, z7, z8, f, xs, rfl, s, nf, lf, tf, lenf, bf, vf, stay, rd⟩ H2 hoff hd2
    rw [de.len, List.take_length] at vf
    rw [de.len] at bf
    have SH : L2.Same H H2 := fun b o e => by
      by_cases z : b = d
      · rw [z, hd2, S1 _ _ ed, ← ed, ← z, e]
      · rw [hoff b z]
        exact s _ _ (stay b o (S1 _ _ e) z)
    refine r_ret ((val_var rfl) _ (q f H2 xs SH ?_ tf lenf (sms bf (Nat.mul_le_mul_right _ lL)) vf))
    obtain ⟨vs, e, al⟩ := lf
    refine ⟨vs, by rw [hoff f nf]; exact e, al.imp fun _ _ ⟨p, ep, lo⟩ => ⟨p, ep, ?_⟩⟩
    by_cases z : p = d
    · rw [z] at lo
      rcases rd with y | ⟨o, y⟩
      · have := s _ _ y; unfold Lo at lo; rw [this] at lo; cases lo
      · have := s _ _ y; unfold Lo at lo; rw [this] at lo; cases lo
    · unfold Lo at lo ⊢
      rw [hoff p z]
      exact lo
end
end LW

namespace LW
open PySem PySem.Spec PyProof.Rows L2 GL
section
variable {P : Program} {w : World} {K : PySem.W.Frag} {mg : Str → Option Value} {base : Heap}
theorem pg_or {X : Cx} {tg : Expr} {g1 g2 : TG} (h1 : PG X tg g1) (h2 : PG X tg g2) : PG X tg (fun v σ H Q => g1 v σ H Q ∨ g2 v σ H Q) := ⟨fun pins s σ H v u Q I r h => h.elim (h1.run pins s σ H v u Q I r) (h2.run pins s σ H v u Q I r)⟩
theorem for_inT {te : TE} {g : TG} {tb tz : TS} {D : Ends} {σ : L2.St} {H : Hp} (h : te σ H fun x H1 => tSeq (tFor (iTup K (tC x)) g tb) tz D σ H1) : tSeq (tFor (iTup K te) g tb) tz D σ H := h
theorem mk_po {H1 : Hp} {x dx n : Addr} {ws : List V} {xs : List Rat} {G : Hp → Prop} {E : XK} (hS : Sq H1 n ws) (hl : ws.length ≤ 1000) (al : All2 (Rq H1) ws xs) (hx : H1 x = none) (hdx : H1 dx = none) (ne : dx ≠ x) (k : ∀ H', L2.Same H1 H' → PoAt (poA mg) H' x (trim xs) → G H') :
    spOInit mg (.ref x :: ([.ref n] ++ [])) (upd (upd H1 dx (.own x)) x (.ins (poA mg) dx [])) (fun v H2 => v = .non ∧ G H2) E := by
  have S : L2.Same H1 (upd (upd H1 dx (.own x)) x (.ins (poA mg) dx [])) := fun b o e => by
    rw [upd_ne (ne_of_none e hx), upd_ne (ne_of_none e hdx)]
    exact e
  exact ⟨x, dx, .ref n, rfl, upd_same, .inl ⟨n, ws, xs, rfl, hS.same S, hl, al.imp fun _ _ h => h.same S, fun t H' keep e los => ⟨rfl, k H' (fun b o z => keep _ _ (S _ _ z) (ne_of_none z hx)) ⟨dx, t, e, los, tlen_trim _⟩⟩⟩⟩
theorem peval_zero (r : List Rat) : peval r 0 = co r 0 := by
  cases r with
  | nil => rfl
  | cons a t => show a + 0 * peval t 0 = a; grind
/-- the first column -/
def colR (R : List (List Rat)) : List Rat := R.map fun r => co r 0
theorem peval_col (R : List (List Rat)) (t : Rat) : peval (trim (colR R)) t = evP R t 0 := by
  rw [peval_of_co (ys := colR R) (fun i => co_trim _ i) t]
  unfold evP colR
  congr 1
  exact List.map_congr_left fun r _ => (peval_zero r).symm
theorem bds_col {D M d : Nat} {R : List (List Rat)} (n : Nice D M d R) : Bds D M (trim (colR R)) := fun q hq => by
  have := List.mem_of_mem_take hq
  obtain ⟨r, hr, rfl⟩ := List.mem_map.mp this
  exact (n.mem hr).co 0
def spAlong (mg : Str → Option Value) : Sp := fun vs H Q E => ∃ (a : Addr) (v u : V) (R : List (List Rat)), vs = [.ref a, v, u] ∧ PnAt (pnA mg) H a R ∧
  ((∃ (X Y SX SY : Rat) (D M d Δ lam : Nat), PlR H v (X, Y) ∧ PlR H u (SX, SY) ∧ Nice D M d R ∧ Fz D M ∧ d ≤ 16 ∧ Bds Δ lam [SX, 0, SY, 0, X, Y] ∧ Sms 1000 [SX, 0, SY, 0, X, Y] ∧ 1 ≤ lam ∧ 1 ≤ M ∧ 0 < Δ ∧ Δ < 2 ^ 1000 ∧ 300 * (M * D * (3 * (lam * Δ)) ^ (d + 1)) < 2 ^ 1000 ∧ Fz (D * Δ ^ d) (300 * (M * (3 * lam) ^ d)) ∧
    ∀ c H' xs, L2.Same H H' → PoAt (poA mg) H' c xs → Bds (D * Δ ^ d) (300 * (M * (3 * lam) ^ d)) xs → xs.length ≤ d + 1 → (∀ t, peval xs t = evP R (X + SX * t) (Y + SY * t)) → Q (.ref c) H') ∨
   (PlQ H v false ∧ BadRw mg H v E) ∨ (PlQ H v true ∧ PlQ H u false ∧ BadRw mg H u E))
theorem g_or2 {i j : Nat} {x y : V} {T : Addr} {σ : L2.St} {H : Hp} {K' : L2.St → Hp → Prop} (hT : Sq H T [x, y]) (q : K' ((σ.set i (some x)).set j (some y)) H) : (gTup K 2 (gCons (gName i) (gCons (gName j) gNil)) (.ref T) σ H K' ∨ gUnl K 2 (gCons (gName i) (gCons (gName j) gNil)) (.ref T) σ H K') := by
  rcases hT with h | h
  · exact .inr ⟨T, _, rfl, SqL.of h, rfl, x, _, rfl, y, _, rfl, rfl, q⟩
  · exact .inl ⟨T, _, rfl, SqT.of h, rfl, x, _, rfl, y, _, rfl, rfl, q⟩
theorem st_ifNot {t : TT} {t1 : TS} {D : Ends} {σ : L2.St} {H : Hp} (h : t σ H fun c H1 => if (!c) = true then t1 D σ H1 else D.nx σ H1) : tIfS (tNot t) t1 tNext D σ H := h
theorem if_in {t : TT} {ta tb : TE} {σ : L2.St} {H : Hp} {Q : VK} (h : t σ H fun b H1 => if b = true then ta σ H1 Q else tb σ H1 Q) : tIf t ta tb σ H Q := h
abbrev sPlane_along : Stmt := (inClass tPlane 13)
theorem scPlane_along : FnScope ["self", "start", "step", "point", "x", "y", "step_x", "step_y", "line", "row"] ["self", "start", "step"] (defScope sPlane_along) := ⟨rfl, rfl, rfl, by decide +kernel, rfl, by decide +kernel, by decide +kernel⟩
theorem ok_Plane_along (T : Txt K mg) (TP : PlaneT K mg) (TO : PolyT K mg) : FnOk P w K mg base (L2.CX P w) 13 (mA K (pnA mg) "along") (fDat K (mA K (pnA mg) "along")) ["self", "start", "step"] (spAlong mg) := by
  have Gis_place := ok_is_place (P := P) (w := w) (base := base) T
  have Gi_BadRow := init_BadRow (P := P) (w := w) (base := base) T
  have GPlane_moved := ok_Plane_moved (P := P) (w := w) (base := base) T TP
  have GPoly_init := ok_Poly_init (P := P) (w := w) (base := base) T TO
  refine TP.m_along.F.okX scPlane_along (fun vs H Q E h => ?_) (fun cdv A outer s H vs Q E hr h => ?_)
  · obtain ⟨a, v, u, R, rfl, _⟩ := h
    rfl
  obtain ⟨a, v, u, R, rfl, pa, h⟩ := h
  refine ⟨_, (pss_cons (ps_for (passes_of rfl) rfl (pi_tup (pe_tup (pa_cons (pv 1) (pa_cons (pv 2) pa_nil)))) (pg_name (i := 3) scPlane_along.nd rfl (Or.inl rfl))
  (pss_one (ps_if (pt_not (pt_val (pe_c T.is_place Gis_place (hr.mono (by decide)) (pa_cons (pv 3) pa_nil)))) (pss_one (ps_raise rfl (takes_of rfl rfl rfl rfl) (pmk_oex T.BadRow.o T.BadRow.i T.BadRow.t Gi_BadRow (hr.mono (by decide)) T.BadRow.b .nil pass0 (by rfl) T.BadRow.g (pa_cons (pv 3) pa_nil)))) pss_nil)))
  (pss_cons (ps_asg (pe_tup (pa_cons (pv 1) (pa_cons (pv 2) pa_nil))) (pg_tup rfl (pgs_cons (pg_or (pg_tup rfl (pgs_cons (pg_name (i := 4) scPlane_along.nd rfl (Or.inl rfl)) (pgs_cons (pg_name (i := 5) scPlane_along.nd rfl (Or.inl rfl)) pgs_nil))) (pg_unl rfl (pgs_cons (pg_name (i := 4) scPlane_along.nd rfl (Or.inl rfl)) (pgs_cons (pg_name (i := 5) scPlane_along.nd rfl (Or.inl rfl)) pgs_nil)))) (pgs_cons (pg_or (pg_tup rfl (pgs_cons (pg_name (i := 6) scPlane_along.nd rfl (Or.inl rfl)) (pgs_cons (pg_name (i := 7) scPlane_along.nd rfl (Or.inl rfl)) pgs_nil))) (pg_unl rfl (pgs_cons (pg_name (i := 6) scPlane_along.nd rfl (Or.inl rfl)) (pgs_cons (pg_name (i := 7) scPlane_along.nd rfl (Or.inl rfl)) pgs_nil)))) pgs_nil))))
  (pss_cons (ps_set (i := 8) scPlane_along.nd rfl (Or.inl rfl) (pe_meth (pv 0) TP.cls TP.m_moved.meth GPlane_moved (hr.mono (by decide)) TP.m_moved.b .nil (passes_call (takes_of rfl rfl rfl rfl) (fun _ _ _ _ h => h)) (pa_cons (pe_tup (pa_cons (pv 6) (pa_cons pe_int (pa_cons (pv 7) (pa_cons pe_int pa_nil))))) (pa_cons (pe_tup (pa_cons (pv 4) (pa_cons (pv 5) pa_nil))) pa_nil))))
  (pss_one (ps_ret (pe_make TO.mkc GPoly_init (hr.mono (by decide)) (by rfl) TO.g TO.m_init.b .nil passL (pa_cons (pe_lc (own := [("row", 9)]) (g := gName 9) (tt := tYes) (by rfl) scPlane_along.nd (pi_tup (pe_fld (pv 8) (by rfl))) (blkOk_by (own := [("row", 9)]) (N := ["self", "start", "step", "point", "x", "y", "step_x", "step_y", "line", "row"]) (sc := defScope sPlane_along) (by decide +kernel)) (fun _ _ _ _ _ => pg_name (i := 9) scPlane_along.nd rfl (Or.inl rfl)) (fun _ _ _ _ _ => pts_nil) (fun _ _ _ _ _ => (pe_ifExp (show PT _ _ (fun σ H Q => tVar 9 σ H fun x H1 => ∃ k, TruV K x H1 k ∧ Q k H1) from pt_truth (pv 9) (fun _ => rfl)) (pe_ix (show IxR _ (rIxT K) from ix_tup) (pv 9) pe_int (fun _ _ => rfl)) pe_int))) pa_nil))))))), ?_⟩
  rcases h with ⟨X, Y, SX, SY, D, M, d, Δ, lam, plv, plu, nR, fz, hd, bds, sms, lam1, M1, Δ0, Δb, sz, fzo, k⟩ | ⟨nv, bad⟩ | ⟨yv, nu, bad⟩
  rotate_left
  · refine for_inT (tup_two ((val_var rfl) _ ((val_var rfl) _ ⟨by decide, fun tp htp => ?_⟩)))
    have s0 := Same.new' (o := .tup [v, u]) htp
    refine q_forT (xs := [v, u]) val_c (SqT.of upd_same) (fun i σ H1 => i = 0 ∧ σ = [some (.ref a), some v, some u, none, none, none, none, none, none, none] ∧ H1 = upd H tp (.tup [v, u])) ⟨rfl, rfl, rfl⟩ (fun i σ H1 z => by rw [z.2.2]; exact SqT.of upd_same) (fun i x σ H1 hx z => ?_) (fun σ H1 z => by exact absurd z.1 (by show ¬ 2 = 0; decide))
    obtain ⟨rfl, rfl, rfl⟩ := z
    cases hx
    refine g_name (st_ifNot (c_is_place (val_var rfl) (nv.same s0) fun H2 s2 => ⟨_, rfl, iteT ?_⟩))
    have s02 := s0.trans s2
    exact x_made1 (va_cons (val_var rfl) va_nil) fun dd H' s n e => bad dd H' (Same.trans s02 s) (Same.free s02 n) e
  · refine for_inT (tup_two ((val_var rfl) _ ((val_var rfl) _ ⟨by decide, fun tp htp => ?_⟩)))
    have s0 := Same.new' (o := .tup [v, u]) htp
    refine q_forT (xs := [v, u]) val_c (SqT.of upd_same) (fun i σ H1 => i ≤ 1 ∧ ∃ z3, σ = [some (.ref a), some v, some u, z3, none, none, none, none, none, none] ∧ L2.Same (upd H tp (.tup [v, u])) H1) ⟨by decide, none, rfl, Same.refl _⟩ (fun i σ H1 z => by
      obtain ⟨_, _, _, s⟩ := z
      exact SqT.of (s _ _ upd_same)) (fun i x σ H1 hx z => ?_) (fun σ H1 z => by exact absurd z.1 (by show ¬ 2 ≤ 1; decide))
    obtain ⟨hi, z3, rfl, s1⟩ := z
    have s01 := s0.trans s1
    match i, hi, hx with
    | 0, _, hx =>
      cases hx
      exact g_name (st_ifNot (c_is_place (val_var rfl) (yv.same s01) fun H2 s2 => ⟨_, rfl, iteF ⟨by decide, _, rfl, s1.trans s2⟩⟩))
    | 1, _, hx =>
      cases hx
      refine g_name (st_ifNot (c_is_place (val_var rfl) (nu.same s01) fun H2 s2 => ⟨_, rfl, iteT ?_⟩))
      have s02 := s01.trans s2
      exact x_made1 (va_cons (val_var rfl) va_nil) fun dd H' s n e => bad dd H' (Same.trans s02 s) (Same.free s02 n) e
  refine for_inT (tup_two ((val_var rfl) _ ((val_var rfl) _ ⟨by decide, fun tp htp => ?_⟩)))
  have s0 := Same.new' (o := .tup [v, u]) htp
  refine q_forT (xs := [v, u]) val_c (SqT.of upd_same) (fun i σ H1 => ∃ z3, σ = [some (.ref a), some v, some u, z3, none, none, none, none, none, none] ∧ L2.Same (upd H tp (.tup [v, u])) H1) ⟨none, rfl, Same.refl _⟩ (fun i σ H1 z => by
    obtain ⟨_, _, s⟩ := z
    exact SqT.of (s _ _ upd_same)) (fun i x σ H1 hx z => ?_) (fun σ H1 z => ?_)
  · obtain ⟨z3, rfl, s1⟩ := z
    have s01 := s0.trans s1
    match i, hx with
    | 0, hx =>
      cases hx
      exact g_name (st_ifNot (c_is_place (val_var rfl) (plv.yes.same s01) fun H2 s2 => ⟨_, rfl, iteF ⟨_, rfl, s1.trans s2⟩⟩))
    | 1, hx =>
      cases hx
      exact g_name (st_ifNot (c_is_place (val_var rfl) (plu.yes.same s01) fun H2 s2 => ⟨_, rfl, iteF ⟨_, rfl, s1.trans s2⟩⟩))
  obtain ⟨z3, rfl, s1⟩ := z
  have s01 := s0.trans s1
  obtain ⟨v0, x1, y1, rfl, e1, rx, ry⟩ := plv
  obtain ⟨u0, x2, y2, rfl, e2, rsx, rsy⟩ := plu
  refine q_gen (tup_two ((val_var rfl) _ ((val_var rfl) _ ⟨by decide, fun t2 ht2 => ⟨t2, _, rfl, SqT.of upd_same, rfl, _, _, rfl, ?_⟩⟩)))
  have s2 := s01.trans (Same.new' (o := .tup [.ref v0, .ref u0]) ht2)
  refine g_or2 (e1.same s2) ⟨_, _, rfl, g_or2 (e2.same s2) ⟨rfl, ?_⟩⟩
  have pa := pa.same s2
  have rx := rx.same s2
  have ry := ry.same s2
  have rsx := rsx.same s2
  have rsy := rsy.same s2
  revert pa rx ry rsx rsy s2
  generalize upd H1 t2 (.tup [.ref v0, .ref u0]) = H3
  intro s2 pa rx ry rsx rsy
  clear s0 s1 s01 htp ht2 e1 e2
  obtain ⟨dx, t, e, los, z⟩ := pa
  refine q_asg ((val_var rfl) _ ⟨a, dx, _, rfl, e, no_at "moved" (by decide +kernel), ?_⟩)
  refine va_x (t_four ((val_var rfl) _ (val_c _ ((val_var rfl) _ (val_c _ ⟨by decide, fun m1 hm1 => ?_⟩)))))
  refine va_1 (tup_two ((val_var rfl) _ ((val_var rfl) _ ⟨by decide, fun m2 hm2 => ?_⟩)))
  have sA := Same.new' (o := .tup [x2, .int 0, y2, .int 0]) hm1
  have sB := Same.new' (o := .tup [x1, y1]) hm2
  have sAB := sA.trans sB
  refine ⟨a, m1, m2, rfl, x2, .int 0, y2, .int 0, x1, y1, R, SX, 0, SY, 0, X, Y, D, M, d, Δ, lam, ⟨dx, t, sAB _ _ e, los.same sAB, z⟩, .inr (sB _ _ upd_same), .inr upd_same, rsx.same sAB, rq_nat (i := 0) (by decide), rsy.same sAB, rq_nat (i := 0) (by decide), rx.same sAB, ry.same sAB, nR, fz, hd, bds, sms, lam1, M1, Δ0, Δb, sz, fun c H4 R' s4 pc n' v' => ?_⟩
  have S4 := (s2.trans sAB).trans s4
  clear rx ry rsx rsy e los sA sB sAB hm1 hm2
  obtain ⟨dx', t', e', los', z'⟩ := pc
  have lR := n'.lenR z'
  obtain ⟨vs, et, al⟩ := los'
  refine r_ret (show tMake _ _ _ _ _ _ _ _ from va_1 (d_lcT (R := fun _ i v H => (∃ p, v = V.ref p ∧ Lo H p (co (rowAt R' i) 0)) ∨ (v = .int 0 ∧ co (rowAt R' i) 0 = 0)) (fun D k v H1 H2 s h => h.imp (fun ⟨p, e, lo⟩ => ⟨p, e, lo.same s⟩) id) (fun D k v H ys zs h eD => h.imp (fun ⟨p, e, lo⟩ => ⟨p, e, tu_lst eD _ _ lo⟩) id) (v_rows TP (val_var rfl) e') (SqT.of et) (by have := al.len; omega) (fun D' i x HA hx sA eD => turn_name rfl fun Q2 q2 => ?_) (fun l ws HB sB nl el rl => ?_)))
  · obtain ⟨r, hr, pr', rfl, lr⟩ := al.get hx
    obtain ⟨us, eu, au⟩ := lr.same sA
    refine if_in ((val_var rfl) _ ⟨!us.isEmpty, (show TruV K (.ref pr') HA (!us.isEmpty) from Or.inr (Or.inl ⟨us, SqT.of eu, rfl⟩)), ?_⟩)
    match us, r, au, eu with
    | [], [], .nil, eu => exact iteN rfl (val_c _ (q2 _ HA (Same.refl HA) (.inr ⟨rfl, by rw [rowAt_some hr]; rfl⟩)))
    | u1 :: us, q1 :: r, .cons ⟨p1, ep, lo⟩ _, eu =>
      subst ep
      exact iteY rfl ((v_ixT (n := 0) (val_var rfl) val_c (SqT.of eu) rfl) _ (q2 _ HA (Same.refl HA) (.inl ⟨p1, rfl, by rw [rowAt_some hr]; exact lo⟩)))
  · have lw : ws.length = R'.length := by rw [rl.2, al.len]
    have alc : All2 (Rq HB) ws (colR R') := All2.mk (by unfold colR; rw [List.length_map, lw]) fun i v q hv hq => by
      unfold colR at hq
      rw [List.getElem?_map] at hq
      cases hr : R'[i]? with
      | none => rw [hr] at hq; cases hq
      | some r =>
        rw [hr] at hq
        cases hq
        have := rl.1.get hv
        rw [Nat.zero_add, rowAt_some hr] at this
        rcases this with ⟨p, rfl, lo⟩ | ⟨rfl, e0⟩
        · exact lo.rq (((n'.mem (List.mem_of_getElem? hr)).co 0).sm fzo) (Nat.le_refl _)
        · show Rq HB (V.int 0) (co r 0)
          rw [e0]
          exact rq_nat (i := 0) (by decide)
    refine fun c2 dxc hxc hdxc nec => mk_po (.inl el) (by rw [lw]; omega) alc hxc hdxc nec fun HC sC po => ?_
    exact k c2 HC _ ((S4.trans sB).trans sC) po (bds_col n') (by rw [trim_len]; exact Nat.le_trans (tlen_le _) (by unfold colR; rw [List.length_map]; exact lR)) fun t => by
      rw [peval_col, v']
      congr 1 <;> grind
end
end LW

namespace LW
open PySem PySem.Spec PyProof.Rows L2 GL
section
variable {P : Program} {w : World} {K : PySem.W.Frag} {mg : Str → Option Value} {base : Heap}
theorem l_lcBS {σ : L2.St} {H : Hp} {te ti : TE} {vs : List Nat} {Q : VK} {a p c : Addr} {xs : List V} {R : Addr → Nat → V → Hp → Prop} {m k j : Nat} (bu : BuS R) (of : OffD R) (P0 : PenAt H p c m) (h : Val ti σ H (.ref a)) (hx : Sq H a xs) (hn : xs.length ≤ 10000) (hw : ∀ x, wipe ((wipe σ vs).set j (some x)) vs = wipe σ vs)
    (hs : ∀ D i x H1, xs[i]? = some x → But p H H1 → PenAt H1 p c (m + k * i) → H D = none → (∃ ys, H1 D = some (.lst ys)) → EB p c te ((wipe σ vs).set j (some x)) H1 (m + k * (i + 1)) (R D i))
    (q : ∀ D ys H', But p H H' → PenAt H' p c (m + k * xs.length) → H D = none → H' D = some (.lst ys) → Run (R D) 0 ys H' → ys.length = xs.length → Q (.ref D) H') : tLc (fun σ H R => iList K ti σ H R ∨ iTup K ti σ H R) (gName j) tYes te vs σ H Q := by
  rcases hx with e | e
  · exact Or.inl (show tLc (iList K ti) (gName j) tYes te vs σ H Q from l_lcBL bu of P0 h (SqL.of e) hn hw hs q)
  · exact Or.inr (show tLc (iTup K ti) (gName j) tYes te vs σ H Q from l_lcBTu bu of P0 h (SqT.of e) hn hw hs q e)
/-- numbers in lowest terms in a list or a tuple -/
def LoS (H : Hp) (a : Addr) (xs : List Rat) : Prop := ∃ vs, Sq H a vs ∧ All2 (fun v q => ∃ p, v = V.ref p ∧ Lo H p q) vs xs
theorem Lst.los {H : Hp} {a : Addr} {xs : List Rat} (h : Lst H a xs) : LoS H a xs := by
  obtain ⟨vs, e, al⟩ := h
  exact ⟨vs, .inl e, al⟩
def spShow : Sp := fun vs H Q _ => ∃ (p c a : Addr) (xs : List Rat) (m : Nat), vs = [.ref p, .ref a] ∧ PenAt H p c m ∧ LoS H a xs ∧ (∀ q ∈ xs, Fin q) ∧ xs.length ≤ 4 ∧ m + 20 < most ∧ ∀ v H' a' ys, v = .ref a' → Sq H' a' ys → All2 (Rq H') ys xs → But p H H' → PenAt H' p c (m + 20) → Q v H'
theorem ok_law_shown (T : Txt K mg) : FnOk P w K mg base CX0 5 (fA mg "_law_shown") (fDat K (fA mg "_law_shown")) ["_law_pen_here", "_law_row"] spShow := by
  have G_law_passed := ok_passed (P := P) (w := w) (base := base) T
  have G_law_pick := ok_pick (P := P) (w := w) (base := base) T
  refine T._law_shown.F.ok sc_law_shown (fun vs H Q E h => ?_) (fun cdv A outer s H vs Q E hr h => ?_)
  · obtain ⟨p, c, a, xs, m, rfl, _⟩ := h
    rfl
  obtain ⟨p, c, a, xs, m, rfl, hP, los, fi, hl, hm, k⟩ := h
  refine ⟨_, (pss_cons (ps_setLc (i := 2) (own := [("_law_ratio_here", 3)]) (g := gName 3) (tt := tYes) (by rfl) sc_law_shown.nd rfl rfl (sw_true rfl rfl rfl (by decide +kernel)) (pi_or (pi_list (pv 1)) (pi_tup (pv 1))) (blkOk_by (own := [("_law_ratio_here", 3)]) (N := ["_law_pen_here", "_law_row", "_law_passed_here", "_law_ratio_here"]) (sc := defScope s_law_shown) (by decide +kernel)) (fun _ _ _ _ _ => pg_name (i := 3) sc_law_shown.nd rfl (Or.inl rfl)) (fun _ _ _ _ _ => pts_nil) (fun _ _ _ _ _ => (pe_c T._law_passed G_law_passed (hr.mono (by decide)) (pa_cons (pv 0) (pa_cons (pv 3) pa_nil)))))
  (pss_one (ps_ret (pe_c T._law_pick G_law_pick (hr.mono (by decide)) (pa_cons (pv 0) (pa_cons (pe_lst (pa_cons (pv 2) (pa_cons (pe_callTy (show CallR _ (.type "tuple") (fun xs H Q => ∃ p ys, xs = [V.ref p] ∧ ((SqL K H p ys ∧ ∀ l, H l = none → Q (V.ref l) (upd H l (.tup ys))) ∨ (SqT K H p ys ∧ Q (V.ref p) H))) from call_tuple_of) (by rfl) T.tuple (by decide +kernel) (pa_cons (pv 2) pa_nil)) pa_nil))) pa_nil)))))), ?_⟩
  obtain ⟨vs, ev, al⟩ := los
  have lv := al.len
  refine q_asg (l_lcBS (k := 3) (R := RqD fun i => (xs[i]?).getD 0) (rqd_bu _) (rqd_off _) hP (val_var rfl) ev (by omega) (fun x => rfl) (fun D i x H1 hx b1 P1 hD eD => fun Q2 q2 => ?_) (fun D ys H1 b1 P1 hD e1 r1 ly => ?_))
  · obtain ⟨q, hq, t, rfl, lo⟩ := al.get hx
    have iv : i < vs.length := (List.getElem?_eq_some_iff.mp hx).1
    refine c_passed (va_two rfl rfl) P1 (by omega) (b1.lo hP lo) (fi q (get_mem hq)) fun u H2 b2 P2 r2 n2 => q2 u H2 b2 (P2.le (by omega)) ⟨by show Rq H2 u ((xs[i]?).getD 0); rw [hq]; exact r2, fun z => ?_⟩
    obtain ⟨ys, eD⟩ := eD
    have := n2 D z
    rw [eD] at this
    cases this
  have all : All2 (Rq H1) ys xs := All2.mk (by rw [ly, lv]) fun i v q hv hq => by
    have h := (r1.get hv).1
    rw [Nat.zero_add] at h
    dsimp only at h
    rw [hq] at h
    exact h
  refine r_ret (te := tCall _ _ _ _) (call_1 ((val_var rfl) _ (va_1 (l_two ((val_var rfl) _ (cb_one ((val_var rfl) _ ⟨D, ys, rfl, .inl ⟨SqL.of e1, fun t ht => ⟨by show 2 ≤ sizeLine; decide, fun z hz => ?_⟩⟩⟩)))))))
  have s2 := Same.new' (o := .tup ys) ht
  have s3 := Same.new' (o := .lst [.ref D, .ref t]) hz
  have S := s2.trans s3
  refine ⟨p, c, z, _, _, rfl, P1.same S, by omega, SqL.of upd_same, by show 0 < 2; decide, by show 2 < 1000000000; decide, fun v' H4 hv b4 P4 => ?_⟩
  have et := s3 _ _ (upd_same (H := H1) (a := t) (o := .tup ys))
  obtain ⟨kvs, hd⟩ := (P1.same S).dk
  have all4 : All2 (Rq H4) ys xs := all.imp fun _ _ r => (r.same S).but (P1.same S) b4
  have B := (b1.trans (But.of S)).trans b4
  simp only [List.mem_cons, List.not_mem_nil, or_false] at hv
  rcases hv with rfl | rfl
  · exact k _ H4 D ys rfl (.inl (b4 _ _ (S _ _ e1) (ne_of (S _ _ e1) hd (by intro z; cases z)))) all4 B (P4.le (by omega))
  · exact k _ H4 t ys rfl (.inr (b4 _ _ et (ne_of et hd (by intro z; cases z)))) all4 B (P4.le (by omega))
theorem lst4 {H : Hp} {t : Addr} {a b c d : Rat} (h : Lst H t [a, b, c, d]) : ∃ w x y z, H t = some (.lst [.ref w, .ref x, .ref y, .ref z]) ∧ Lo H w a ∧ Lo H x b ∧ Lo H y c ∧ Lo H z d := by
  obtain ⟨vs, e, al⟩ := h
  cases al with
  | cons r1 al => cases al with
    | cons r2 al => cases al with
      | cons r3 al => cases al with
        | cons r4 al =>
          cases al
          obtain ⟨w, rfl, l1⟩ := r1
          obtain ⟨x, rfl, l2⟩ := r2
          obtain ⟨y, rfl, l3⟩ := r3
          obtain ⟨z, rfl, l4⟩ := r4
          exact ⟨w, x, y, z, e, l1, l2, l3, l4⟩
theorem int3 {i : Int} (h : i.natAbs ≤ 3) : Bd L9 3 (i : Rat) := ⟨Nat.one_dvd _, by show i.natAbs ≤ 3 * 1; omega⟩
def spLMat : Sp := fun vs H Q _ => ∃ (p c : Addr) (m : Nat), vs = [.ref p, .int 3] ∧ PenAt H p c m ∧ m + 30 < most ∧ ∀ (l : Addr) (H' : Hp) (a b c' d : Rat), Lst H' l [a, b, c', d] → Sms 10 [a, b, c', d] → Bds L9 3 [a, b, c', d] → But p H H' → PenAt H' p c (m + 30) → Q (.ref l) H'
theorem ok_law_matrix (T : Txt K mg) : FnOk P w K mg base CX0 6 (fA mg "_law_matrix") (fDat K (fA mg "_law_matrix")) ["_law_pen_here", "_law_most"] spLMat := by
  have G_law_ratio := ok_law_ratio (P := P) (w := w) (base := base) T
  have G_law_pick := ok_pick (P := P) (w := w) (base := base) T
  have G_law_times := ok_law_times (P := P) (w := w) (base := base) T
  refine T._law_matrix.F.ok sc_law_matrix (fun vs H Q E h => ?_) (fun cdv A outer s H vs Q E hr h => ?_)
  · obtain ⟨p, c, m, rfl, _⟩ := h
    rfl
  obtain ⟨p, c, m, rfl, hP, hm, k⟩ := h
  refine ⟨_, (pss_cons (ps_setLc (i := 2) (own := [("_law_k", 3)]) (g := gName 3) (tt := tYes) (by rfl) sc_law_matrix.nd rfl rfl (sw_true rfl rfl rfl (by decide +kernel)) (pi_range1 (by rfl) T.range (pa_cons pe_int pa_nil)) (blkOk_by (own := [("_law_k", 3)]) (N := ["_law_pen_here", "_law_most", "_law_row", "_law_k"]) (sc := defScope s_law_matrix) (by decide +kernel)) (fun _ _ _ _ _ => pg_name (i := 3) sc_law_matrix.nd rfl (Or.inl rfl)) (fun _ _ _ _ _ => pts_nil) (fun _ _ _ _ _ => (pe_c T._law_pick G_law_pick (hr.mono (by decide)) (pa_cons (pv 0) (pa_cons (pe_lst (pa_cons (pe_tup (pa_cons pe_int (pa_cons pe_int pa_nil))) (pa_cons (pe_tup (pa_cons pe_int (pa_cons pe_int pa_nil))) (pa_cons (pe_tup (pa_cons (pe_un un_neg pe_int) (pa_cons pe_int pa_nil))) (pa_cons (pe_c T._law_ratio G_law_ratio (hr.mono (by decide)) (pa_cons (pv 0) (pa_cons (pv 1) pa_nil))) pa_nil))))) pa_nil)))))
  (pss_one (ps_ret (pe_c T._law_pick G_law_pick (hr.mono (by decide)) (pa_cons (pv 0) (pa_cons (pe_lst (pa_cons (pv 2) (pa_cons (pv 2) (pa_cons (pe_lst (pa_cons (pe_ix ix_list (pv 2) pe_int (fun _ _ => rfl)) (pa_cons (pe_ix ix_list (pv 2) pe_int (fun _ _ => rfl)) (pa_cons (pe_c T._law_times G_law_times (hr.mono (by decide)) (pa_cons (pe_ix ix_list (pv 2) pe_int (fun _ _ => rfl)) (pa_cons (pe_tup (pa_cons (pe_un un_neg pe_int) (pa_cons pe_int pa_nil))) pa_nil))) (pa_cons (pe_ix ix_list (pv 2) pe_int (fun _ _ => rfl)) pa_nil))))) (pa_cons (pe_op op_rep (pe_lst (pa_cons (pe_ix ix_list (pv 2) pe_int (fun _ _ => rfl)) (pa_cons (pe_ix ix_list (pv 2) pe_int (fun _ _ => rfl)) pa_nil))) pe_int) pa_nil))))) pa_nil)))))), ?_⟩
  refine q_asg (l_rngU (va_1 (val_c _ ⟨4, rfl, by decide, by decide, rngB (k := 4) (R := fun D i v H => ∃ t q, v = .ref t ∧ Lo H t q ∧ Sm 10 q ∧ Bd L9 3 q) (fun D i v H H' p c m ⟨t, q, e, lo, sm⟩ P b => ⟨t, q, e, b.lo P lo, sm⟩) (fun D i v H ys zs ⟨t, q, e, lo, sm⟩ h => ⟨t, q, e, lo_upd h lo, sm⟩) hP (by decide) (by decide) (fun _ => rfl) (fun D i x H2 hi b2 P2 _ _ => fun Q q => ?_) (fun D ys H2 b2 P2 nD e2 r2 l2 => ?_)⟩)))
  · have hi : i < 4 := hi
    refine call_1 ((val_var rfl) _ (va_1 (l_s (va_x (l_tup (va_cons val_c (va_cons val_c va_nil)) (by show 2 ≤ 100000; decide) fun t0 h0 => va_x (l_tup (va_cons val_c (va_cons val_c va_nil)) (by show 2 ≤ 100000; decide) fun t1 h1 => va_x (l_tup (va_cons (v_neg val_c) (va_cons val_c va_nil)) (by show 2 ≤ 100000; decide) fun t2 h2 => va_1 (c_call (va_cons (val_var rfl) (va_cons (val_var rfl) va_nil)) ⟨p, c, _, 3, rfl, ((P2.same (Same.new' h0)).same (Same.new' h1)).same (Same.new' h2), by omega, by decide, by decide, fun t3 H6 q3 lo3 sm3 bd3 b6 P6 => ⟨by show 4 ≤ sizeLine; decide, fun s hs => ?_⟩⟩))))))))
    have s0 := Same.new' (o := .tup [.int 0, .int 1]) h0
    have s1 := Same.new' (o := .tup [.int 1, .int 1]) h1
    have s2 := Same.new' (o := .tup [.int (-1), .int 1]) h2
    have s3 := Same.new' (o := .lst [.ref t0, .ref t1, .ref t2, .ref t3]) hs
    have P5 := ((P2.same s0).same s1).same s2
    refine ⟨p, c, s, _, _, rfl, P6.same s3, by omega, SqL.of upd_same, by show 0 < 4; decide, by show 4 < 1000000000; decide, fun v H8 hv b8 P8 => ?_⟩
    have B := (((But.of ((s0.trans s1).trans s2)).trans b6).trans (But.of s3)).trans b8
    refine q v H8 B (P8.le (by omega)) ?_
    have lo : ∀ {t : Addr} {q : Rat}, Lo (upd (upd (upd H2 t0 (.tup [.int 0, .int 1])) t1 (.tup [.int 1, .int 1])) t2 (.tup [.int (-1), .int 1])) t q → Lo H8 t q := fun h => b8.lo (P6.same s3) ((b6.lo P5 h).same s3)
    simp only [List.mem_cons, List.not_mem_nil, or_false] at hv
    rcases hv with rfl | rfl | rfl | rfl
    · exact ⟨t0, ((0 : Int) : Rat), rfl, lo ((int_lo upd_same).same (s1.trans s2)), int_sm (by decide) (by decide), int3 (by decide)⟩
    · exact ⟨t1, ((1 : Int) : Rat), rfl, lo ((int_lo upd_same).same s2), int_sm (by decide) (by decide), int3 (by decide)⟩
    · exact ⟨t2, ((-1 : Int) : Rat), rfl, lo (int_lo upd_same), int_sm (by decide) (by decide), int3 (by decide)⟩
    · exact ⟨t3, q3, rfl, b8.lo (P6.same s3) (lo3.same s3), sm3, bd3⟩
  · obtain ⟨xs, al, sm⟩ := run_lst (S := fun q => Sm 10 q ∧ Bd L9 3 q) r2
    have lx : xs.length = 4 := by
      have := al.len
      have l4 : ys.length = 4 := l2
      omega
    obtain ⟨a, b, cc, d, rfl⟩ : ∃ a b c d, xs = [a, b, c, d] := by
      match xs, lx with
      | [a, b, c, d], _ => exact ⟨a, b, c, d, rfl⟩
    obtain ⟨w, x, y, z, e, l1, l2, l3, l4⟩ := lst4 (H := H2) (t := D) ⟨ys, e2, al⟩
    have sa := (sm a (by simp)).1
    have sb := (sm b (by simp)).1
    have i0 := fun H' (h : L2.Same H2 H') => v_ixL (K := K) (n := 0) (H := H') (σ := [some (.ref p), some (.int 3), some (.ref D), none]) (te := tVar 2) (tb := tC (.int 0)) (val_var rfl) val_c (SqL.of (h _ _ e)) rfl
    have i1 := fun H' (h : L2.Same H2 H') => v_ixL (K := K) (n := 1) (H := H') (σ := [some (.ref p), some (.int 3), some (.ref D), none]) (te := tVar 2) (tb := tC (.int 1)) (val_var rfl) val_c (SqL.of (h _ _ e)) rfl
    have S0 := L2.Same.refl H2
    refine r_ret (te := tCall _ _ _ _) (call_1 ((val_var rfl) _ (va_1 (l_s (va_s (val_var rfl) (va_s (val_var rfl) (va_x (l_s (va_s (i0 _ S0) (va_s (i1 _ S0) (va_x (call_1 ((i1 _ S0) _ (va_1 (l_tup (va_cons (v_neg val_c) (va_cons val_c va_nil)) (by show 2 ≤ 100000; decide) fun t1 h1 => ?_)))))))))))))))
    have s1 := Same.new' (o := .tup [.int (-1), .int 1]) h1
    refine cs_ltimes (l2.same s1) (int_lo upd_same) sb (int_sm (n := 1) (by decide) (by decide)) (by decide) (by decide) fun t2 H4 s4 lo4 => va_1 ((i0 _ (s1.trans s4)) _ ⟨by show 4 ≤ sizeLine; decide, fun q1 h2 => ?_⟩)
    have s5 := Same.new' (o := .lst [.ref w, .ref x, .ref t2, .ref w]) h2
    have S5 := (s1.trans s4).trans s5
    refine va_1 (op_in (l_s (va_s (i0 _ S5) (va_s (i1 _ S5) ⟨by show 2 ≤ sizeLine; decide, fun q2 h3 => ?_⟩))))
    have s6 := Same.new' (o := .lst [.ref w, .ref x]) h3
    refine val_c _ ⟨q2, 2, _, rfl, rfl, upd_same, by decide, by decide, by show 2 * 2 ≤ sizeLine; decide, fun q3 h4 => ⟨by show 4 ≤ sizeLine; decide, fun q4 h5 => ?_⟩⟩
    have s7 := Same.new' (o := .lst [.ref w, .ref x, .ref w, .ref x]) h4
    have s8 := Same.new' (o := .lst [.ref D, .ref D, .ref q1, .ref q3]) h5
    have S8 := ((S5.trans s6).trans s7).trans s8
    refine ⟨p, c, q4, _, _, rfl, P2.same S8, by omega, SqL.of upd_same, by show 0 < 4; decide, by show 4 < 1000000000; decide, fun v H9 hv b9 P9 => ?_⟩
    have B := (b2.trans (But.of S8)).trans b9
    have P9 := P9.le (show _ ≤ m + 30 by show m + 4 * 4 + 1 ≤ m + 30; omega)
    have P8 := P2.same S8
    have cells : ∀ {l : Addr} {xs : List V}, upd (upd (upd (upd H4 q1 (.lst [.ref w, .ref x, .ref t2, .ref w])) q2 (.lst [.ref w, .ref x])) q3 (.lst [.ref w, .ref x, .ref w, .ref x])) q4 (.lst [.ref D, .ref D, .ref q1, .ref q3]) l = some (.lst xs) → H9 l = some (.lst xs) := fun e => by
      obtain ⟨kvs, hd⟩ := P8.dk
      exact b9 _ _ e (ne_of e hd (by intro z; cases z))
    have lo : ∀ {t : Addr} {q : Rat}, Lo H2 t q → Lo H9 t q := fun h => b9.lo P8 (h.same S8)
    have lo4' : Lo H9 t2 (b * ((-1 : Int) : Rat)) := b9.lo P8 ((((lo4.same s5).same s6).same s7).same s8)
    have sc := (sm cc (by simp)).1
    have sd := (sm d (by simp)).1
    have ba := (sm a (by simp)).2
    have bb := (sm b (by simp)).2
    have bc := (sm cc (by simp)).2
    have bdd := (sm d (by simp)).2
    have m12 : ∀ {q : Rat}, Sm 10 q → Sm 10 q := fun h => h
    have sb1 : Sm 10 (b * ((-1 : Int) : Rat)) := by
      have : b * ((-1 : Int) : Rat) = -b := by show b * (-1 : Rat) = -b; grind
      rw [this]
      exact Sm.neg sb
    have bb1 : Bd L9 3 (b * ((-1 : Int) : Rat)) := by
      have : b * ((-1 : Int) : Rat) = -b := by show b * (-1 : Rat) = -b; grind
      rw [this]
      exact bb.neg
    have four : ∀ {S : Rat → Prop} {a b c d : Rat}, S a → S b → S c → S d → ∀ q ∈ [a, b, c, d], S q := fun {S a b c d} h1 h2 h3 h4 q hq => by
      simp only [List.mem_cons, List.not_mem_nil, or_false] at hq
      rcases hq with rfl | rfl | rfl | rfl <;> assumption
    simp only [List.mem_cons, List.not_mem_nil, or_false] at hv
    rcases hv with rfl | rfl | rfl | rfl
    · exact k D H9 a b cc d ⟨_, cells (S8 _ _ e), .cons ⟨w, rfl, lo l1⟩ (.cons ⟨x, rfl, lo l2⟩ (.cons ⟨y, rfl, lo l3⟩ (.cons ⟨z, rfl, lo l4⟩ .nil)))⟩ (four (m12 sa) (m12 sb) (m12 sc) (m12 sd)) (four ba bb bc bdd) B P9
    · exact k D H9 a b cc d ⟨_, cells (S8 _ _ e), .cons ⟨w, rfl, lo l1⟩ (.cons ⟨x, rfl, lo l2⟩ (.cons ⟨y, rfl, lo l3⟩ (.cons ⟨z, rfl, lo l4⟩ .nil)))⟩ (four (m12 sa) (m12 sb) (m12 sc) (m12 sd)) (four ba bb bc bdd) B P9
    · exact k q1 H9 a b (b * ((-1 : Int) : Rat)) a ⟨_, cells (s8 _ _ (s7 _ _ (s6 _ _ upd_same))), .cons ⟨w, rfl, lo l1⟩ (.cons ⟨x, rfl, lo l2⟩ (.cons ⟨t2, rfl, lo4'⟩ (.cons ⟨w, rfl, lo l1⟩ .nil)))⟩ (four (m12 sa) (m12 sb) sb1 (m12 sa)) (four ba bb bb1 ba) B P9
    · exact k q3 H9 a b a b ⟨_, cells (s8 _ _ upd_same), .cons ⟨w, rfl, lo l1⟩ (.cons ⟨x, rfl, lo l2⟩ (.cons ⟨w, rfl, lo l1⟩ (.cons ⟨x, rfl, lo l2⟩ .nil)))⟩ (four (m12 sa) (m12 sb) (m12 sa) (m12 sb)) (four ba bb ba bb) B P9
end
end LW

namespace LW
open PySem PySem.Spec PyProof.Rows L2 GL
section
variable {P : Program} {w : World} {K : PySem.W.Frag} {mg : Str → Option Value} {base : Heap}
/-! ### values at places over one bottom -/
theorem rp_bd {Dp Mp : Nat} {x : Rat} (h : Bd Dp Mp x) : ∀ i : Nat, Bd (Dp ^ i) (Mp ^ i) (rp x i)
  | 0 => ⟨Nat.one_dvd _, by show (1 : Rat).num.natAbs ≤ 1 * (1 : Rat).den; decide⟩
  | i + 1 => by
    rw [rp_succ, Nat.pow_succ, Nat.pow_succ]
    exact (rp_bd h i).mul h
theorem rsl_bd {D M : Nat} {α : Type} {f : α → Rat} : ∀ {L : List α}, (∀ p ∈ L, Bd D M (f p)) → Bd D (L.length * M) (rs f L)
  | [], _ => Bd.zero
  | a :: L, h => by
    have h1 := h a List.mem_cons_self
    have h2 := rsl_bd (L := L) fun p hp => h p (List.mem_cons_of_mem _ hp)
    show Bd D ((L.length + 1) * M) (f a + rs f L)
    rw [Nat.add_mul, Nat.one_mul, Nat.add_comm]
    exact h1.add h2
theorem box_len (d : Nat) : (box d d).length = (d + 1) * (d + 1) := by
  unfold box
  simp [List.length_flatMap, List.map_const', List.sum_replicate_nat]
theorem evP_bd {D M d Dp Mp : Nat} {R : List (List Rat)} {x y : Rat} (n : Nice D M d R) (c : Can R) (hx : Bd Dp Mp x) (hy : Bd Dp Mp y) (M1 : 1 ≤ Mp) : Bd (D * Dp ^ d) ((d + 1) * (d + 1) * (M * Mp ^ d)) (evP R x y) := by
  rw [evP_box (N := d) (k := d + 1) ⟨n.lenR c, fun r hr => n.lenM c hr⟩ (Nat.le_refl _), ← box_len]
  refine rsl_bd fun p _ => ?_
  rcases Nat.lt_or_ge d (p.1 + p.2) with lt | ge
  · rw [n.dg p.1 p.2 lt, Rat.zero_mul]
    exact Bd.zero
  · refine ((n.bd p.1 p.2).mul ((rp_bd hx p.1).mul (rp_bd hy p.2))).mono ?_ ?_
    · rw [← Nat.pow_add]
      exact Nat.mul_dvd_mul_left _ (Nat.pow_dvd_pow _ ge)
    · rw [← Nat.pow_add]
      exact Nat.mul_le_mul_left _ (Nat.pow_le_pow_right M1 ge)
theorem num_le {q : Rat} {n m : Int} {D V : Nat} (hm : 0 < m) (e : q = Rat.divInt n m) (b : Bd D V q) : n.natAbs ≤ V * m.natAbs := by
  have h1 : (n : Rat) = q * (m : Rat) := by
    rw [e, Rat.divInt_eq_div, Rat.div_def, Rat.mul_assoc, Rat.inv_mul_cancel _ (fun z => by have := Rat.intCast_inj.mp (show (m : Rat) = ((0 : Int) : Rat) from z); omega), Rat.mul_one]
  have h2 := num_den q
  have h3 : n * (q.den : Int) = q.num * m := by
    refine Rat.intCast_inj.mp ?_
    rw [Rat.intCast_mul, Rat.intCast_mul, h1, h2]
    show q * (m : Rat) * (q.den : Rat) = q * (q.den : Rat) * (m : Rat)
    grind
  have h4 := congrArg Int.natAbs h3
  rw [Int.natAbs_mul, Int.natAbs_mul, Int.natAbs_natCast] at h4
  have h5 := Nat.mul_le_mul_right m.natAbs b.2
  have dp := q.den_pos
  have h6 : n.natAbs * q.den ≤ V * m.natAbs * q.den := by
    rw [h4, show V * m.natAbs * q.den = V * q.den * m.natAbs by ac_rfl]
    exact h5
  exact Nat.le_of_mul_le_mul_right h6 dp
structure BAt2 (D M d m A Dp Mp : Nat) : Prop where
  fz : Fz D M
  a1 : M * D < 2 ^ A
  a2 : D < 2 ^ A
  b : A + 2 * (2 * m + 2) * (d + 2) ≤ 3900
  k30 : d ≤ 30
  hm : m ≤ 45
  dp : 0 < Dp
  mp : 1 ≤ Mp
  xp : Mp * Dp < 2 ^ (2 * m + 1)
  f1 : (d + 1) * (d + 1) * (M * Mp ^ d) * (D * Dp ^ (2 * d)) < 2 ^ 1000
  f2 : D * Dp ^ (2 * d) < 2 ^ 1000
def spAtP2 (mg : Str → Option Value) : Sp := fun vs H Q _ => ∃ (a : Addr) (v : V) (R : List (List Rat)), vs = [.ref a, v] ∧ PnAt (pnA mg) H a R ∧ ∃ (p : Rat × Rat) (D M d m A Dp Mp : Nat), PlR H v p ∧ Nice D M d R ∧ BAt2 D M d m A Dp Mp ∧ Bd Dp Mp p.1 ∧ Bd Dp Mp p.2 ∧ ∀ t H', L2.Same H H' → Lo H' t (evP R p.1 p.2) → Q (.ref t) H'
theorem ok_Plane_at2 (T : Txt K mg) (TP : PlaneT K mg) : FnOk P w K mg base (L2.CX P w) 9 (mA K (pnA mg) "at") (fDat K (mA K (pnA mg) "at")) ["self", "point"] (spAtP2 mg) := by
  have Gis_place := ok_is_place (P := P) (w := w) (base := base) T
  have Gwhole_rows := ok_whole_rows (P := P) (w := w) (base := base) T
  have Gwhole_row := ok_whole_row (P := P) (w := w) (base := base) T
  have Gplace_of := ok_place_of (P := P) (w := w) (base := base) T
  have G_value_at := ok_value_at (P := P) (w := w) (base := base) T
  have G_scaled := ok_scaled (P := P) (w := w) (base := base) T
  have Gtold := ok_told (P := P) (w := w) (base := base) T
  have Gi_BadRow := init_BadRow (P := P) (w := w) (base := base) T
  refine TP.m_at.F.okX scPlane_at (fun vs H Q E h => ?_) (fun cdv A outer s H vs Q E hr h => ?_)
  · obtain ⟨a, v, R, rfl, _⟩ := h
    rfl
  obtain ⟨a, v, R, rfl, ⟨dx, t, e, los, cR⟩, h⟩ := h
  refine ⟨_, (pss_cons (ps_if (pt_not (pt_val (pe_c T.is_place Gis_place (hr.mono (by decide)) (pa_cons (pv 1) pa_nil)))) (pss_one (ps_raise rfl (takes_of rfl rfl rfl rfl) (pmk_oex T.BadRow.o T.BadRow.i T.BadRow.t Gi_BadRow (hr.mono (by decide)) T.BadRow.b .nil pass0 (by rfl) T.BadRow.g (pa_cons (pv 1) pa_nil)))) pss_nil)
  (pss_cons (ps_asg (pe_c T.whole_rows Gwhole_rows (hr.mono (by decide)) (pa_cons (pe_fld (pv 0) (by rfl)) pa_nil)) (pg_tup rfl (pgs_cons (pg_name (i := 2) scPlane_at.nd rfl (Or.inl rfl)) (pgs_cons (pg_name (i := 3) scPlane_at.nd rfl (Or.inl rfl)) pgs_nil))))
  (pss_cons (ps_asg (pe_c T.whole_row Gwhole_row (hr.mono (by decide)) (pa_cons (pe_call Gplace_of (hr.mono (by decide)) (by rfl) T.place_of.g T.place_of.F.kp T.place_of.b .nil passL (pa_cons (pv 1) pa_nil)) pa_nil)) (pg_tup rfl (pgs_cons (pg_unl rfl (pgs_cons (pg_name (i := 4) scPlane_at.nd rfl (Or.inl rfl)) (pgs_cons (pg_name (i := 5) scPlane_at.nd rfl (Or.inr rfl)) pgs_nil))) (pgs_cons (pg_name (i := 6) scPlane_at.nd rfl (Or.inr rfl)) pgs_nil))))
  (pss_cons (ps_set (i := 7) scPlane_at.nd rfl (Or.inr rfl) (pe_callBK (cr_maxDef rfl) (by rfl) T.max (by decide +kernel) (pa_cons (pe_lc (own := [("row", 8)]) (g := gName 8) (tt := tYes) (by rfl) scPlane_at.nd (pi_list (pv 2)) (blkOk_by (own := [("row", 8)]) (N := ["self", "point", "rows", "below", "x", "y", "bottom", "wide", "row", "inner"]) (sc := defScope sPlane_at) (by decide +kernel)) (fun _ _ _ _ _ => pg_name (i := 8) scPlane_at.nd rfl (Or.inl rfl)) (fun _ _ _ _ _ => pts_nil) (fun _ _ _ _ _ => (pe_callB (show CallR _ (.builtin "len") (fun xs H Q => ∃ p ys, xs = [.ref p] ∧ (SqL K H p ys ∨ SqT K H p ys) ∧ Q (.int ys.length) H) from call_len_seq) (by rfl) T.len PySem.boot_len (pa_cons (pv 8) pa_nil)))) pa_nil) (pk_cons pe_int pk_nil)))
  (pss_cons (ps_setLc (i := 9) (own := [("row", 8)]) (g := gName 8) (tt := tYes) (by rfl) scPlane_at.nd rfl rfl (sw_true rfl rfl rfl (by decide +kernel)) (pi_list (pv 2)) (blkOk_by (own := [("row", 8)]) (N := ["self", "point", "rows", "below", "x", "y", "bottom", "wide", "row", "inner"]) (sc := defScope sPlane_at) (by decide +kernel)) (fun _ _ _ _ _ => pg_name (i := 8) scPlane_at.nd rfl (Or.inl rfl)) (fun _ _ _ _ _ => pts_nil) (fun _ _ _ _ _ => (pe_c T._value_at G_value_at (hr.mono (by decide)) (pa_cons (pe_op op_cat (pv 8) (pe_op op_rep (pe_lst (pa_cons pe_int pa_nil)) (pe_op op_sub (pv 7) (pe_callB (show CallR _ (.builtin "len") (fun xs H Q => ∃ p ys, xs = [.ref p] ∧ (SqL K H p ys ∨ SqT K H p ys) ∧ Q (.int ys.length) H) from call_len_seq) (by rfl) T.len PySem.boot_len (pa_cons (pv 8) pa_nil))))) (pa_cons (pv 5) (pa_cons (pv 6) pa_nil))))))
  (pss_one (ps_ret (pe_call Gtold (hr.mono (by decide)) (by rfl) T.told.g T.told.F.kp T.told.b .nil passL (pa_cons (pe_tup (pa_cons (pe_c T._value_at G_value_at (hr.mono (by decide)) (pa_cons (pv 9) (pa_cons (pv 4) (pa_cons (pv 6) pa_nil)))) (pa_cons (pe_c T._scaled G_scaled (hr.mono (by decide)) (pa_cons (pv 3) (pa_cons (pv 6) (pa_cons (pe_op op_sub (pe_op op_add (pv 7) (pe_callB call_len_seq (by rfl) T.len PySem.boot_len (pa_cons (pv 2) pa_nil))) pe_int) pa_nil)))) pa_nil))) (pa_cons pe_str pa_nil)))))))))), ?_⟩
  obtain ⟨p, D0, M0, d0, m, A, Dp, Mp, plr, nR, ⟨fz, hA1, hA2, hB, k30, hm, dpos, mpos, xp, f1, f2⟩, bp1, bp2, q⟩ := h
  refine q_ifNot (c_is_place (val_var rfl) plr.yes fun H1 s1 => ⟨_, rfl, iteF ?_⟩)
  refine q_two (call_one ((v_rows TP (val_var rfl) (s1 _ _ e)) _ ⟨t, R, D0, M0, d0, rfl, los.same s1, cR, nR, fz, by omega, fun pr lr D H2 s2 d0' dl dd epr lsW => g_two (SqT.of epr) ?_⟩))
  have s12 := s1.trans s2
  refine (show tSeq (tAsg _ _) _ _ _ _ from call_one (c_call (va_cons (val_var rfl) va_nil) ⟨v, p, rfl, plr.same s12, fun v' H3 s3 plL _ => ?_⟩))
  obtain ⟨ap, px, py, rfl, ea, lx, ly⟩ := plL
  have bp : Bds Dp Mp [p.1, p.2] := fun z hz => by
    rcases List.mem_cons.mp hz with rfl | hz
    · exact bp1
    · rw [List.mem_singleton.mp hz]
      exact bp2
  have p1000 : (2 : Nat) ^ (2 * m + 1) ≤ 2 ^ 1000 := Nat.pow_le_pow_right (by decide) (by omega)
  have dpb : Dp < 2 ^ (2 * m + 1) := Nat.lt_of_le_of_lt (Nat.le_mul_of_pos_left _ mpos) xp
  have fzp : Fz Dp Mp := ⟨dpos, Nat.lt_of_lt_of_le dpb p1000, Nat.lt_of_lt_of_le xp p1000⟩
  refine ⟨ap, [p.1, p.2], Dp, rfl, ⟨_, ea, .cons ⟨px, rfl, lx⟩ (.cons ⟨py, rfl, ly⟩ .nil)⟩, bp.sm fzp, dpos, fzp.db, fun z hz => (bp z hz).1, by show 2 ≤ 1000; decide, fun p2 l2 B H4 s4 b0 bl bd ep2 el2 => ?_⟩
  have bl0 := Nat.le_of_dvd dpos bl
  have blv := bl
  have bl := Nat.lt_of_le_of_lt bl0 dpb
  have tp : tops B [p.1, p.2] = [p.1.num * ((B / p.1.den : Nat) : Int), p.2.num * ((B / p.2.den : Nat) : Int)] := rfl
  have hxx : ∀ q : Rat, q.den ∣ B → ((q.num * ((B / q.den : Nat) : Int) : Int) : Rat) = q * (((B : Nat) : Int) : Rat) := fun q ⟨c, hc⟩ => by
    rw [hc, Nat.mul_div_cancel_left _ (Rat.den_pos _), Rat.intCast_mul, num_den, Rat.mul_assoc]
    congr 1
    rw [Int.natCast_mul, Rat.intCast_mul]
    rfl
  have hX := hxx p.1 (bd p.1 (List.mem_cons_self ..))
  have hY := hxx p.2 (bd p.2 (List.mem_cons_of_mem _ (List.mem_cons_self ..)))
  have tb : ∀ a ∈ tops B [p.1, p.2], a.natAbs ≤ Mp * Dp := tops_bd dpos blv bp bd
  rw [tp] at el2 tb
  have tx := tb _ (List.mem_cons_self ..)
  have ty := tb _ (List.mem_cons_of_mem _ (List.mem_cons_self ..))
  revert hX hY tx ty el2
  generalize p.1.num * ((B / p.1.den : Nat) : Int) = x
  generalize p.2.num * ((B / p.2.den : Nat) : Int) = y
  intro el2 hX hY tx ty
  have mB : ∀ {a : Nat}, a ≤ Mp * Dp → a < 2 ^ (2 * m + 1) := fun h => Nat.lt_of_le_of_lt h xp
  have bx : x.natAbs < 2 ^ (2 * m + 1) := mB tx
  have by_ : y.natAbs < 2 ^ (2 * m + 1) := mB ty
  have bB : ((B : Nat) : Int).natAbs < 2 ^ (2 * m + 1) := by
    rw [Int.natAbs_natCast]
    exact bl
  refine ⟨p2, _, rfl, SqT.of ep2, rfl, _, _, rfl, ⟨l2, _, rfl, SqL.of el2, rfl, _, _, rfl, _, _, rfl, rfl, _, _, rfl, rfl, ?_⟩⟩
  have s34 := s3.trans s4
  have lsW4 := lsW.same s34
  have s14 := s12.trans s34
  clear lsW ep2 el2 ea lx ly epr tb tp hxx
  obtain ⟨us, eu, au⟩ := lsW4
  have lu := au.len
  rw [List.length_map] at lu
  have lR := nR.lenR cR
  have lens_at : ∀ i v, us[i]? = some v → ∃ r l3, R[i]? = some r ∧ v = V.ref l3 ∧ H4 l3 = some (.lst ((tops D r).map V.int)) := fun i v hv => by
    obtain ⟨ns, hns, l3, e1, e2⟩ := au.get hv
    rw [List.getElem?_map] at hns
    cases hr3 : R[i]? with
    | none => rw [hr3] at hns; cases hns
    | some r =>
      rw [hr3] at hns
      cases hns
      exact ⟨r, l3, hr3, e1, e2⟩
  refine q_asg (kw_one (l_lcL (R := fun i v _ => ∃ b, (R.map List.length)[i]? = some b ∧ v = V.int ((b : Nat) : Int)) (fun _ _ _ _ _ h => h) (fun _ _ _ _ _ _ h _ => h) (val_var rfl) (SqL.of eu) (by omega) (fun i v H5 hv s5 => turn_name rfl ?_) (fun l4 ns H5 s5 e5 r5 => ?_)))
  · obtain ⟨r, l3, hr3, rfl, e3⟩ := lens_at i v hv
    refine em_val (v_len (xs := (tops D r).map V.int) (val_var rfl) (.inl (SqL.of (s5 _ _ e3)))) ⟨r.length, by rw [List.getElem?_map, hr3]; rfl, by rw [List.length_map, tops_len]⟩
  rw [lu] at r5
  have en := rows_map (bs := R.map List.length) (f := fun (b : Nat) => V.int (b : Int)) r5 (List.length_map _)
  refine val_c _ (maxD_nat (ns := R.map List.length) (d := 1) (by rw [← en]; exact SqL.of e5) fun w hw ww => ?_)
  have hw2 : ∀ r ∈ R, r.length ≤ w := fun r hr => hw _ (List.mem_map.mpr ⟨r, hr, rfl⟩)
  have w1 : 1 ≤ w := by
    rcases ww with h | ⟨_, rfl⟩
    · by_cases z : R = []
      · subst z
        cases h
      · have lp : 0 < R.length := List.length_pos_iff.mpr z
        obtain ⟨q0, hq0, qz⟩ := tlen_last (xs := lens R) (k := R.length - 1) (by rw [cR.top]; omega)
        unfold lens at hq0
        rw [List.getElem?_map, List.getElem?_eq_getElem (by omega)] at hq0
        have h2 := hw2 _ (List.getElem_mem (show R.length - 1 < R.length by omega))
        rcases Nat.eq_zero_or_pos w with w0 | w0
        · have : (R[R.length - 1]).length = 0 := by omega
          refine (qz ?_).elim
          have h3 : ((R[R.length - 1].length : Nat) : Rat) = q0 := Option.some.inj hq0
          rw [← h3, this]
          rfl
        · exact w0
    · exact Nat.le_refl _
  have wk : w ≤ d0 + 1 := by
    rcases ww with h | ⟨_, rfl⟩
    · obtain ⟨r, hr, rfl⟩ := List.mem_map.mp h
      exact nR.lenM cR hr
    · omega
  have s15 := s14.trans s5
  have inner_at : ∀ i r, R[i]? = some r → r.length ≤ w ∧ (∀ z ∈ tops D r ++ List.replicate (w - r.length) 0, z.natAbs < 2 ^ A) ∧ (tops D r ++ List.replicate (w - r.length) 0).length = w := fun i r hr3 => by
    have rm := get_mem hr3
    refine ⟨hw2 r rm, fun z hz => ?_, by rw [List.length_append, List.length_replicate, tops_len]; have := hw2 r rm; omega⟩
    rcases List.mem_append.mp hz with h | h
    · exact Nat.lt_of_le_of_lt (tops_bd fz.d0 dl (nR.mem rm) (dd r rm) z h) hA1
    · rw [(List.mem_replicate.mp h).2]
      exact Nat.two_pow_pos _
  have mono1 : (2 * m + 2) * w ≤ (2 * m + 2) * (d0 + 2) := Nat.mul_le_mul_left _ (by omega)
  have mono2 : (2 * m + 2) * R.length ≤ (2 * m + 2) * (d0 + 2) := Nat.mul_le_mul_left _ (by omega)
  have e2m : 2 * (2 * m + 2) * (d0 + 2) = (2 * m + 2) * (d0 + 2) + (2 * m + 2) * (d0 + 2) := by rw [Nat.mul_assoc, Nat.two_mul]
  rw [e2m] at hB
  refine q_asg (l_lcL (R := fun i v _ => ∃ b, (R.map (innerI D w y (B : Int)))[i]? = some b ∧ v = V.int b) (fun _ _ _ _ _ h => h) (fun _ _ _ _ _ _ h _ => h) (val_var rfl) (SqL.of (s5 _ _ eu)) (by omega) (fun i v H6 hv s6 => turn_name rfl fun Q' q' => ?_) (fun l6 ms H6 s6 e6 r6 => ?_))
  · obtain ⟨r, l3, hr3, rfl, e3⟩ := lens_at i v hv
    have e3' := s6 _ _ (s5 _ _ e3)
    obtain ⟨i1, i2, i3⟩ := inner_at i r hr3
    refine call_1 (op_l (val_var rfl) (op_in (l_lst (va_cons val_c va_nil) (by decide) fun l7 hl7 => ?_)))
    have s7 := Same.new' (o := .lst [.int 0]) hl7
    refine (v_sub (i := (w : Int)) (j := (r.length : Int)) (val_var rfl) (Val.is (v_len (xs := (tops D r).map V.int) (val_var rfl) (.inl (SqL.of (s7 _ _ e3')))) (by rw [List.length_map, tops_len]))) _ ⟨l7, _, [.int 0], rfl, rfl, upd_same, by omega, by omega, ?_, fun l8 hl8 => ?_⟩
    · show 1 * ((w : Int) - (r.length : Int)).toNat ≤ sizeLine
      exact Nat.le_trans (show 1 * ((w : Int) - (r.length : Int)).toNat ≤ 1000 by omega) (by decide)
    have efr : (List.replicate ((w : Int) - (r.length : Int)).toNat [V.int 0]).flatten = (List.replicate (w - r.length) (0 : Int)).map V.int := by
      rw [flat_rep, List.map_replicate, show (((w : Int) - (r.length : Int)).toNat) = w - r.length by omega]
    rw [efr] at *
    have s8 := Same.new' (o := .lst ((List.replicate (w - r.length) (0 : Int)).map V.int)) hl8
    refine ⟨l3, l8, (tops D r).map V.int, (List.replicate (w - r.length) (0 : Int)).map V.int, rfl, rfl, s8 _ _ (s7 _ _ e3'), upd_same, ?_, fun l9 hl9 => ?_⟩
    · rw [List.length_map, List.length_map, List.length_replicate, tops_len]
      exact Nat.le_trans (show r.length + (w - r.length) ≤ 1000 by omega) (by decide)
    have s9 := Same.new' (o := .lst ((tops D r).map V.int ++ (List.replicate (w - r.length) (0 : Int)).map V.int)) hl9
    refine va_cons (val_var rfl) (va_cons (val_var rfl) va_nil) _ ⟨l9, tops D r ++ List.replicate (w - r.length) 0, y, (B : Int), A, 2 * m + 1, rfl, by rw [List.map_append]; exact SqL.of upd_same, i2, by_, bB, by rw [i3]; show _ + (2 * m + 2) * _ + _ ≤ _; omega, by omega, fun H' s' => q' _ H' (((s7.trans s8).trans s9).trans s') ⟨innerI D w y (B : Int) r, by rw [List.getElem?_map, hr3]; rfl, rfl⟩⟩
  rw [lu] at r6
  have en6 := rows_map (bs := R.map (innerI D w y (B : Int))) (f := V.int) r6 (List.length_map _)
  have s16 := s15.trans s6
  have bI : ∀ z ∈ R.map (innerI D w y (B : Int)), z.natAbs < 2 ^ (A + (2 * m + 2) * w) := fun z hz => by
    obtain ⟨r, hr, rfl⟩ := List.mem_map.mp hz
    obtain ⟨i, hi, e⟩ := List.getElem_of_mem hr
    obtain ⟨i1, i2, i3⟩ := inner_at i r (by rw [List.getElem?_eq_getElem hi, e])
    have := vAt_lt by_ bB _ i2
    rw [i3] at this
    exact this
  have lI : (R.map (innerI D w y (B : Int))).length = R.length := List.length_map _
  have m3 : (2 * m + 1) * (w + R.length) ≤ (2 * m + 2) * w + (2 * m + 2) * R.length := by
    rw [← Nat.mul_add]
    exact Nat.mul_le_mul_right _ (Nat.le_succ _)
  have m4 : (2 * m + 1) * (((w : Int) + (R.length : Int)) - 2).toNat ≤ (2 * m + 1) * (w + R.length) := Nat.mul_le_mul_left _ (by omega)
  have dB : ((D : Nat) : Int).natAbs < 2 ^ A := by
    rw [Int.natAbs_natCast]
    exact Nat.lt_of_le_of_lt (Nat.le_of_dvd fz.d0 dl) hA2
  refine r_ret (call_1 (tup_two (c_call (va_cons (val_var rfl) (va_cons (val_var rfl) (va_cons (val_var rfl) va_nil))) ⟨l6, R.map (innerI D w y (B : Int)), x, (B : Int), A + (2 * m + 2) * w, 2 * m + 1, rfl, by rw [← en6]; exact SqL.of e6, bI, bx, bB, by rw [lI]; show _ + (2 * m + 2) * _ + _ ≤ _; omega, by rw [lI]; omega, fun H7 s7 => ?_⟩)))
  refine c_call (va_cons (val_var rfl) (va_cons (val_var rfl) (va_cons (v_sub (v_add (i := (w : Int)) (j := (R.length : Int)) (val_var rfl) (Val.is (v_len (xs := us) (val_var rfl) (.inl (SqL.of (s7 _ _ (s6 _ _ (s5 _ _ eu)))))) (by rw [lu]))) val_c) va_nil))) ⟨(D : Int), (B : Int), ((w : Int) + (R.length : Int)) - 2, A, 2 * m + 1, rfl, dB, bB, by omega, by omega, by omega, ⟨by decide, fun u hu => val_c _ ?_⟩⟩
  have s8 := Same.new' (o := .tup [.int (vAt (R.map (innerI D w y (B : Int))) x (B : Int)), .int ((D : Int) * (B : Int) ^ (((w : Int) + (R.length : Int)) - 2).toNat)]) hu
  have em := at_math (x := x) (y := y) (by omega : (0 : Int) < (B : Int)) d0' hX hY dd hw2 w1
  have dpw : 0 < (D : Int) * (B : Int) ^ (((w : Int) + (R.length : Int)) - 2).toNat := Int.mul_pos (by omega) (Int.pow_pos (by omega))
  have ex : (((w : Int) + (R.length : Int)) - 2).toNat ≤ 2 * d0 := by omega
  have dle : ((D : Int) * (B : Int) ^ (((w : Int) + (R.length : Int)) - 2).toNat).natAbs ≤ D0 * Dp ^ (2 * d0) := by
    rw [Int.natAbs_mul, Int.natAbs_pow, Int.natAbs_natCast, Int.natAbs_natCast]
    exact Nat.mul_le_mul (Nat.le_of_dvd fz.d0 dl) (Nat.le_trans (Nat.pow_le_pow_left bl0 _) (Nat.pow_le_pow_right dpos ex))
  refine c_told2 ⟨vAt (R.map (innerI D w y (B : Int))) x (B : Int), (D : Int) * (B : Int) ^ (((w : Int) + (R.length : Int)) - 2).toNat, .pair (.inr upd_same) dpw, ⟨?_, ?_⟩, em⟩ fun p9 H9 s9 lo9 => q p9 H9 (((s16.trans s7).trans s8).trans s9) lo9
  · exact Nat.lt_of_le_of_lt (Nat.le_trans (num_le dpw em (evP_bd nR cR bp1 bp2 mpos)) (Nat.mul_le_mul_left _ dle)) f1
  · exact Nat.lt_of_le_of_lt dle f2
end
end LW

namespace LW
open PySem PySem.Spec PyProof.Rows L2 GL
section
variable {P : Program} {w : World} {K : PySem.W.Frag} {mg : Str → Option Value} {base : Heap}
def spFlow : Sp := fun vs H Q _ => ∃ (m s' pl ps pt px py : Addr) (a b c d s1 s2 X Y : Rat), vs = [.ref m, .ref s', .ref pl] ∧ Lst H m [a, b, c, d] ∧ H s' = some (.tup [.ref ps, .ref pt]) ∧ Lo H ps s1 ∧ Lo H pt s2 ∧ H pl = some (.tup [.ref px, .ref py]) ∧ Lo H px X ∧ Lo H py Y ∧ Sms 10 [a, b, c, d, s1, s2, X, Y] ∧
  ∀ t u1 u2 H', L2.Same H H' → H' t = some (.tup [.ref u1, .ref u2]) → Lo H' u1 (a * X + b * Y + s1) → Lo H' u2 (c * X + d * Y + s2) → Q (.ref t) H'
theorem gu_in {n : Nat} {t : TGs} {a : Addr} {xs : List V} {σ : L2.St} {H : Hp} {Q : L2.St → Hp → Prop} (h : SqL K H a xs) (l : xs.length = n) (k : t xs σ H Q) : gUnl K n t (.ref a) σ H Q := ⟨a, xs, rfl, h, l, k⟩
theorem ok_law_flow_at (T : Txt K mg) : FnOk P w K mg base CX0 4 (fA mg "_law_flow_at") (fDat K (fA mg "_law_flow_at")) ["_law_matrix_here", "_law_shift", "_law_place_here"] spFlow := by
  have G_law_plus := ok_law_plus (P := P) (w := w) (base := base) T
  have G_law_times := ok_law_times (P := P) (w := w) (base := base) T
  refine T._law_flow_at.F.ok sc_law_flow_at (fun vs H Q E h => ?_) (fun cdv A outer s H vs Q E hr h => ?_)
  · obtain ⟨m, s', pl, ps, pt, px, py, a, b, c, d, s1, s2, X, Y, rfl, _⟩ := h
    rfl
  obtain ⟨m, s', pl, ps, pt, px, py, a, b, c, d, s1, s2, X, Y, rfl, lm, es, l1, l2, ep, lx, ly, sm, k⟩ := h
  refine ⟨_, (pss_cons (ps_asg (pv 0) (pg_unl rfl (pgs_cons (pg_name (i := 3) sc_law_flow_at.nd rfl (Or.inl rfl)) (pgs_cons (pg_name (i := 4) sc_law_flow_at.nd rfl (Or.inl rfl)) (pgs_cons (pg_name (i := 5) sc_law_flow_at.nd rfl (Or.inl rfl)) (pgs_cons (pg_name (i := 6) sc_law_flow_at.nd rfl (Or.inl rfl)) pgs_nil))))))
  (pss_cons (ps_set (i := 7) sc_law_flow_at.nd rfl (Or.inl rfl) (pe_c T._law_plus G_law_plus (hr.mono (by decide)) (pa_cons (pe_c T._law_plus G_law_plus (hr.mono (by decide)) (pa_cons (pe_c T._law_times G_law_times (hr.mono (by decide)) (pa_cons (pv 3) (pa_cons (pe_ix ix_tup (pv 2) pe_int (fun _ _ => rfl)) pa_nil))) (pa_cons (pe_c T._law_times G_law_times (hr.mono (by decide)) (pa_cons (pv 4) (pa_cons (pe_ix ix_tup (pv 2) pe_int (fun _ _ => rfl)) pa_nil))) pa_nil))) (pa_cons (pe_ix ix_tup (pv 1) pe_int (fun _ _ => rfl)) pa_nil))))
  (pss_one (ps_ret (pe_tup (pa_cons (pv 7) (pa_cons (pe_c T._law_plus G_law_plus (hr.mono (by decide)) (pa_cons (pe_c T._law_plus G_law_plus (hr.mono (by decide)) (pa_cons (pe_c T._law_times G_law_times (hr.mono (by decide)) (pa_cons (pv 5) (pa_cons (pe_ix ix_tup (pv 2) pe_int (fun _ _ => rfl)) pa_nil))) (pa_cons (pe_c T._law_times G_law_times (hr.mono (by decide)) (pa_cons (pv 6) (pa_cons (pe_ix ix_tup (pv 2) pe_int (fun _ _ => rfl)) pa_nil))) pa_nil))) (pa_cons (pe_ix ix_tup (pv 1) pe_int (fun _ _ => rfl)) pa_nil))) pa_nil))))))), ?_⟩
  obtain ⟨pa, pb, pc, pd, em, la, lb, lc, ld⟩ := lst4 lm
  have ma := sm a (by simp)
  have mb := sm b (by simp)
  have mc := sm c (by simp)
  have md := sm d (by simp)
  have m1 := sm s1 (by simp)
  have m2 := sm s2 (by simp)
  have mx := sm X (by simp)
  have my := sm Y (by simp)
  refine q_gen ((val_var rfl) _ (gu_in (SqL.of em) rfl ⟨_, _, rfl, _, _, rfl, _, _, rfl, _, _, rfl, rfl, ?_⟩))
  have row : ∀ {i j n : Nat} {σ : L2.St} {H1 : Hp} {p1 p2 pz : Addr} {u v z : Rat} {Q1 : VK} {E1 E2 E3 E4 : XK} {t1 t2 tz : TE}, L2.Same H H1 → Lo H p1 u → Lo H p2 v → Lo H pz z → Sm 10 u → Sm 10 v → Sm 10 z → σ[i]? = some (some (.ref p1)) → σ[j]? = some (some (.ref p2)) →
      (∀ H2, L2.Same H H2 → Val t1 σ H2 (.ref px)) → (∀ H2, L2.Same H H2 → Val t2 σ H2 (.ref py)) → (∀ H2, L2.Same H H2 → Val tz σ H2 (.ref pz)) →
      (∀ r H2, L2.Same H1 H2 → Lo H2 r (u * X + v * Y + z) → Q1 (.ref r) H2) →
      tCall sp_law_plus [] E1 (tCons (tCall sp_law_plus [] E2 (tCons (tCall sp_law_times [] E3 (tCons (tVar i) (tCons t1 tNil))) (tCons (tCall sp_law_times [] E4 (tCons (tVar j) (tCons t2 tNil))) tNil))) (tCons tz tNil)) σ H1 Q1 := fun {i j n σ H1 p1 p2 pz u v z Q1 E1 E2 E3 E4 t1 t2 tz} s0 l1 l2 lz m1 m2 mz h1 h2 v1 v2 vz kk =>
    call_1 (call_1 (c_ltimes (va_cons (val_var h1) (va_cons (v1 _ s0) va_nil)) (l1.same s0) (lx.same s0) m1 mx (by decide) (by decide) fun a1 HA sA loA => va_1 (c_ltimes (va_cons (val_var h2) (va_cons (v2 _ (s0.trans sA)) va_nil)) (l2.same (s0.trans sA)) (ly.same (s0.trans sA)) m2 my (by decide) (by decide) fun a2 HB sB loB => cs_lplus (loA.same sB) loB (m1.mul mx) (m2.mul my) (by decide) (by decide) fun a3 HC sC loC => va_1 ((vz _ (((s0.trans sA).trans sB).trans sC)) _ (cs_lplus loC (lz.same (((s0.trans sA).trans sB).trans sC)) ((m1.mul mx).add (m2.mul my)) mz (by decide) (by decide) fun a4 HD sD loD => kk a4 HD (((sA.trans sB).trans sC).trans sD) loD)))))
  refine q_asg (row (n := 0) (Same.refl H) la lb l1 ma mb m1 rfl rfl (fun H2 s => v_ixT (n := 0) (val_var rfl) val_c (SqT.of (s _ _ ep)) rfl) (fun H2 s => v_ixT (n := 1) (val_var rfl) val_c (SqT.of (s _ _ ep)) rfl) (fun H2 s => v_ixT (n := 0) (val_var rfl) val_c (SqT.of (s _ _ es)) rfl) fun u1 H2 s2 lo1 => ?_)
  refine r_ret (tup_two ((val_var rfl) _ (row (n := 0) s2 lc ld l2 mc md m2 rfl rfl (fun H2 s => v_ixT (n := 0) (val_var rfl) val_c (SqT.of (s _ _ ep)) rfl) (fun H2 s => v_ixT (n := 1) (val_var rfl) val_c (SqT.of (s _ _ ep)) rfl) (fun H2 s => v_ixT (n := 1) (val_var rfl) val_c (SqT.of (s _ _ es)) rfl) fun u2 H3 s3 lo2 => ⟨by decide, fun t ht => ?_⟩)))
  have s4 := Same.new' (o := .tup [.ref u1, .ref u2]) ht
  exact k t u1 u2 _ ((s2.trans s3).trans s4) upd_same ((lo1.same s3).same s4) (lo2.same s4)
end
end LW

namespace GL
open PySem PySem.Spec PyProof.Rows L2
section
variable {pg : Program} {wd : World} {KT' : Type} [DecidableEq KT'] {kd : HeapKind pg wd KT'} {Ar : Around} {XE : Value → Shared → Prop} {st : Shared}
/-- two dicts with keys in the heap, of one size, each pair of the first found in the second -/
theorem pairsSame {nm : String} {a b : Addr} {xs ys : List (KT' × Addr × Value)} {Q : Bool → Shared → Prop} (na : (a == sysModules) = false) (nb : (b == sysModules) = false) (hr : kd.room Ar) (da : st.heap.DictOfH kd a xs) (db : st.heap.DictOfH kd b ys) (sz : xs.length = ys.length)
    (hits : ∀ x ∈ xs, ∃ (j : Nat) (p : Addr) (u : Value), ys[j]? = some (x.1, p, u) ∧ SeqAt.EqAt Ar st x.2.2 u true) (q : Q true st) : wpAny (model pg wd) Ar (Builtin.Dict.samePairs nm a b) Q XE st := by
  obtain ⟨o1, e1, p1, g1, _, d1, l1, i1, n1⟩ := da
  obtain ⟨o2, e2, p2, g2, _, d2, l2, i2, n2⟩ := db
  have z1 : e1.size = xs.length := size_of_entries l1
  have z2 : e2.size = ys.length := size_of_entries l2
  unfold Builtin.Dict.samePairs Builtin.Dict.showsAll
  rw [if_neg (by rw [na]; decide), if_neg (by rw [nb]; decide)]
  refine wpAny_bind (wpAny_pure (wpAny_bind (wpAny_pure (wpAny_bind (wpAny_dictEntries g1 d1 ?_)))))
  show wpAny _ _ (_ >>= _) _ _ _
  refine wpAny_bind (wpAny_dictEntries g2 d2 ?_)
  rw [if_neg (by rw [z1, z2, sz]; simp)]
  refine wpAny_bind (wpAny_dictEpoch g1 d1 (wpAny_bind ?_))
  rw [Std.Legacy.Range.forIn_eq_forIn_range']
  simp only [Std.Legacy.Range.size, Nat.sub_zero, Nat.add_sub_cancel, Nat.div_one]
  refine wpAny_forIn_list _ (fun more r t => t = st ∧ r = (none, ()) ∧ ∃ i, i ≤ e1.size ∧ more = List.range' i (e1.size - i)) _ ?step ?fin _ _ ⟨rfl, rfl, 0, Nat.zero_le _, by rw [Nat.sub_zero]⟩
  case fin =>
    rintro r t ⟨rfl, rfl, _⟩
    exact wpAny_pure q
  case step =>
    rintro x more r t ⟨rfl, rfl, i, li, em⟩
    have lt : i < e1.size := by
      refine Nat.lt_of_le_of_ne li fun z => ?_
      rw [z, Nat.sub_self] at em
      cases em
    rw [show e1.size - i = (e1.size - (i + 1)) + 1 by omega, List.range'_succ] at em
    obtain ⟨rfl, rfl⟩ := List.cons.inj em
    have lx : x < xs.length := by omega
    have ee : e1[x]? = some (entryOfKey kd xs[x]) := by rw [entry_at l1, List.getElem?_eq_getElem lx]; rfl
    obtain ⟨j, p, u, hj, eq⟩ := hits xs[x] (List.getElem_mem lx)
    refine wpAny_bind (wpAny_dictEntries g1 d1 ?_)
    rw [ee]
    refine wpAny_bind (wpAny_holding (wpAny_bind ?_))
    refine wpAny_dictFind_heap hr (i1 _ (List.getElem_mem lx)) g2 d2 l2 i2 n2 (fun no => ?_) (fun j' p' hj' => ?_)
    · exact (no j (p, u) hj).elim
    · have jj : j' = j := by
        have a1 := (List.getElem?_eq_some_iff.mp hj').1
        have a2 := (List.getElem?_eq_some_iff.mp hj).1
        have b1 : (ys.map (·.1))[j']? = some xs[x].1 := by rw [List.getElem?_map, hj']; rfl
        have b2 : (ys.map (·.1))[j]? = some xs[x].1 := by rw [List.getElem?_map, hj]; rfl
        exact (List.getElem?_inj (by rw [List.length_map]; exact a1) n2).mp (b1.trans b2.symm)
      subst jj
      refine wpAny_bind (wpAny_dictEntries g2 d2 ?_)
      have e2j : e2[j']? = some (entryOfKey kd (xs[x].1, p, u)) := by rw [entry_at l2, hj]; rfl
      rw [e2j]
      refine wpAny_holding (eq pg wd _ _ ?_)
      show wpAny _ _ (if (!true) = true then _ else _) _ _ _
      rw [if_neg (by decide)]
      refine wpAny_bind (wpAny_dictEpoch g1 d1 ?_)
      rw [if_neg (by simp)]
      exact wpAny_pure ⟨rfl, rfl, x + 1, lt, rfl⟩
theorem neDicts {a b : Addr} {xs ys : List (KT' × Addr × Value)} {Q : Value → Shared → Prop} (na : (a == sysModules) = false) (nb : (b == sysModules) = false) (da : st.heap.DictOfH kd a xs) (db : st.heap.DictOfH kd b ys) (un : Ar.units < cLine) (hr : kd.room Ar.in1) (sz : xs.length = ys.length)
    (hits : ∀ x ∈ xs, ∃ (j : Nat) (p : Addr) (u : Value), ys[j]? = some (x.1, p, u) ∧ SeqAt.EqAt Ar.in1 st x.2.2 u true) (q : Q (.bool false) st) : wpAny (model pg wd) Ar (compareOp .NotEq (.ref a) (.ref b)) Q XE st := by
  have ta := da.typeIs
  have tb := db.typeIs
  refine wpAny_richCompare_same_room (op := .NotEq) ta tb PySem.F.slot_dict_ne ?_ un
  refine wpAny_call_entry PySem.F.slot_dict_ne ta PySem.F.entry_dict_ne ?_ (PySem.F.args_dict_ne_2 _ _)
  show wpAny _ _ (Builtin.Dict.dictSlotArgs "__ne__" ⟨[.ref a, .ref b], []⟩ >>= _) _ _ st
  unfold Builtin.Dict.dictSlotArgs
  refine wpAny_bind (wpAny_bind (wpAny_notOrdered_dict ta ?_))
  show wpAny _ _ (pure (Value.ref a, Value.ref b)) _ _ st
  refine wpAny_pure (wpAny_bind (wpAny_isInstance (T := "dict") tb PySem.F.sub_dict_dict ?_))
  simp only [Bool.not_true, Bool.false_eq_true, if_false]
  refine wpAny_bind (wpAny_pure (wpAny_bind (wpAny_pure (wpAny_bind (pairsSame na nb hr da db sz hits ?_)))))
  exact wpAny_pure ⟨_, rfl, (fun z => nomatch z), by simpa using q⟩
end
section
variable {X : Cx}
theorem pairR {α β : Type} {F : α → β → Prop} : ∀ {l : List α} {r : List β}, Paired F l r → ∀ {i : Nat} {b : β}, r[i]? = some b → ∃ a, l[i]? = some a ∧ F a b
  | _, _, .nil, i, b, h => nomatch h
  | _, _, .cons f t, 0, b, h => by cases h; exact ⟨_, rfl, f⟩
  | _, _, .cons f t, i + 1, b, h => pairR t (i := i) h
theorem pairL {α β : Type} {F : α → β → Prop} : ∀ {l : List α} {r : List β}, Paired F l r → ∀ {i : Nat} {a : α}, l[i]? = some a → ∃ b, r[i]? = some b ∧ F a b
  | _, _, .nil, i, a, h => nomatch h
  | _, _, .cons f t, 0, a, h => by cases h; exact ⟨_, rfl, f⟩
  | _, _, .cons f t, i + 1, a, h => pairL t (i := i) h
/-- dicts with tuples as keys and data as values, alike -/
def rNeDT (K : PySem.W.Frag) : R2 := fun x y H Q => ∃ a b kvs kvs', x = .ref a ∧ y = .ref b ∧ H a = some (.dT kvs) ∧ H b = some (.dT kvs') ∧ kvs.length = kvs'.length ∧
  (∀ kv ∈ kvs, ∃ v' d, (kv.1, v') ∈ kvs' ∧ Dp K H kv.2 d ∧ Dp K H v' d ∧ SeqAt.shaped d = true ∧ PyData.eqv d d = true) ∧ Q (.bl false) H
theorem op_neDT (hu : X.A.units + 65 < cLine) : OpR X (compareOp .NotEq) (rNeDT X.K) := by
  intro pins s σ H x y v u Q I rx ry h
  obtain ⟨a, b, kvs, kvs', rfl, rfl, ea, eb, sz, al, q⟩ := h
  obtain rfl : v = Value.ref a := rx
  obtain rfl : u = Value.ref b := ry
  obtain ⟨_, ya, xs, ka, da⟩ := dt_of I.hok ea
  obtain ⟨_, yb, ys, kb, db⟩ := dt_of I.hok eb
  have l1 := ka.length
  have l2 := kb.length
  refine neDicts (kd := tupleKind (mixKind X.prog X.w)) ya yb da db (by omega) (tupleKind_room_in1 (by omega)) (by omega) (fun z hz => ?_) ⟨.bl false, H, I, rfl, q⟩
  obtain ⟨i, hi⟩ := List.getElem?_of_mem hz
  obtain ⟨kv, hkv, e1, _, r1⟩ := pairR ka hi
  obtain ⟨v', d, mem, d1, d2, sh, eq⟩ := al kv (List.mem_of_getElem? hkv)
  obtain ⟨j, hj⟩ := List.getElem?_of_mem mem
  obtain ⟨w, hw, e2, _, r2⟩ := pairL kb hj
  obtain ⟨as, ra⟩ := Dp.reads I d _ _ d1 r1
  obtain ⟨bs, rb⟩ := Dp.reads I d _ _ d2 r2
  have at' := PySem.W.keq_at (A := X.A) ra rb sh sh (show X.A.units + 1 + 64 < cLine by omega)
  rw [eq] at at'
  refine ⟨j, w.2.1, w.2.2, ?_, at'⟩
  rw [hw, ← e1]
  exact congrArg some (Prod.ext e2.symm rfl)
end
end GL

namespace LW
open PySem PySem.Spec PyProof.Rows L2 GL
section
variable {P : Program} {w : World} {K : PySem.W.Frag} {mg : Str → Option Value} {base : Heap}
/-! ### dicts of the law's own, compared -/
theorem sub_len {α : Type} [DecidableEq α] : ∀ {l m : List α}, l.Nodup → (∀ x ∈ l, x ∈ m) → l.length ≤ m.length
  | [], _, _, _ => Nat.zero_le _
  | a :: l, m, nd, h => by
    have ha := h a List.mem_cons_self
    have nd' := List.nodup_cons.mp nd
    have ih := sub_len (m := m.erase a) nd'.2 fun x hx => (List.mem_erase_of_ne (fun (z : x = a) => nd'.1 (by rw [← z]; exact hx))).mpr (h x (List.mem_cons_of_mem _ hx))
    rw [List.length_erase_of_mem ha] at ih
    have := List.length_pos_of_mem ha
    show l.length + 1 ≤ m.length
    omega
theorem en_mem {L M : List En} (nL : (L.map (·.1)).Nodup) (nM : (M.map (·.1)).Nodup) (z : nz L) (c : ∀ i j, cf L i j = cf M i j) {e : En} (he : e ∈ L) : e ∈ M := by
  have h1 := cf_in (k := e.1) (q := e.2) he nL
  by_cases k : e.1 ∈ M.map (·.1)
  · obtain ⟨e', he', ek⟩ := List.mem_map.mp k
    have h2 := cf_in (k := e'.1) (q := e'.2) he' nM
    rw [ek, ← c, h1] at h2
    have : e' = e := Prod.ext ek h2.symm
    rw [← this]
    exact he'
  · have h2 := cf_out k
    rw [← c, h1] at h2
    exact (z e he h2).elim
theorem nodup_en {L : List En} (n : (L.map (·.1)).Nodup) : L.Nodup := List.Pairwise.of_map (·.1) (fun _ _ h z => h (congrArg _ z)) n
theorem pr_shaped (x y : Int) : SeqAt.shaped (pr x y) = true := by simp [pr, SeqAt.shaped, PyData.canLay0, PyData.canLayAll0, PyData.depth, PyData.depthAll]
theorem pr_eqv (x y : Int) : PyData.eqv (pr x y) (pr x y) = true := by simp [pr, PyData.eqv, PyData.eqvAll]
theorem dicts_ne {H : Hp} {a b : Addr} {L M : List En} {Q : VK} (ha : DW H a L) (hb : DW H b M) (n1 : nz L) (n2 : nz M) (c : ∀ i j, cf L i j = cf M i j) (q : Q (.bl false) H) : GL.rNeDT K (.ref a) (.ref b) H Q := by
  obtain ⟨kvs, ea, al, nL⟩ := ha
  obtain ⟨kvs', eb, al', nM⟩ := hb
  have len : L.length = M.length := Nat.le_antisymm (sub_len (nodup_en nL) fun e he => en_mem nL nM n1 c he) (sub_len (nodup_en nM) fun e he => en_mem nM nL n2 (fun i j => (c i j).symm) he)
  refine ⟨a, b, kvs, kvs', rfl, rfl, ea, eb, by rw [al.len, al'.len, len], fun kv hkv => ?_, q⟩
  obtain ⟨i, hi⟩ := List.getElem?_of_mem hkv
  obtain ⟨e, he, ek, t, et, lo⟩ := al.get hi
  have hm := en_mem nL nM n1 c (List.mem_of_getElem? he)
  obtain ⟨j, hj⟩ := List.getElem?_of_mem hm
  have jl : j < kvs'.length := by rw [al'.len]; exact (List.getElem?_eq_some_iff.mp hj).1
  obtain ⟨e', he', ek', t', et', lo'⟩ := al'.get (List.getElem?_eq_getElem jl)
  rw [hj] at he'
  cases he'
  refine ⟨kvs'[j].2, pr e.2.num (e.2.den : Int), ?_, ?_, ?_, pr_shaped _ _, pr_eqv _ _⟩
  · have : kvs'[j] = (kv.1, kvs'[j].2) := Prod.ext (by rw [ek', ek]) rfl
    rw [← this]
    exact List.getElem_mem jl
  · rw [et]; exact lo_dp lo
  · rw [et']; exact lo_dp lo'
theorem lo_ne {H : Hp} {a b : Addr} {q r : Rat} {Q : VK} (ha : Lo H a q) (hb : Lo H b r) (e : q = r) (k : Q (.bl false) H) : rNeD K (.ref a) (.ref b) H Q := by
  subst e
  exact ⟨_, _, lo_dp ha, lo_dp hb, pr_shaped _ _, pr_shaped _ _, by rw [pr_eqv]; exact k⟩
theorem hu65 {A : Around} {k : Nat} (hr : Room k A) : A.units + 65 < cLine := by
  have := hr.un
  omega
/-! ### what a plane refuses to move -/
def spMvE (mg : Str → Option Value) : Sp := fun vs H _ E => ∃ (a : Addr) (v u : V), vs = [.ref a, v, u] ∧ ((RwQ H 4 v false ∧ BadRw mg H v E) ∨ (RwQ H 4 v true ∧ PlQ H u false ∧ BadRw mg H u E))
theorem ok_Plane_movedE (T : Txt K mg) (TP : PlaneT K mg) : FnOk P w K mg base (L2.CX P w) 11 (mA K (pnA mg) "moved") (fDat K (mA K (pnA mg) "moved")) ["self", "matrix", "shift"] (spMvE mg) := by
  have Gis_row_of := ok_is_row_ofN (P := P) (w := w) (base := base) T
  have Gis_place := ok_is_place (P := P) (w := w) (base := base) T
  have Gi_BadRow := init_BadRow (P := P) (w := w) (base := base) T
  have Gtold := ok_told (P := P) (w := w) (base := base) T
  have Gwhole_row := ok_whole_rowL (P := P) (w := w) (base := base) T
  have Gwhole_rows := ok_whole_rows (P := P) (w := w) (base := base) T
  have Gmoved_whole := ok_moved_whole (P := P) (w := w) (base := base) T
  have GPlane_degree := ok_Plane_degree (P := P) (w := w) (base := base) T TP
  have G_plane_of_numbers := ok_plane_of_numbers (P := P) (w := w) (base := base) T TP
  refine TP.m_moved.F.okX scPlane_moved (fun vs H Q E h => ?_) (fun cdv A outer s H vs Q E hr h => ?_)
  · obtain ⟨a, v, u, rfl, _⟩ := h
    rfl
  obtain ⟨a, v, u, rfl, h⟩ := h
  refine ⟨_, (pss_cons (ps_if (pt_not (pt_val (pe_c T.is_row_of Gis_row_of (hr.mono (by decide)) (pa_cons (pv 1) (pa_cons pe_int pa_nil))))) (pss_one (ps_raise rfl (takes_of rfl rfl rfl rfl) (pmk_oex T.BadRow.o T.BadRow.i T.BadRow.t Gi_BadRow (hr.mono (by decide)) T.BadRow.b .nil pass0 (by rfl) T.BadRow.g (pa_cons (pv 1) pa_nil)))) pss_nil)
  (pss_cons (ps_if (pt_not (pt_val (pe_c T.is_place Gis_place (hr.mono (by decide)) (pa_cons (pv 2) pa_nil)))) (pss_one (ps_raise rfl (takes_of rfl rfl rfl rfl) (pmk_oex T.BadRow.o T.BadRow.i T.BadRow.t Gi_BadRow (hr.mono (by decide)) T.BadRow.b .nil pass0 (by rfl) T.BadRow.g (pa_cons (pv 2) pa_nil)))) pss_nil)
  (pss_cons (ps_setLc (i := 3) (own := [("number", 4)]) (g := gName 4) (tt := tYes) (by rfl) scPlane_moved.nd rfl rfl (sw_true rfl rfl rfl (by decide +kernel)) (pi_list (pe_lst (StX.pa_star (pv 1) (StX.pa_star (pv 2) pa_nil)))) (blkOk_by (own := [("number", 4)]) (N := ["self", "matrix", "shift", "parts", "number", "a", "b", "c", "d", "e", "f", "bottom", "rows", "below", "numbers", "scale"]) (sc := defScope sPlane_moved) (by decide +kernel)) (fun _ _ _ _ _ => pg_name (i := 4) scPlane_moved.nd rfl (Or.inl rfl)) (fun _ _ _ _ _ => pts_nil) (fun _ _ _ _ _ => (pe_call Gtold (hr.mono (by decide)) (by rfl) T.told.g T.told.F.kp T.told.b .nil passL (pa_cons (pv 4) (pa_cons pe_str pa_nil)))))
  (pss_cons (ps_asg (pe_c T.whole_row Gwhole_row (hr.mono (by decide)) (pa_cons (pv 3) pa_nil)) (pg_tup rfl (pgs_cons (pg_unl rfl (pgs_cons (pg_name (i := 5) scPlane_moved.nd rfl (Or.inl rfl)) (pgs_cons (pg_name (i := 6) scPlane_moved.nd rfl (Or.inl rfl)) (pgs_cons (pg_name (i := 7) scPlane_moved.nd rfl (Or.inl rfl)) (pgs_cons (pg_name (i := 8) scPlane_moved.nd rfl (Or.inl rfl)) (pgs_cons (pg_name (i := 9) scPlane_moved.nd rfl (Or.inl rfl)) (pgs_cons (pg_name (i := 10) scPlane_moved.nd rfl (Or.inl rfl)) pgs_nil))))))) (pgs_cons (pg_name (i := 11) scPlane_moved.nd rfl (Or.inl rfl)) pgs_nil))))
  (pss_cons (ps_asg (pe_c T.whole_rows Gwhole_rows (hr.mono (by decide)) (pa_cons (pe_fld (pv 0) (by rfl)) pa_nil)) (pg_tup rfl (pgs_cons (pg_name (i := 12) scPlane_moved.nd rfl (Or.inl rfl)) (pgs_cons (pg_name (i := 13) scPlane_moved.nd rfl (Or.inl rfl)) pgs_nil))))
  (pss_cons (ps_asg (pe_c T.moved_whole Gmoved_whole (hr.mono (by decide)) (pa_cons (pv 12) (pa_cons (pe_tup (pa_cons (pv 5) (pa_cons (pv 6) (pa_cons (pv 9) pa_nil)))) (pa_cons (pe_tup (pa_cons (pv 7) (pa_cons (pv 8) (pa_cons (pv 10) pa_nil)))) (pa_cons (pv 11) (pa_cons (pe_callB (call_max2 rfl) (by rfl) T.max (by decide +kernel) (pa_cons (pe_meth0 (pv 0) TP.cls TP.m_degree.meth GPlane_degree (hr.mono (by decide)) TP.m_degree.b .nil pass0) (pa_cons pe_int pa_nil))) pa_nil)))))) (pg_tup rfl (pgs_cons (pg_name (i := 14) scPlane_moved.nd rfl (Or.inl rfl)) (pgs_cons (pg_name (i := 15) scPlane_moved.nd rfl (Or.inl rfl)) pgs_nil))))
  (pss_one (ps_ret (pe_c T._plane_of_numbers G_plane_of_numbers (hr.mono (by decide)) (pa_cons (pv 14) (pa_cons (pe_op op_mulW (pv 13) (pv 15)) pa_nil))))))))))), ?_⟩
  rcases h with ⟨rq, bad⟩ | ⟨rq, pq, bad⟩
  · refine q_ifNot (c_call (va_cons (val_var rfl) (va_cons val_c va_nil)) ⟨v, 4, false, rfl, rq, fun H1 s1 => ⟨_, rfl, iteT ?_⟩⟩)
    exact x_made1 (va_cons (val_var rfl) va_nil) fun d H' s n e => bad d H' (Same.trans s1 s) (Same.free s1 n) e
  · refine q_ifNot (c_call (va_cons (val_var rfl) (va_cons val_c va_nil)) ⟨v, 4, true, rfl, rq, fun H1 s1 => ⟨_, rfl, iteF ?_⟩⟩)
    refine q_ifNot (c_is_place (val_var rfl) (pq.same s1) fun H2 s2 => ⟨_, rfl, iteT ?_⟩)
    have s12 := s1.trans s2
    exact x_made1 (va_cons (val_var rfl) va_nil) fun d H' s n e => bad d H' (Same.trans s12 s) (Same.free s12 n) e
end
end LW

namespace LW
open PySem PySem.Spec PyProof.Rows L2 GL
section
variable {P : Program} {w : World} {K : PySem.W.Frag} {mg : Str → Option Value} {base : Heap}
/-! ### values that are no places, no rows -/
inductive OdA (H : Hp) : V → Prop
  | non : OdA H .non
  | str : OdA H (.str "ab")
  | one {q : Addr} (e : H q = some (.tup [.int 1])) : OdA H (.ref q)
  | two {q : Addr} {x : V} (e : H q = some (.tup [.int 1, x])) (h : Odd H x) : OdA H (.ref q)
  | lst {q : Addr} (e : H q = some (.lst [.int 1, .int 2, .int 3])) : OdA H (.ref q)
theorem OdA.same {H H' : Hp} {v : V} (g : OdA H v) (s : L2.Same H H') : OdA H' v := by
  cases g with
  | non => exact .non
  | str => exact .str
  | one e => exact .one (s _ _ e)
  | two e h => exact .two (s _ _ e) (h.same s)
  | lst e => exact .lst (s _ _ e)
theorem OdA.but {H H' : Hp} {v : V} {p c : Addr} {m : Nat} (g : OdA H v) (P : PenAt H p c m) (b : But p H H') : OdA H' v := by
  cases g with
  | non => exact .non
  | str => exact .str
  | one e => exact .one (pen_keep P b e (fun _ z => by cases z))
  | two e h => exact .two (pen_keep P b e (fun _ z => by cases z)) (h.but P b)
  | lst e => exact .lst (pen_keep P b e (fun _ z => by cases z))
theorem OdA.no {H : Hp} {v : V} (g : OdA H v) : PlQ H v false := by
  cases g with
  | non => exact .odd .non (by decide) (by decide)
  | str => exact .odd (.str _) (by decide) (by decide)
  | one e => exact .seq (bs := [true]) (.inr e) (by show 1 ≤ 1000; decide) (.cons (.int _) .nil)
  | two e h => exact .pair (b1 := true) (b2 := false) (.inr e) (.int _) h.rat rfl
  | lst e => exact .seq (bs := [true, true, true]) (.inl e) (by show 3 ≤ 1000; decide) (.cons (.int _) (.cons (.int _) (.cons (.int _) .nil)))
theorem OdA.norow {H : Hp} {v : V} (g : OdA H v) : RwQ H 4 v false := by
  cases g with
  | non => exact .odd .non (by decide) (by decide)
  | str => exact .odd (.str _) (by decide) (by decide)
  | one e => exact RwQ.seq (bs := [true]) (.inr e) (by show 1 ≤ 1000; decide) (.cons (.int _) .nil)
  | two e h => exact RwQ.seq (bs := [true, false]) (.inr e) (by show 2 ≤ 1000; decide) (.cons (.int _) (.cons h.rat .nil))
  | lst e => exact RwQ.seq (bs := [true, true, true]) (.inl e) (by show 3 ≤ 1000; decide) (.cons (.int _) (.cons (.int _) (.cons (.int _) .nil)))
inductive OdC (H : Hp) : V → Prop
  | old {v : V} (h : OdA H v) : OdC H v
  | end_ {q : Addr} {x : V} (e : H q = some (.tup [.int 1, .int 0, .int 0, x])) (h : Odd H x) : OdC H (.ref q)
  | fst {q : Addr} {x : V} (e : H q = some (.lst [x, .int 0, .int 0, .int 1])) (h : Odd H x) : OdC H (.ref q)
  | five {q : Addr} (e : H q = some (.tup [.int 1, .int 0, .int 0, .int 1, .int 0])) : OdC H (.ref q)
theorem OdC.but {H H' : Hp} {v : V} {p c : Addr} {m : Nat} (g : OdC H v) (P : PenAt H p c m) (b : But p H H') : OdC H' v := by
  cases g with
  | old h => exact .old (h.but P b)
  | end_ e h => exact .end_ (pen_keep P b e (fun _ z => by cases z)) (h.but P b)
  | fst e h => exact .fst (pen_keep P b e (fun _ z => by cases z)) (h.but P b)
  | five e => exact .five (pen_keep P b e (fun _ z => by cases z))
theorem OdC.norow {H : Hp} {v : V} (g : OdC H v) : RwQ H 4 v false := by
  cases g with
  | old h => exact h.norow
  | end_ e h => exact RwQ.seq (bs := [true, true, true, false]) (.inr e) (by show 4 ≤ 1000; decide) (.cons (.int _) (.cons (.int _) (.cons (.int _) (.cons h.rat .nil))))
  | fst e h => exact RwQ.seq (bs := [false, true, true, true]) (.inl e) (by show 4 ≤ 1000; decide) (.cons h.rat (.cons (.int _) (.cons (.int _) (.cons (.int _) .nil))))
  | five e => exact RwQ.seq (bs := [true, true, true, true, true]) (.inr e) (by show 5 ≤ 1000; decide) (.cons (.int _) (.cons (.int _) (.cons (.int _) (.cons (.int _) (.cons (.int _) .nil)))))
inductive OdB (H : Hp) : V → Prop
  | int : OdB H (.int 5)
  | nil {q : Addr} (e : H q = some (.tup [])) : OdB H (.ref q)
  | two {q : Addr} (e : H q = some (.tup [.non, .int 1])) : OdB H (.ref q)
theorem OdB.same {H H' : Hp} {v : V} (g : OdB H v) (s : L2.Same H H') : OdB H' v := by
  cases g with
  | int => exact .int
  | nil e => exact .nil (s _ _ e)
  | two e => exact .two (s _ _ e)
theorem OdB.but {H H' : Hp} {v : V} {p c : Addr} {m : Nat} (g : OdB H v) (P : PenAt H p c m) (b : But p H H') : OdB H' v := by
  cases g with
  | int => exact .int
  | nil e => exact .nil (pen_keep P b e (fun _ z => by cases z))
  | two e => exact .two (pen_keep P b e (fun _ z => by cases z))
theorem OdB.no {H : Hp} {v : V} (g : OdB H v) : PlQ H v false := by
  cases g with
  | int => exact .odd (.int _) (by decide) (by decide)
  | nil e => exact .seq (bs := []) (.inr e) (by decide) .nil
  | two e => exact .pair (b1 := false) (b2 := true) (.inr e) (.odd .non (by simp)) (.int _) rfl
theorem nc_lineF {H : Hp} {v : V} {d : PyData} {B k : Nat} (h : Dd K H v d) (n : Nc B k d) (b : B ≤ 100000) (c : k ≤ 40) : FineL K H v d := n.line h b c
theorem nc_in {i : Int} (h : i.natAbs ≤ 5) : Nc 1000 3 (.int i) := (nc_int (n := i) (Nat.lt_of_le_of_lt h (by decide))).mono (by decide) (by decide)
theorem OdA.fine {H : Hp} {v : V} (g : OdA H v) : ∃ d, FineL K H v d := by
  have kf : ∀ {v : V} {d : PyData}, Fine K H v d → FineL K H v d := fun f => nc_lineF f.1 f.nc (by decide) (by decide)
  cases g with
  | non => obtain ⟨d, f⟩ : ∃ d, Fine K H .non d := kkF .non (by decide +kernel); exact ⟨d, kf f⟩
  | str => obtain ⟨d, f⟩ : ∃ d, Fine K H (.str "ab") d := kkF (.str _) (by decide +kernel); exact ⟨d, kf f⟩
  | one e => obtain ⟨d, f⟩ : ∃ d, Fine K H (.ref _) d := kkF (.tup (SqT.of e) (.cons (.int _) .nil)) (by decide +kernel); exact ⟨d, kf f⟩
  | two e h =>
    obtain ⟨d, f⟩ := h.fine (K := K)
    refine ⟨.tuple [.int 1, d], nc_lineF (.tup (SqT.of e) (.cons (.int _) (.cons f.1 .nil))) (nc_tuple (B := 1000) (k := 3) fun x hx => ?_) (by show 2 * (1000 + 2) + 3 ≤ 100000; decide) (by decide)⟩
    simp only [List.mem_cons, List.not_mem_nil, or_false] at hx
    rcases hx with rfl | rfl
    · exact nc_in (by decide)
    · exact f.nc
  | lst e => obtain ⟨d, f⟩ : ∃ d, Fine K H (.ref _) d := kkF (.lst (SqL.of e) (.cons (.int _) (.cons (.int _) (.cons (.int _) .nil)))) (by decide +kernel); exact ⟨d, kf f⟩
theorem OdC.fine {H : Hp} {v : V} (g : OdC H v) : ∃ d, FineL K H v d := by
  have kf : ∀ {v : V} {d : PyData}, Fine K H v d → FineL K H v d := fun f => nc_lineF f.1 f.nc (by decide) (by decide)
  cases g with
  | old h => exact h.fine
  | end_ e h =>
    obtain ⟨d, f⟩ := h.fine (K := K)
    refine ⟨.tuple [.int 1, .int 0, .int 0, d], nc_lineF (.tup (SqT.of e) (.cons (.int _) (.cons (.int _) (.cons (.int _) (.cons f.1 .nil))))) (nc_tuple (B := 1000) (k := 3) fun x hx => ?_) (by show 4 * (1000 + 2) + 3 ≤ 100000; decide) (by decide)⟩
    simp only [List.mem_cons, List.not_mem_nil, or_false] at hx
    rcases hx with rfl | rfl | rfl | rfl
    · exact nc_in (by decide)
    · exact nc_in (by decide)
    · exact nc_in (by decide)
    · exact f.nc
  | fst e h =>
    obtain ⟨d, f⟩ := h.fine (K := K)
    refine ⟨.list [d, .int 0, .int 0, .int 1], nc_lineF (.lst (SqL.of e) (.cons f.1 (.cons (.int _) (.cons (.int _) (.cons (.int _) .nil))))) (nc_list (B := 1000) (k := 3) fun x hx => ?_) (by show 4 * (1000 + 2) + 3 ≤ 100000; decide) (by decide)⟩
    simp only [List.mem_cons, List.not_mem_nil, or_false] at hx
    rcases hx with rfl | rfl | rfl | rfl
    · exact f.nc
    · exact nc_in (by decide)
    · exact nc_in (by decide)
    · exact nc_in (by decide)
  | five e => obtain ⟨d, f⟩ : ∃ d, Fine K H (.ref _) d := kkF (.tup (SqT.of e) (.cons (.int _) (.cons (.int _) (.cons (.int _) (.cons (.int _) (.cons (.int _) .nil)))))) (by decide +kernel); exact ⟨d, kf f⟩
theorem OdB.fine {H : Hp} {v : V} (g : OdB H v) : ∃ d, FineL K H v d := by
  have kf : ∀ {v : V} {d : PyData}, Fine K H v d → FineL K H v d := fun f => nc_lineF f.1 f.nc (by decide) (by decide)
  cases g with
  | int => obtain ⟨d, f⟩ : ∃ d, Fine K H (.int 5) d := kkF (.int _) (by decide +kernel); exact ⟨d, kf f⟩
  | nil e => obtain ⟨d, f⟩ : ∃ d, Fine K H (.ref _) d := kkF (.tup (SqT.of e) .nil) (by decide +kernel); exact ⟨d, kf f⟩
  | two e => obtain ⟨d, f⟩ : ∃ d, Fine K H (.ref _) d := kkF (.tup (SqT.of e) (.cons .non (.cons (.int _) .nil))) (by decide +kernel); exact ⟨d, kf f⟩
theorem OdA.bare {H : Hp} {v : V} (g : OdA H v) : OdA (bareH H) v := by
  cases g with
  | non => exact .non
  | str => exact .str
  | one e => exact .one (bare_at e (fun _ z => by cases z))
  | two e h => exact .two (bare_at e (fun _ z => by cases z)) h.bare
  | lst e => exact .lst (bare_at e (fun _ z => by cases z))
theorem OdC.bare {H : Hp} {v : V} (g : OdC H v) : OdC (bareH H) v := by
  cases g with
  | old h => exact .old h.bare
  | end_ e h => exact .end_ (bare_at e (fun _ z => by cases z)) h.bare
  | fst e h => exact .fst (bare_at e (fun _ z => by cases z)) h.bare
  | five e => exact .five (bare_at e (fun _ z => by cases z))
theorem OdB.bare {H : Hp} {v : V} (g : OdB H v) : OdB (bareH H) v := by
  cases g with
  | int => exact .int
  | nil e => exact .nil (bare_at e (fun _ z => by cases z))
  | two e => exact .two (bare_at e (fun _ z => by cases z))
/-- what is said of a call that refuses a row, beside what is due -/
theorem why_rowne {S H : Hp} {σ : L2.St} {v : V} {d : PyData} {Tb : List (Addr × Str)} {te : XK → TE} {Q : VK} {i : Nat} (hi : σ[i]? = some (some v)) (nt : NoTab S) (s : L2.Same S H) (hT : LamX.Tabs Tb H) (f : FineL K S v d)
    (h : ∀ (H1 : Hp) (E : XK) (Q1 : VK), L2.Same S H1 → BadRw mg H1 v E → te E σ H1 Q1) (q : ∀ H2, LamX.ExtN H H2 → LamX.Tabs Tb H2 → Q (.bl false) H2) :
    tOp (rNeD K) (LamX.tLam Tb (TTwhy K mg) te) (tTup (tCons (tC (.str "row")) (tCons (tCB (rShow K) (tCons (tVar i) tNil)) tNil))) σ H Q := by
  refine op_in ⟨hT, fun H1 x T1 => ?_⟩
  have s1 := ext_same nt s x
  refine h H1 _ _ s1 fun dd H2 s2 _ e => ?_
  refine Or.inr ⟨rfl, dd, v, d, rfl, e, f.same (s1.trans s2), fun p H3 s3 e3 => ?_⟩
  have f3 := f.same ((s1.trans s2).trans s3)
  refine l_tup (va_cons val_c (va_cons (v_show (val_var hi) f3.1 f3.2.1 f3.2.2.1 f3.2.2.2.1) va_nil)) (by show 2 ≤ 100000; decide) fun b hb => ?_
  have sb := Same.new' (o := .tup [.str "row", .str d.shown]) hb
  exact ⟨_, _, dp2 (sb _ _ e3), dp2 upd_same, shaped2 (by decide +kernel) f.2.2.2.2, shaped2 (by decide +kernel) f.2.2.2.2, by rw [eqv2]; exact q _ (fun c o e n => sb _ _ (s3 _ _ (s2 _ _ (x c o e n)))) (T1.ext fun b' o z => sb _ _ (s3 _ _ (s2 _ _ z)))⟩
end
end LW

/-! zip of a list and a tuple, in either order -/
namespace GL
open PySem PySem.Spec PyProof.Rows L2
def SqB (K : PySem.W.Frag) : Bool → Hp → Addr → List V → Prop
  | true => SqT K
  | false => SqL K
def ItB : Bool → Heap → Addr → Addr → Nat → Prop
  | true, h, it, a, i => h.IsTupleIter it a i
  | false, h, it, a, i => h.IsListIter it a i
def HpB : Bool → Heap → Addr → Array Value → Prop
  | true, h, a, its => h.IsTuple a its
  | false, h, a, its => h.IsList a its
theorem ItB.at {h h' : Heap} {it a : Addr} {i : Nat} : ∀ {t : Bool}, ItB t h it a i → (∀ o, h.get? it = some o → h'.get? it = some o) → ItB t h' it a i
  | true, x, k => Heap.IsTupleIter.at x k
  | false, x, k => Heap.IsListIter.at x k
theorem ItB.obj {h : Heap} {it a : Addr} {i : Nat} : ∀ {t : Bool}, ItB t h it a i → ∃ o, h.get? it = some o ∧ ∀ v, o.data ≠ .cell v
  | true, ⟨o, e, _, d⟩ => ⟨o, e, fun v q => by rw [d] at q; cases q⟩
  | false, ⟨o, e, _, d⟩ => ⟨o, e, fun v q => by rw [d] at q; cases q⟩
theorem HpB.lt {h : Heap} {a : Addr} {its : Array Value} : ∀ {t : Bool}, HpB t h a its → a < h.objs.size
  | true, ⟨_, e, _⟩ => Heap.lt_size e
  | false, ⟨_, e, _⟩ => Heap.lt_size e
theorem drawsB {prog : Program} {w : World} {A : Around} (hh : A.handled = none) (it l : Addr) (hne : l ≠ it) (its : Array Value) : ∀ t : Bool, Draws prog w A it [it, l] its.size (fun i v => its[i]? = some v) (fun i h => ItB t h it l i ∧ HpB t h l its)
  | true => Draws.tuple hh it l hne its
  | false => Draws.list hh it l hne its
def itO (t : Bool) (l : Addr) : Obj := { cls := .type (if t = true then "tuple_iterator" else "list_iterator"), data := .fields #[.ref l, .int 0 0] }
theorem beginsB (l : Addr) (its : Array Value) : ∀ t : Bool, Begins (.ref l) (itO t l) fun h => HpB t h l its
  | true => begins_tuple l its
  | false => begins_list l its
theorem itB_0 {h : Heap} {it l : Addr} : ∀ {t : Bool}, h.get? it = some (itO t l) → ItB t h it l 0
  | true, e => ⟨_, e, rfl, rfl⟩
  | false, e => ⟨_, e, rfl, rfl⟩
section
variable {X : Cx} {pins : List (Addr × Obj)} {σ : L2.St} {H : Hp} {s : Shared}
theorem itemsB (I : Inv X pins σ H s) {a : Addr} {xs : List V} : ∀ {t : Bool}, SqB X.K t H a xs → ∃ its, Vals xs its ∧ HpB t s.heap a its.toArray
  | true, h => by
    obtain ⟨its, rv, p, _⟩ := I.tuple h
    exact ⟨its, rv, p⟩
  | false, h => by
    obtain ⟨its, rv, p, _⟩ := I.list h
    exact ⟨its, rv, p.isList⟩
theorem injB (I : Inv X pins σ H s) {a : Addr} {xs ys : List V} : ∀ {t : Bool}, SqB X.K t H a xs → SqB X.K t H a ys → xs = ys
  | true, h, k => I.tuple_inj h k
  | false, h, k => I.list_inj h k
end
/-- what a zip of the two yields -/
def ItzB (K : PySem.W.Frag) (t u : Bool) (a b : Addr) : It :=
  { go := fun i H => ∃ (xs ys : List V) (x y : V), SqB K t H a xs ∧ SqB K u H b ys ∧ xs[i]? = some x ∧ ys[i]? = some y
    yld := fun i H v H' => ∃ T x y, v = .ref T ∧ H T = none ∧ H' = upd H T (.tup [x, y]) ∧ (∀ xs, SqB K t H a xs → xs[i]? = some x) ∧ (∀ ys, SqB K u H b ys → ys[i]? = some y)
    stop := fun i H => ∃ (xs ys : List V), SqB K t H a xs ∧ SqB K u H b ys ∧ i ≤ xs.length ∧ i ≤ ys.length ∧ (i = xs.length ∨ i = ys.length) }
theorem sepB {z TI TO i1 i2 a b : Addr} (h : [z, TI, TO, i1, i2].Nodup) (ha : a ∉ [z, TI, TO, i1, i2]) (hb : b ∉ [z, TI, TO, i1, i2]) : ZipSep2 z TI TO i1 i2 [i1, a] [i2, b] := by
  simp only [List.nodup_cons, List.mem_cons, List.not_mem_nil, or_false, not_or, List.nodup_nil, and_true, not_false_eq_true] at h ha hb
  obtain ⟨⟨h1, h2, h3, h4⟩, ⟨h5, h6, h7⟩, ⟨h8, h9⟩, h10⟩ := h
  obtain ⟨a1, a2, a3, a4, a5⟩ := ha
  obtain ⟨b1, b2, b3, b4, b5⟩ := hb
  constructor <;> grind
theorem turnB {P : Program} {w : World} {K : PySem.W.Frag} {elts : List Expr} {kk : Nat} {tpos : Pos} {t u : Bool} {a b z TI TO i1 i2 : Addr} (nd : [z, TI, TO, i1, i2].Nodup) (na : a ∉ [z, TI, TO, i1, i2]) (nb : b ∉ [z, TI, TO, i1, i2]) :
    Turn P w K (.Tuple elts kk tpos) (ItzB K t u a b) [z, TI, TO, i1, i2] z (fun i h => IsZip h z TI TO .none ∧ IsTupOf2 h TI (.ref i1) (.ref i2) ∧ (∃ x y, IsTupOf2 h TO x y) ∧ ItB t h i1 a i ∧ ItB u h i2 b i) := by
  have S := sepB nd na nb
  have mem5 : ∀ {c : Addr}, c ∈ [z, TI, TO, i1, i2] ↔ c = z ∨ c = TI ∨ c = TO ∨ c = i1 ∨ c = i2 := by simp
  have ne1 : a ≠ i1 := fun e => na (mem5.mpr (.inr (.inr (.inr (.inl e)))))
  have ne2 : b ≠ i2 := fun e => nb (mem5.mpr (.inr (.inr (.inr (.inr e)))))
  refine { mem := mem5.mpr (.inl rfl), obj := fun i h st c hc => ?_, keep := fun i h h' st k => ?_, item := ?_, done := ?_, self := fun A i s Q E st h => wpAny_pyIter_zip st.1 h }
  · obtain ⟨hz, hI, ⟨x, y, hO⟩, h1, h2⟩ := st
    rcases mem5.mp hc with rfl | rfl | rfl | rfl | rfl
    · exact ⟨_, hz, fun v q => by cases q⟩
    · exact ⟨_, hI, fun v q => by cases q⟩
    · exact ⟨_, hO, fun v q => by cases q⟩
    · exact h1.obj
    · exact h2.obj
  · obtain ⟨hz, hI, ⟨x, y, hO⟩, h1, h2⟩ := st
    exact ⟨k _ (mem5.mpr (.inl rfl)) _ hz, k _ (mem5.mpr (.inr (.inl rfl))) _ hI, ⟨x, y, k _ (mem5.mpr (.inr (.inr (.inl rfl)))) _ hO⟩, h1.at fun o e => k _ (mem5.mpr (.inr (.inr (.inr (.inl rfl))))) o e, h2.at fun o e => k _ (mem5.mpr (.inr (.inr (.inr (.inr rfl))))) o e⟩
  · rintro X rfl rfl rfl hc i pins s σ H E I hf ⟨hz, hI, ⟨x0, y0, hO⟩, h1, h2⟩ ⟨xs, ys, x, y, qa, qb, ex, ey⟩
    obtain ⟨ia, ra, pa⟩ := itemsB I qa
    obtain ⟨ib, rb, pb⟩ := itemsB I qb
    have hd : X.A.in1.handled = none := I.ok.hd hc
    have la : i < ia.toArray.size := by
      have := (List.getElem?_eq_some_iff.mp ex).1
      rw [List.size_toArray, ← ra.length]
      exact this
    have lb : i < ib.toArray.size := by
      have := (List.getElem?_eq_some_iff.mp ey).1
      rw [List.size_toArray, ← rb.length]
      exact this
    refine wpAny_pyNext_zipD2_item S (drawsB hd i1 a ne1 ia.toArray t) (drawsB hd i2 b ne2 ib.toArray u) hz hI hO ⟨h1, pa⟩ ⟨h2, pb⟩ la lb fun v1 v2 h' tk e1 e2 hz' hO' st1 st2 hT hsz hk => ⟨_, rfl, ?_⟩
    obtain ⟨v1', g1, r1⟩ := ra.get ex
    obtain ⟨v2', g2, r2⟩ := rb.get ey
    obtain rfl : v1' = v1 := Option.some.inj (g1.symm.trans (by simpa using e1))
    obtain rfl : v2' = v2 := Option.some.inj (g2.symm.trans (by simpa using e2))
    have zl : z < s.heap.objs.size := Heap.lt_size hz
    have live : ∀ c ∈ [z, TI, TO, i1, i2], c < s.heap.objs.size := fun c hcm => by
      rcases mem5.mp hcm with rfl | rfl | rfl | rfl | rfl
      · exact zl
      · exact Heap.lt_size hI
      · exact Heap.lt_size hO
      · obtain ⟨o, e, _⟩ := h1.obj
        exact Heap.lt_size e
      · obtain ⟨o, e, _⟩ := h2.obj
        exact Heap.lt_size e
    refine wpAny_letOwnedTupleGo_zip (s := { s with heap := h', toks := tk }) hz' fun h2' hz2 sb => ?_
    have off : ∀ {c : Addr} {o : Obj}, c ≠ z → h'.get? c = some o → h2'.get? c = some o := fun n e => (sb.2 _ n).trans e
    have nT : s.heap.objs.size ≠ z := Nat.ne_of_gt zl
    have eT : h2'.get? s.heap.objs.size = some { cls := .type "tuple", data := .seq #[v1', v2'] } := off nT hT
    have fr : ObjOk X.prog X.w (upd H s.heap.objs.size (.tup [x, y])) h2' s.heap.objs.size (.tup [x, y]) := ⟨by show 2 ≤ sizeLine; decide, [v1', v2'], .cons r1 (.cons r2 .nil), _, eT, rfl, _, rfl⟩
    have J := I.turnedNew (t' := tk) (h' := h2') (ch := [z, TI, TO, i1, i2]) (fun c o nc e => by
      have n := fun q => nc (mem5.mpr q)
      exact off (fun q => n (.inl q)) (hk c o (fun q => n (.inl q)) (fun q => n (.inr (.inr (.inl q)))) (fun q => n (.inr (.inr (.inr (.inl q))))) (fun q => n (.inr (.inr (.inr (.inr q))))) e)) hf (Nat.le_refl _) fr
    refine ⟨.ref s.heap.objs.size, _, J, rfl, ⟨_, x, y, rfl, I.hok.fresh (Nat.le_refl _), rfl, fun l hl => ?_, fun l hl => ?_⟩, ⟨hz2, ?_, ⟨v1', v2', off S.TOz hO'⟩, ?_, ?_⟩, fun c hcm => ?_⟩
    · rw [injB I hl qa]; exact ex
    · rw [injB I hl qb]; exact ey
    · exact off S.TIz (hk _ _ S.TIz S.TITO S.TIi1 S.TIi2 hI)
    · exact st1.1.at fun o e => off (fun q => S.zi1 q.symm) e
    · exact st2.1.at fun o e => off (fun q => S.zi2 q.symm) e
    · rw [upd_ne (Nat.ne_of_lt (live c hcm))]
      exact (hf c hcm).1
  · rintro X rfl rfl rfl hc i pins s σ H E I hf ⟨hz, hI, ⟨x0, y0, hO⟩, h1, h2⟩ ⟨xs, ys, qa, qb, ha, hb, hend⟩
    obtain ⟨ia, ra, pa⟩ := itemsB I qa
    obtain ⟨ib, rb, pb⟩ := itemsB I qb
    have hd : X.A.in1.handled = none := I.ok.hd hc
    have na : ia.toArray.size = xs.length := by rw [List.size_toArray, ra.length]
    have nb : ib.toArray.size = ys.length := by rw [List.size_toArray, rb.length]
    refine wpAny_pyNext_zipD2_end S (drawsB hd i1 a ne1 ia.toArray t) (drawsB hd i2 b ne2 ib.toArray u) hz hI hO ⟨h1, pa⟩ ⟨h2, pb⟩ (by omega) (by omega) (by omega) fun h' tk hk => ⟨rfl, ?_⟩
    exact I.turnedL (t' := tk) (ch := [z, TI, TO, i1, i2]) (fun c o nc e => by
      have n := fun q => nc (mem5.mpr q)
      exact hk c o (fun q => n (.inl q)) (fun q => n (.inr (.inr (.inl q)))) (fun q => n (.inr (.inr (.inr (.inl q))))) (fun q => n (.inr (.inr (.inr (.inr q))))) e) hf
/-- zip(x, y) of a list or a tuple each -/
def iZipB (K : PySem.W.Frag) (t u : Bool) (ta : TA) : TI := fun σ H R => ta σ H fun vs H1 => ∃ a b xs ys, vs = [.ref a, .ref b] ∧ SqB K t H1 a xs ∧ SqB K u H1 b ys ∧ R (ItzB K t u a b) H1
theorem pi_zipB {X : Cx} (t u : Bool) {e e2 : Expr} {ta : TA} {p pos tpos : Pos} {elts : List Expr} {kk : Nat} (hg : Gl X "zip") (hm : X.mg "zip" = none) (ha : PA X [e, e2] ta)
    (hs : starEach [e, e2] X.env = (false, eval e X.env) :: starEach [e2] X.env := by rfl) (hpl : (backTo pos (starEach [e2] X.env)).any (·.1) = false := by rfl) :
    PI X (.Tuple elts kk tpos) (.Call (.Name "zip" p) [e, e2] [] pos) (iZipB X.K t u ta) := by
  refine ⟨fun pins s σ H R I h => Call_ (ld_blt I hg hm PyProof.Rows.boot_zip (PyProof.Rows.callWith_type1 (thn (ha.run pos pins s σ H _ I h) fun us s1 q1 => ?_) hs hpl))⟩
  obtain ⟨_, H1, I1, r1, a, b, xs, ys, rfl, qa, qb, q⟩ := q1
  obtain ⟨_, _, rfl, r, r2⟩ : ∃ x y, us = [x, y] ∧ RelV (.ref a) x ∧ RelV (.ref b) y := by
    cases r1 with
    | cons r rr => cases rr with
      | cons r' rr => cases rr; exact ⟨_, _, rfl, r, r'⟩
  cases r
  cases r2
  obtain ⟨ia, ra, pa⟩ := itemsB I1 qa
  obtain ⟨ib, rb, pb⟩ := itemsB I1 qb
  refine zip_begins2 (beginsB a ia.toArray t) (beginsB b ib.toArray u) pa pb fun h' hz hI hO g1 g2 hsz hk => wpAny_pyIter_zip hz ?_
  have I2 : Inv X pins σ H1 { s1 with heap := h' } := I1.kept (t' := s1.toks) hk
  have new : ∀ c ∈ [s1.heap.objs.size + 4, s1.heap.objs.size + 2, s1.heap.objs.size + 3, s1.heap.objs.size, s1.heap.objs.size + 1], s1.heap.objs.size ≤ c := fun c hc => by
    simp only [List.mem_cons, List.not_mem_nil, or_false] at hc
    omega
  have nd : [s1.heap.objs.size + 4, s1.heap.objs.size + 2, s1.heap.objs.size + 3, s1.heap.objs.size, s1.heap.objs.size + 1].Nodup := by
    simp only [List.nodup_cons, List.mem_cons, List.not_mem_nil, or_false, not_or, List.nodup_nil, and_true, not_false_eq_true]
    omega
  refine ⟨_, _, _, _, H1, rfl, I2, turnB nd (fun c => ?_) (fun c => ?_), ⟨hz, hI, ⟨_, _, hO⟩, itB_0 g1, itB_0 g2⟩, fun c hc => I1.fpOk (new c hc) (I1.hok.fresh (new c hc)), q⟩
  · exact Nat.not_lt.mpr (new _ c) pa.lt
  · exact Nat.not_lt.mpr (new _ c) pb.lt
/-- a comprehension over it -/
theorem lc_zipB {K : PySem.W.Frag} {t u : Bool} {a b : Addr} {xs ys : List V} {g : TG} {tt : TT} {te : TE} {vs : List Nat} {σ : L2.St} {H1 : Hp} {D : Addr} {Qd : Hp → Prop} (hl : xs.length = ys.length) (Pv : Nat → Hp → Prop) (h0 : Pv 0 (upd H1 D (.lst []))) (hq : ∀ i H, Pv i H → SqB K t H a xs ∧ SqB K u H b ys)
    (hs : ∀ (i : Nat) (x y : V) (T : Addr) (H : Hp), xs[i]? = some x → ys[i]? = some y → Pv i H → H T = none → g (.ref T) (wipe σ vs) (upd H T (.tup [x, y])) fun σ2 H2 => wipe σ2 vs = wipe σ vs ∧ tt σ2 H2 fun b H3 => if b = true then te σ2 H3 fun y H4 => ∃ acc, H4 D = some (.lst acc) ∧ acc.length < sizeLine ∧ Pv (i + 1) (upd H4 D (.lst (acc ++ [y]))) else Pv (i + 1) H3) (hd : ∀ H, Pv xs.length H → Qd H) :
    ∃ W : Nat → Nat → Hp → Prop, (∃ m, W 0 m (upd H1 D (.lst []))) ∧ ∀ i m H, W i m H →
      ((ItzB K t u a b).stop i H ∧ Qd H) ∨ ((ItzB K t u a b).go i H ∧ ∃ N : Hp → Prop, (∀ H', N H' → ∃ m', m' < m ∧ W (i + 1) m' H') ∧ ∀ v H', (ItzB K t u a b).yld i H v H' → g v (wipe σ vs) H' fun σ2 H2 => wipe σ2 vs = wipe σ vs ∧ tt σ2 H2 fun b H3 =>
        if b = true then te σ2 H3 fun y H4 => ∃ acc, H4 D = some (.lst acc) ∧ acc.length < sizeLine ∧ N (upd H4 D (.lst (acc ++ [y]))) else N H3) := by
  refine ⟨fun i m H => m = xs.length - i ∧ i ≤ xs.length ∧ Pv i H, ⟨_, rfl, Nat.zero_le _, h0⟩, ?_⟩
  rintro i m H ⟨rfl, hi, p⟩
  obtain ⟨qa, qb⟩ := hq i H p
  rcases Nat.lt_or_ge i xs.length with lt | ge
  · have e1 : xs[i]? = some xs[i] := List.getElem?_eq_getElem lt
    have e2 : ys[i]? = some (ys[i]'(by omega)) := List.getElem?_eq_getElem (by omega)
    refine .inr ⟨⟨xs, ys, _, _, qa, qb, e1, e2⟩, Pv (i + 1), fun H' p' => ⟨xs.length - (i + 1), by omega, rfl, lt, p'⟩, ?_⟩
    rintro v H' ⟨T, x', y', rfl, hT, rfl, f1, f2⟩
    exact hs i x' y' T H (f1 xs qa) (f2 ys qb) p hT
  · obtain rfl : i = xs.length := by omega
    exact .inl ⟨⟨xs, ys, qa, qb, Nat.le_refl _, by omega, .inl rfl⟩, hd H p⟩
end GL

namespace LW
open PySem PySem.Spec PyProof.Rows L2 GL
section
variable {P : Program} {w : World} {K : PySem.W.Frag} {mg : Str → Option Value} {base : Heap}
/-! ### sizes -/
theorem bdn {q : Rat} {M : Nat} (h : Bd L9 M q) : Bd q.den M q := ⟨Nat.dvd_refl _, h.2⟩
theorem mul4 {a b c d : Nat} (ha : a ≤ 2 ^ 10) (hb : b ≤ 2 ^ 10) (hc : c ≤ 2 ^ 10) (hd : d ≤ 2 ^ 10) : a * b * (c * d) ≤ 2 ^ 40 := Nat.le_trans (Nat.mul_le_mul (Nat.mul_le_mul ha hb) (Nat.mul_le_mul hc hd)) (by decide)
theorem mul2 {a b : Nat} (ha : a ≤ 2 ^ 10) (hb : b ≤ 2 ^ 10) : a * b ≤ 2 ^ 20 := Nat.le_trans (Nat.mul_le_mul ha hb) (by decide)
def MA : Nat := 300 * (4 * (3 * 3) ^ 5)
theorem mv_sz {Δ : Nat} (p : 0 < Δ) (h : Δ ≤ 2 ^ 60) : Δ < 2 ^ 1000 ∧ 300 * (4 * L9 * (3 * (3 * Δ)) ^ (5 + 1)) < 2 ^ 1000 ∧ Fz (L9 * Δ ^ 5) MA := by
  refine ⟨Nat.lt_of_le_of_lt h (by decide +kernel), ?_, ?_⟩
  · have h1 : 3 * (3 * Δ) ≤ 3 * (3 * 2 ^ 60) := Nat.mul_le_mul_left _ (Nat.mul_le_mul_left _ h)
    exact Nat.lt_of_le_of_lt (Nat.mul_le_mul_left _ (Nat.mul_le_mul_left _ (Nat.pow_le_pow_left h1 6))) (by decide +kernel)
  · exact Fz.dn (D := L9 * (2 ^ 60) ^ 5) (M := MA) ⟨by decide +kernel, by decide +kernel, by decide +kernel⟩ (Nat.mul_pos (by decide) (Nat.pow_pos p)) (Nat.mul_le_mul_left _ (Nat.pow_le_pow_left h 5)) (Nat.le_refl _)
theorem po_sz {Δ : Nat} (h : Δ ≤ 2 ^ 40) : MA * (L9 * Δ ^ 5) < 2 ^ 400 ∧ L9 * Δ ^ 5 < 2 ^ 400 := by
  have h1 : L9 * Δ ^ 5 ≤ L9 * (2 ^ 40) ^ 5 := Nat.mul_le_mul_left _ (Nat.pow_le_pow_left h 5)
  exact ⟨Nat.lt_of_le_of_lt (Nat.mul_le_mul_left _ h1) (by decide +kernel), Nat.lt_of_le_of_lt h1 (by decide +kernel)⟩
theorem pow10 {a : Nat} {k : Nat} (h : a ≤ 2 ^ k) : a ^ (2 * 5) ≤ 2 ^ (k * 10) := by
  rw [Nat.pow_mul 2 k 10]
  exact Nat.pow_le_pow_left h 10
/-- made.at(start + t * step) -/
theorem bat_there {Dp : Nat} (p : 0 < Dp) (h : Dp ≤ 2 ^ 50) : BAt2 L9 4 5 27 140 Dp 12 := by
  have h10 := pow10 h
  have h1 : L9 * Dp ^ (2 * 5) ≤ L9 * 2 ^ (50 * 10) := Nat.mul_le_mul_left _ h10
  exact ⟨⟨by decide, by decide +kernel, by decide +kernel⟩, by decide +kernel, by decide +kernel, by decide, by decide, by decide, p, by decide, Nat.lt_of_le_of_lt (Nat.mul_le_mul_left 12 h) (by decide), Nat.lt_of_le_of_lt (Nat.mul_le_mul_left _ h1) (by decide +kernel), Nat.lt_of_le_of_lt h1 (by decide +kernel)⟩
/-- moved.at(place) -/
theorem bat_moved {Δ Dp : Nat} (q : 0 < Δ) (g : Δ ≤ 2 ^ 60) (p : 0 < Dp) (h : Dp ≤ 2 ^ 20) : BAt2 (L9 * Δ ^ 5) MA 5 11 470 Dp 3 := by
  have h10 := pow10 h
  have d1 : L9 * Δ ^ 5 ≤ L9 * (2 ^ 60) ^ 5 := Nat.mul_le_mul_left _ (Nat.pow_le_pow_left g 5)
  have h1 : L9 * Δ ^ 5 * Dp ^ (2 * 5) ≤ L9 * (2 ^ 60) ^ 5 * 2 ^ (20 * 10) := Nat.mul_le_mul d1 h10
  exact ⟨(mv_sz q g).2.2, Nat.lt_of_le_of_lt (Nat.mul_le_mul_left _ d1) (by decide +kernel), Nat.lt_of_le_of_lt d1 (by decide +kernel), by decide, by decide, by decide, p, by decide, Nat.lt_of_le_of_lt (Nat.mul_le_mul_left 3 h) (by decide), Nat.lt_of_le_of_lt (Nat.mul_le_mul_left _ h1) (by decide +kernel), Nat.lt_of_le_of_lt h1 (by decide +kernel)⟩
/-- made.at(the place moved) -/
theorem bat_flow {Dp : Nat} (p : 0 < Dp) (h : Dp ≤ 2 ^ 80) : BAt2 L9 4 5 43 140 Dp 21 := by
  have h10 := pow10 h
  have h1 : L9 * Dp ^ (2 * 5) ≤ L9 * 2 ^ (80 * 10) := Nat.mul_le_mul_left _ h10
  exact ⟨⟨by decide, by decide +kernel, by decide +kernel⟩, by decide +kernel, by decide +kernel, by decide, by decide, by decide, p, by decide, Nat.lt_of_le_of_lt (Nat.mul_le_mul_left 21 h) (by decide), Nat.lt_of_le_of_lt (Nat.mul_le_mul_left _ h1) (by decide +kernel), Nat.lt_of_le_of_lt h1 (by decide +kernel)⟩
theorem put_sz {Δ : Nat} (p : 0 < Δ) (h : Δ ≤ 2 ^ 60) : Fz (Δ ^ 5 * L9) (36 * (36 * (25 * 3) ^ 5 * 4)) := Fz.dn (D := (2 ^ 60) ^ 5 * L9) (M := 36 * (36 * (25 * 3) ^ 5 * 4)) ⟨by decide +kernel, by decide +kernel, by decide +kernel⟩ (Nat.mul_pos (Nat.pow_pos p) (by decide)) (Nat.mul_le_mul_right _ (Nat.pow_le_pow_left h 5)) (Nat.le_refl _)
theorem there_bd {X SX Y SY t : Rat} (b1 : Bd L9 3 X) (b2 : Bd L9 3 SX) (b5 : Bd L9 3 t) : Bd (X.den * SX.den * (Y.den * SY.den) * t.den) 12 (X + t * SX) :=
  ((bdn b1).mono (E := X.den * SX.den * (Y.den * SY.den) * t.den) (N := 3) ⟨SX.den * (Y.den * SY.den) * t.den, by ac_rfl⟩ (Nat.le_refl _)).add (((bdn b5).mul (bdn b2)).mono (N := 9) ⟨X.den * (Y.den * SY.den), by ac_rfl⟩ (by decide))
theorem there_bd2 {X SX Y SY t : Rat} (b1 : Bd L9 3 Y) (b2 : Bd L9 3 SY) (b5 : Bd L9 3 t) : Bd (X.den * SX.den * (Y.den * SY.den) * t.den) 12 (Y + t * SY) :=
  ((bdn b1).mono (E := X.den * SX.den * (Y.den * SY.den) * t.den) (N := 3) ⟨SY.den * (X.den * SX.den) * t.den, by ac_rfl⟩ (Nat.le_refl _)).add (((bdn b5).mul (bdn b2)).mono (N := 9) ⟨Y.den * (X.den * SX.den), by ac_rfl⟩ (by decide))
theorem flow_bd {a b s X Y : Rat} {E : Nat} (ha : Bd L9 3 a) (hb : Bd L9 3 b) (hs : Bd L9 3 s) (hx : Bd L9 3 X) (hy : Bd L9 3 Y) (da : a.den ∣ E) (db : b.den ∣ E) (ds : s.den ∣ E) : Bd (E * (X.den * Y.den)) 21 (a * X + b * Y + s) := by
  have h1 := ((bdn ha).mul (bdn hx)).mono (E := E * (X.den * Y.den)) (N := 9) (by
    obtain ⟨k, hk⟩ := da
    exact ⟨k * Y.den, by rw [hk]; ac_rfl⟩) (by decide)
  have h2 := ((bdn hb).mul (bdn hy)).mono (E := E * (X.den * Y.den)) (N := 9) (by
    obtain ⟨k, hk⟩ := db
    exact ⟨k * X.den, by rw [hk]; ac_rfl⟩) (by decide)
  have h3 := (bdn hs).mono (E := E * (X.den * Y.den)) (N := 3) (Nat.dvd_trans ds (Nat.dvd_mul_right _ _)) (Nat.le_refl _)
  exact (h1.add h2).add h3
/-- all that a lap has made -/
structure Sl (mg : Str → Option Value) (Tb : List (Addr × Str)) (p c d A : Addr) (L : List En) (R : List (List Rat)) (m : Nat) (H : Hp) : Prop where
  pen : PenAt H p c m
  tab : LamX.Tabs Tb H
  dw : DW H d L
  pa : PnAt (pnA mg) H A R
section
variable {Tb : List (Addr × Str)} {p c d A : Addr} {L : List En} {R : List (List Rat)} {m m' : Nat} {H H' : Hp}
theorem Sl.same (h : Sl mg Tb p c d A L R m H) (s : L2.Same H H') : Sl mg Tb p c d A L R m H' := ⟨h.pen.same s, Tabs.same h.tab s, h.dw.same s, h.pa.same s⟩
theorem Sl.but (h : Sl mg Tb p c d A L R m H) (b : But p H H') (P : PenAt H' p c m') : Sl mg Tb p c d A L R m' H' := ⟨P, Tabs.but h.tab h.pen b, h.dw.but h.pen b, h.pa.but h.pen b⟩
theorem Sl.le (h : Sl mg Tb p c d A L R m H) (l : m ≤ m') : Sl mg Tb p c d A L R m' H := ⟨h.pen.le l, h.tab, h.dw, h.pa⟩
end
theorem PlL.but {H H' : Hp} {v : V} {q : Rat × Rat} {p c : Addr} {m : Nat} (h : PlL H v q) (P : PenAt H p c m) (b : But p H H') : PlL H' v q := by
  obtain ⟨a, x, y, e, ea, lx, ly⟩ := h
  obtain ⟨ks, hd⟩ := P.dk
  exact ⟨a, x, y, e, b _ _ ea (ne_of ea hd (by intro z; cases z)), b.lo P lx, b.lo P ly⟩
theorem PlL.sameL {H H' : Hp} {v : V} {q : Rat × Rat} (h : PlL H v q) (s : L2.Same H H') : PlL H' v q := by
  obtain ⟨a, x, y, e, ea, lx, ly⟩ := h
  exact ⟨a, x, y, e, s _ _ ea, lx.same s, ly.same s⟩
theorem SqBut {H H' : Hp} {p c a : Addr} {m : Nat} {xs : List V} (h : Sq H a xs) (P : PenAt H p c m) (b : But p H H') : Sq H' a xs := by
  obtain ⟨ks, hd⟩ := P.dk
  rcases h with e | e
  · exact .inl (b _ _ e (ne_of e hd (by intro z; cases z)))
  · exact .inr (b _ _ e (ne_of e hd (by intro z; cases z)))
theorem PlR.but {H H' : Hp} {v : V} {q : Rat × Rat} {p c : Addr} {m : Nat} (h : PlR H v q) (P : PenAt H p c m) (b : But p H H') : PlR H' v q := by
  obtain ⟨a, x, y, e, ea, lx, ly⟩ := h
  exact ⟨a, x, y, e, SqBut ea P b, lx.but P b, ly.but P b⟩
theorem pl_two {H : Hp} {a : Addr} {ys : List V} {x y : Rat} (e : Sq H a ys) (al : All2 (Rq H) ys [x, y]) : PlR H (.ref a) (x, y) := by
  obtain ⟨y1, y2, rfl, r1, r2⟩ := all2 al
  exact ⟨a, y1, y2, rfl, e, r1, r2⟩
theorem two_fin {x y : Rat} (h1 : Sm 10 x) (h2 : Sm 10 y) : ∀ q ∈ [x, y], Fin q := fun q hq => by
  simp only [List.mem_cons, List.not_mem_nil, or_false] at hq
  rcases hq with rfl | rfl
  · exact h1.fin10
  · exact h2.fin10
theorem l_lcZ {t u : Bool} {a b : Addr} {xs ys : List V} {ta : TA} {g : TG} {tt : TT} {te : TE} {vs : List Nat} {σ : L2.St} {H : Hp} {Q : VK} (h : VA ta σ H [.ref a, .ref b]) (hx : SqB K t H a xs) (hy : SqB K u H b ys) (hl : xs.length = ys.length) (Pv : Addr → Nat → Hp → Prop) (h0 : ∀ D, H D = none → Pv D 0 (upd H D (.lst []))) (hq : ∀ D i H1, Pv D i H1 → SqB K t H1 a xs ∧ SqB K u H1 b ys)
    (hs : ∀ (D : Addr) (i : Nat) (x y : V) (T : Addr) (H : Hp), xs[i]? = some x → ys[i]? = some y → Pv D i H → H T = none → g (.ref T) (wipe σ vs) (upd H T (.tup [x, y])) fun σ2 H2 => wipe σ2 vs = wipe σ vs ∧ tt σ2 H2 fun b H3 => if b = true then te σ2 H3 fun y H4 => ∃ acc, H4 D = some (.lst acc) ∧ acc.length < sizeLine ∧ Pv D (i + 1) (upd H4 D (.lst (acc ++ [y]))) else Pv D (i + 1) H3)
    (hd : ∀ D H1, Pv D xs.length H1 → Q (.ref D) H1) : tLc (iZipB K t u ta) g tt te vs σ H Q :=
  h _ ⟨a, b, xs, ys, rfl, hx, hy, fun D hD => lc_zipB hl (Pv D) (h0 D hD) (hq D) (hs D) (hd D)⟩
theorem PoAt.but {C : Addr} {H H' : Hp} {a p c : Addr} {m : Nat} {xs : List Rat} (h : PoAt C H a xs) (P : PenAt H p c m) (b : But p H H') : PoAt C H' a xs := by
  obtain ⟨dx, t, e, ⟨vs, et, al⟩, z⟩ := h
  obtain ⟨ks, hd⟩ := P.dk
  exact ⟨dx, t, b _ _ e (ne_of e hd (by intro z; cases z)), ⟨vs, b _ _ et (ne_of et hd (by intro z; cases z)), al.imp fun _ _ ⟨q, e, lo⟩ => ⟨q, e, b.lo P lo⟩⟩, z⟩
theorem tup_but {H H' : Hp} {p c t : Addr} {m : Nat} {zs : List V} (P : PenAt H p c m) (b : But p H H') (e : H t = some (.tup zs)) : H' t = some (.tup zs) := by
  obtain ⟨ks, hd⟩ := P.dk
  exact b _ _ e (ne_of e hd (by intro z; cases z))
theorem yes_in {σ : L2.St} {H : Hp} {A B : Hp → Prop} (h : A H) : tYes σ H fun b H3 => if b = true then A H3 else B H3 := (show (if true = true then A H else B H) from iteT h)
theorem Ln.but {H H' : Hp} {q p c : Addr} {m : Nat} {F : List En} {a b s : Rat} {D M : Nat} (h : Ln H q F a b s D M) (P : PenAt H p c m) (bb : But p H H') : Ln H' q F a b s D M := ⟨h.dw.but P bb, h.dg, h.bd, h.ev⟩
theorem lst_but {H H' : Hp} {p c t : Addr} {m : Nat} {zs : List V} (P : PenAt H p c m) (b : But p H H') (e : H t = some (.lst zs)) : H' t = some (.lst zs) := by
  obtain ⟨ks, hd⟩ := P.dk
  exact b _ _ e (ne_of e hd (by intro z; cases z))
theorem ev_sameN {L : List En} {R : List (List Rat)} {D M g : Nat} (c : ∀ i j, cf2 R i j = cf L i j) (n : Nice D M g R) (cn : Can R) (dg : ∀ e ∈ L, e.1.1 + e.1.2 ≤ g) (x y : Rat) : evL L x y = evP R x y := by
  rw [evL_box (N := g) (fun e he => by have := dg e he; omega), evP_box (N := g) (k := g + 1) ⟨n.lenR cn, fun r hr => n.lenM cn hr⟩ (Nat.le_refl _)]
  exact congrFun (congrFun (congrArg (ev2 g) (funext fun i => funext fun j => (c i j).symm)) x) y
theorem four_all {S : Rat → Prop} {a b c d : Rat} (h1 : S a) (h2 : S b) (h3 : S c) (h4 : S d) : ∀ q ∈ [a, b, c, d], S q := fun q hq => by
  simp only [List.mem_cons, List.not_mem_nil, or_false] at hq
  rcases hq with rfl | rfl | rfl | rfl <;> assumption
theorem six_all {S : Rat → Prop} {a b c d e f : Rat} (h1 : S a) (h2 : S b) (h3 : S c) (h4 : S d) (h5 : S e) (h6 : S f) : ∀ q ∈ [a, b, c, d, e, f], S q := fun q hq => by
  simp only [List.mem_cons, List.not_mem_nil, or_false] at hq
  rcases hq with rfl | rfl | rfl | rfl | rfl | rfl <;> assumption
theorem eight_all {S : Rat → Prop} {a b c d e f g h : Rat} (h1 : S a) (h2 : S b) (h3 : S c) (h4 : S d) (h5 : S e) (h6 : S f) (h7 : S g) (h8 : S h) : ∀ q ∈ [a, b, c, d, e, f, g, h], S q := fun q hq => by
  simp only [List.mem_cons, List.not_mem_nil, or_false] at hq
  rcases hq with rfl | rfl | rfl | rfl | rfl | rfl | rfl | rfl <;> assumption
theorem call_any4 {te : TE} {x y z : V} {σ : L2.St} {H : Hp} {Q : VK} (h : te σ H fun v H1 => 4 ≤ sizeLine ∧ ∀ q, H1 q = none → Q (.ref q) (upd H1 q (.lst [v, x, y, z]))) : tLst (tCons te (tCons (tC x) (tCons (tC y) (tCons (tC z) tNil)))) σ H Q := h
def spLaw (Tb : List (Addr × Str)) : Sp := fun vs H Q _ => ∃ (a : Addr) (ns : List Int), vs = [.ref a] ∧ SqL K H a (ns.map V.int) ∧ ns.length ≤ 63 ∧ LamX.Tabs Tb H ∧ ∀ H', Q (.bl true) H'
theorem ok_law (T : Txt K mg) (TP : PlaneT K mg) (TO : PolyT K mg) {cC cP : Addr} {Tb : List (Addr × Str)} (TB : LamX.TabB base mg cC cP) (hcC : (fDat K (fA mg "law")).code = .ref cC) (hTm : (cP, (("law" : Str) ++ (".<locals>." : Str)) ++ ("<lambda>" : Str)) ∈ Tb) (hTo : ∀ p ∈ Tb, p.1 = cP → p.2 = (("law" : Str) ++ (".<locals>." : Str)) ++ ("<lambda>" : Str)) :
    OkG P w K mg base CX0 20 (fA mg "law") (fDat K (fA mg "law")) ["_law_script"] (spLaw (K := K) Tb) := by
  have G_law_pen := ok_pen (P := P) (w := w) (base := base) T._law_pen.F T
  have G_law_draw := ok_draw (P := P) (w := w) (base := base) T._law_draw.F T
  have G_law_pick := ok_pick (P := P) (w := w) (base := base) T
  have G_law_any := ok_any (P := P) (w := w) (base := base) T
  have G_law_v_drawn := ok_law_v_drawn (P := P) (w := w) (base := base) T
  have G_law_made_plane := ok_law_made_plane (P := P) (w := w) (base := base) T TP
  have G_law_place := ok_law_place (P := P) (w := w) (base := base) T
  have GPlane_along := ok_Plane_along (P := P) (w := w) (base := base) T TP TO
  have GPlane_moved := ok_Plane_moved (P := P) (w := w) (base := base) T TP
  have GPlane_movedE := ok_Plane_movedE (P := P) (w := w) (base := base) T TP
  have GPlane_at2 := ok_Plane_at2 (P := P) (w := w) (base := base) T TP
  have GPoly_at := ok_Poly_at (P := P) (w := w) (base := base) T TO
  have G_law_shown := ok_law_shown (P := P) (w := w) (base := base) T
  have G_law_v_along := ok_law_v_along (P := P) (w := w) (base := base) T
  have G_law_ratio := ok_law_ratio (P := P) (w := w) (base := base) T
  have G_law_plus := ok_law_plus (P := P) (w := w) (base := base) T
  have G_law_times := ok_law_times (P := P) (w := w) (base := base) T
  have G_law_matrix := ok_law_matrix (P := P) (w := w) (base := base) T
  have G_law_v_plain := ok_law_v_plain (P := P) (w := w) (base := base) T
  have G_law_v_of := ok_law_v_of (P := P) (w := w) (base := base) T TP
  have G_law_v_put := ok_law_v_put (P := P) (w := w) (base := base) T
  have G_law_flow_at := ok_law_flow_at (P := P) (w := w) (base := base) T
  obtain ⟨oc, od, kw0, doc, pm, an, cdw, ct, osl, efd, lk, hcg⟩ := T._law_why.F.ex
  have lk' := efd ▸ lk
  have b' := efd ▸ T._law_why.b
  refine okGc T.law.F hcC sclaw (fun vs H Q E h => ?_) (fun A outer s H vs Q E hr hq h => ?_)
  · obtain ⟨a, ns, rfl, _⟩ := h
    rfl
  obtain ⟨a, ns, rfl, hS, hn, hT, k⟩ := h
  refine ⟨_, (pss_cons (ps_set (i := 1) sclaw.nd rfl (Or.inl rfl) (pe_c T._law_pen G_law_pen (hr.mono (by decide)) (pa_cons (pv 0) pa_nil)))
  (pss_cons (ps_for PassesOwn.never rfl (pi_range1 (by rfl) T.range (pa_cons pe_int pa_nil)) (pg_name (i := 2) sclaw.nd rfl (Or.inl rfl))
  (pss_cons (ps_set (i := 3) sclaw.nd rfl (Or.inl rfl) (pe_c T._law_v_drawn G_law_v_drawn (hr.mono (by decide)) (pa_cons (pv 1) (pa_cons (pe_c T._law_pick G_law_pick (hr.mono (by decide)) (pa_cons (pv 1) (pa_cons (pe_lst (pa_cons pe_int (pa_cons pe_int (pa_cons pe_int pa_nil)))) pa_nil))) (pa_cons pe_int pa_nil)))))
  (pss_cons (ps_set (i := 4) sclaw.nd rfl (Or.inr rfl) (pe_c T._law_made_plane G_law_made_plane (hr.mono (by decide)) (pa_cons (pv 1) (pa_cons (pv 3) pa_nil))))
  (pss_cons (ps_par (i := 5) (j := 6) (by rfl) sclaw.nd rfl rfl (by decide) rfl rfl (pa_cons (pe_c T._law_place G_law_place (hr.mono (by decide)) (pa_cons (pv 1) (pa_cons pe_int pa_nil))) (pa_cons (pe_c T._law_pick G_law_pick (hr.mono (by decide)) (pa_cons (pv 1) (pa_cons (pe_lst (pa_cons (pe_c T._law_place G_law_place (hr.mono (by decide)) (pa_cons (pv 1) (pa_cons pe_int pa_nil))) (pa_cons (pe_tup (pa_cons (pe_tup (pa_cons pe_int (pa_cons pe_int pa_nil))) (pa_cons (pe_tup (pa_cons pe_int (pa_cons pe_int pa_nil))) pa_nil))) (pa_cons (pe_tup (pa_cons (pe_tup (pa_cons pe_int (pa_cons pe_int pa_nil))) (pa_cons (pe_tup (pa_cons pe_int (pa_cons pe_int pa_nil))) pa_nil))) pa_nil)))) pa_nil))) pa_nil)) (by rfl))
  (pss_cons (ps_set (i := 7) sclaw.nd rfl (Or.inl rfl) (pe_meth (pv 4) TP.cls TP.m_along.meth GPlane_along (hr.mono (by decide)) TP.m_along.b .nil passL (pa_cons (pe_c T._law_shown G_law_shown (hr.mono (by decide)) (pa_cons (pv 1) (pa_cons (pv 5) pa_nil))) (pa_cons (pe_c T._law_shown G_law_shown (hr.mono (by decide)) (pa_cons (pv 1) (pa_cons (pv 6) pa_nil))) pa_nil))))
  (pss_cons (ps_if (PW.pt (pw_or (pt_not (pt_val (pe_callB call_isi (by rfl) T.isinstance (by decide +kernel) (pa_cons (pv 7) (pa_cons (pe_cls TO.g) pa_nil))))) (pw_or1 (pt_cmpR op_ne (pe_callB (id := "repr") (show CallR _ _ (rShow K) from call_show hq (hu64 hr)) (by rfl) T.repr (by decide +kernel) (pa_cons (pe_fld (pv 7) (by rfl)) pa_nil)) (pe_callB (id := "repr") (show CallR _ _ (rShow K) from call_show hq (hu64 hr)) (by rfl) T.repr (by decide +kernel) (pa_cons (pe_callTy (show CallR _ (.type "tuple") (fun xs H Q => ∃ p ys, xs = [V.ref p] ∧ ((SqL K H p ys ∧ ∀ l, H l = none → Q (V.ref l) (upd H l (.tup ys))) ∨ (SqT K H p ys ∧ Q (V.ref p) H))) from call_tuple_of) (by rfl) T.tuple (by decide +kernel) (pa_cons (pe_c T._law_v_along G_law_v_along (hr.mono (by decide)) (pa_cons (pv 3) (pa_cons (pv 5) (pa_cons (pv 6) pa_nil)))) pa_nil)) pa_nil)) (nomark _))))) (pss_one (ps_ret pe_bl)) pss_nil)
  (pss_cons (ps_set (i := 8) sclaw.nd rfl (Or.inr rfl) (pe_c T._law_ratio G_law_ratio (hr.mono (by decide)) (pa_cons (pv 1) (pa_cons pe_int pa_nil))))
  (pss_cons (ps_set (i := 9) sclaw.nd rfl (Or.inl rfl) (pe_callTy (show CallR _ (.type "tuple") (fun xs H Q => ∃ p ys, xs = [V.ref p] ∧ ((SqL K H p ys ∧ ∀ l, H l = none → Q (V.ref l) (upd H l (.tup ys))) ∨ (SqT K H p ys ∧ Q (V.ref p) H))) from call_tuple_of) (by rfl) T.tuple (by decide +kernel) (pa_cons (pe_lc (own := [("_law_a", 10), ("_law_b", 11)]) (g := gTup K 2 (gCons (gName 10) (gCons (gName 11) gNil))) (tt := tYes) (by rfl) sclaw.nd (pi_zipB true true (by rfl) T.zip (pa_cons (pv 5) (pa_cons (pv 6) pa_nil))) (blkOk_by (own := [("_law_a", 10), ("_law_b", 11)]) (N := ["_law_script", "_law_pen_here", "_law_lap", "_law_one", "_law_made", "_law_start", "_law_step", "_law_told", "_law_t", "_law_there", "_law_a", "_law_b", "_law_matrix_here", "_law_shift", "_law_place_here", "_law_forms", "_law_k", "_law_moved", "_law_odd", "_law_bad"]) (sc := defScope slaw) (by decide +kernel)) (fun _ _ _ _ _ => pg_tup rfl (pgs_cons (pg_name (i := 10) sclaw.nd rfl (Or.inl rfl)) (pgs_cons (pg_name (i := 11) sclaw.nd rfl (Or.inl rfl)) pgs_nil))) (fun _ _ _ _ _ => pts_nil) (fun _ _ _ _ _ => (pe_c T._law_plus G_law_plus (hr.mono (by decide)) (pa_cons (pv 10) (pa_cons (pe_c T._law_times G_law_times (hr.mono (by decide)) (pa_cons (pv 8) (pa_cons (pv 11) pa_nil))) pa_nil))))) pa_nil)))
  (pss_cons (ps_if (pt_cmpR (op_neD (hu64 hr)) (pe_meth (pv 7) TO.cls TO.m_at.meth GPoly_at (hr.mono (by decide)) TO.m_at.b .nil passL (pa_cons (pv 8) pa_nil)) (pe_meth (pv 4) TP.cls TP.m_at.meth GPlane_at2 (hr.mono (by decide)) TP.m_at.b .nil passL (pa_cons (pv 9) pa_nil)) (nomark _)) (pss_one (ps_ret pe_bl)) pss_nil)
  (pss_cons (ps_asg (pe_tup (pa_cons (pe_c T._law_matrix G_law_matrix (hr.mono (by decide)) (pa_cons (pv 1) (pa_cons pe_int pa_nil))) (pa_cons (pe_c T._law_place G_law_place (hr.mono (by decide)) (pa_cons (pv 1) (pa_cons pe_int pa_nil))) (pa_cons (pe_c T._law_place G_law_place (hr.mono (by decide)) (pa_cons (pv 1) (pa_cons pe_int pa_nil))) pa_nil)))) (pg_tup rfl (pgs_cons (pg_name (i := 12) sclaw.nd rfl (Or.inr rfl)) (pgs_cons (pg_name (i := 13) sclaw.nd rfl (Or.inr rfl)) (pgs_cons (pg_name (i := 14) sclaw.nd rfl (Or.inl rfl)) pgs_nil)))))
  (pss_cons (ps_setLc (i := 15) (own := [("_law_k", 16)]) (g := gName 16) (tt := tYes) (by rfl) sclaw.nd rfl rfl (sw_true rfl rfl rfl (by decide +kernel)) (pi_range1 (by rfl) T.range (pa_cons pe_int pa_nil)) (blkOk_by (own := [("_law_k", 16)]) (N := ["_law_script", "_law_pen_here", "_law_lap", "_law_one", "_law_made", "_law_start", "_law_step", "_law_told", "_law_t", "_law_there", "_law_a", "_law_b", "_law_matrix_here", "_law_shift", "_law_place_here", "_law_forms", "_law_k", "_law_moved", "_law_odd", "_law_bad"]) (sc := defScope slaw) (by decide +kernel)) (fun _ _ _ _ _ => pg_name (i := 16) sclaw.nd rfl (Or.inl rfl)) (fun _ _ _ _ _ => pts_nil) (fun _ _ _ _ _ => (pe_c T._law_v_plain G_law_v_plain (hr.mono (by decide)) (pa_cons (pe_dispT (hu64 hr) (pps_cons (pe_tup (pa_cons pe_int (pa_cons pe_int pa_nil))) (pe_ix (show IxR _ (rIxL K) from ix_list) (pv 12) (pe_op op_mul pe_int (pv 16)) (fun _ _ => rfl)) (pps_cons (pe_tup (pa_cons pe_int (pa_cons pe_int pa_nil))) (pe_ix (show IxR _ (rIxL K) from ix_list) (pv 12) (pe_op op_add (pe_op op_mul pe_int (pv 16)) pe_int) (fun _ _ => rfl)) (pps_cons (pe_tup (pa_cons pe_int (pa_cons pe_int pa_nil))) (pe_ix (show IxR _ (rIxT K) from ix_tup) (pv 13) (pv 16) (fun _ _ => rfl)) pps_nil))) (by rfl) (by rfl) (fun z => by cases z) (by decide)) pa_nil))))
  (pss_cons (ps_set (i := 17) sclaw.nd rfl (Or.inl rfl) (pe_meth (pv 4) TP.cls TP.m_moved.meth GPlane_moved (hr.mono (by decide)) TP.m_moved.b .nil passL (pa_cons (pe_c T._law_shown G_law_shown (hr.mono (by decide)) (pa_cons (pv 1) (pa_cons (pv 12) pa_nil))) (pa_cons (pe_c T._law_shown G_law_shown (hr.mono (by decide)) (pa_cons (pv 1) (pa_cons (pv 13) pa_nil))) pa_nil))))
  (pss_cons (ps_if (PW.pt (pw_or (pt_not (pt_val (pe_callB call_isi (by rfl) T.isinstance (by decide +kernel) (pa_cons (pv 17) (pa_cons (pe_cls TP.g) pa_nil))))) (pw_or1 (pt_cmpR (GL.op_neDT (hu65 hr)) (pe_c T._law_v_of G_law_v_of (hr.mono (by decide)) (pa_cons (pv 17) pa_nil)) (pe_c T._law_v_put G_law_v_put (hr.mono (by decide)) (pa_cons (pv 3) (pa_cons (pv 15) pa_nil))) (nomark _))))) (pss_one (ps_ret pe_bl)) pss_nil)
  (pss_cons (ps_if (pt_cmpR (op_neD (hu64 hr)) (pe_meth (pv 17) TP.cls TP.m_at.meth GPlane_at2 (hr.mono (by decide)) TP.m_at.b .nil passL (pa_cons (pv 14) pa_nil)) (pe_meth (pv 4) TP.cls TP.m_at.meth GPlane_at2 (hr.mono (by decide)) TP.m_at.b .nil passL (pa_cons (pe_c T._law_flow_at G_law_flow_at (hr.mono (by decide)) (pa_cons (pv 12) (pa_cons (pv 13) (pa_cons (pv 14) pa_nil)))) pa_nil)) (nomark _)) (pss_one (ps_ret pe_bl)) pss_nil)
  (pss_cons (ps_asg (pe_tup (pa_cons (pe_c T._law_pick G_law_pick (hr.mono (by decide)) (pa_cons (pv 1) (pa_cons (pe_lst (pa_cons pe_non (pa_cons (pe_tup (pa_cons pe_int pa_nil)) (pa_cons (pe_tup (pa_cons pe_int (pa_cons (pe_c T._law_any G_law_any (hr.mono (by decide)) (pa_cons (pv 1) pa_nil)) pa_nil))) (pa_cons pe_str (pa_cons (pe_lst (pa_cons pe_int (pa_cons pe_int (pa_cons pe_int pa_nil)))) pa_nil)))))) pa_nil))) (pa_cons (pe_c T._law_pick G_law_pick (hr.mono (by decide)) (pa_cons (pv 1) (pa_cons (pe_lst (pa_cons pe_int (pa_cons (pe_tup pa_nil) (pa_cons (pe_tup (pa_cons pe_non (pa_cons pe_int pa_nil))) pa_nil)))) pa_nil))) pa_nil))) (pg_tup rfl (pgs_cons (pg_name (i := 18) sclaw.nd rfl (Or.inr rfl)) (pgs_cons (pg_name (i := 19) sclaw.nd rfl (Or.inr rfl)) pgs_nil))))
  (pss_cons (ps_if (pt_cmpR (op_neD (hu64 hr)) (LamX.pe_lamcall (T := Tb) (TT := TTwhy K mg) (x := "_law_why") (a := "_law_call") (g := fA mg "_law_why") (c := cC) (P := cP) (k := 14) (Ng := ["_law_call", "e"]) (t := fun E => tMeth (pnA mg) "along" (spAlong mg) [] E (tVar 4) (tCons (tVar 18) (tCons (tVar 19) tNil)))
     (by rfl) T._law_why.g T._law_why.F.kp lk' hcg b' sc_law_why rfl (.inl rfl) (why_gives T hq fun e => (hr.mono (by decide) : Room 2 _).deeper e) TB rfl (lam_memT hTm (by rfl)) (lam_onlyT hTo (by rfl)) (hr.mono (by decide)) (LamX.lamS_by (show LamX.lamSB (defScope slaw) _ = true from by decide +kernel)) rfl (fun _ _ _ _ _ => rfl)
     (fun A outer s H E f c' hr => pe_meth (pv 4) TP.cls TP.m_along.meth GPlane_along (hr.mono (by decide)) TP.m_along.b .nil (passes_call (takes_of rfl rfl rfl rfl) (fun _ _ _ _ h => h)) (pa_cons (pv 18) (pa_cons (pv 19) pa_nil)))) (pe_tup (pa_cons pe_str (pa_cons (pe_callB (id := "repr") (show CallR _ _ (rShow K) from call_show hq (hu64 hr)) (by rfl) T.repr (by decide +kernel) (pa_cons (pv 18) pa_nil)) pa_nil))) (nomark _)) (pss_one (ps_ret pe_bl)) pss_nil)
  (pss_cons (ps_if (pt_cmpR (op_neD (hu64 hr)) (LamX.pe_lamcall (T := Tb) (TT := TTwhy K mg) (x := "_law_why") (a := "_law_call") (g := fA mg "_law_why") (c := cC) (P := cP) (k := 14) (Ng := ["_law_call", "e"]) (t := fun E => tMeth (pnA mg) "along" (spAlong mg) [] E (tVar 4) (tCons (tTup (tCons (tC (.int 0)) (tCons (tC (.int 1)) tNil))) (tCons (tVar 19) tNil)))
     (by rfl) T._law_why.g T._law_why.F.kp lk' hcg b' sc_law_why rfl (.inl rfl) (why_gives T hq fun e => (hr.mono (by decide) : Room 2 _).deeper e) TB rfl (lam_memT hTm (by rfl)) (lam_onlyT hTo (by rfl)) (hr.mono (by decide)) (LamX.lamS_by (show LamX.lamSB (defScope slaw) _ = true from by decide +kernel)) rfl (fun _ _ _ _ _ => rfl)
     (fun A outer s H E f c' hr => pe_meth (pv 4) TP.cls TP.m_along.meth GPlane_along (hr.mono (by decide)) TP.m_along.b .nil (passes_call (takes_of rfl rfl rfl rfl) (fun _ _ _ _ h => h)) (pa_cons (pe_tup (pa_cons pe_int (pa_cons pe_int pa_nil))) (pa_cons (pv 19) pa_nil)))) (pe_tup (pa_cons pe_str (pa_cons (pe_callB (id := "repr") (show CallR _ _ (rShow K) from call_show hq (hu64 hr)) (by rfl) T.repr (by decide +kernel) (pa_cons (pv 19) pa_nil)) pa_nil))) (nomark _)) (pss_one (ps_ret pe_bl)) pss_nil)
  (pss_cons (ps_set (i := 18) sclaw.nd rfl (Or.inr rfl) (pe_c T._law_pick G_law_pick (hr.mono (by decide)) (pa_cons (pv 1) (pa_cons (pe_lst (pa_cons (pv 18) (pa_cons (pe_tup (pa_cons pe_int (pa_cons pe_int (pa_cons pe_int (pa_cons (pe_c T._law_any G_law_any (hr.mono (by decide)) (pa_cons (pv 1) pa_nil)) pa_nil))))) (pa_cons (pe_lst (pa_cons (pe_c T._law_any G_law_any (hr.mono (by decide)) (pa_cons (pv 1) pa_nil)) (pa_cons pe_int (pa_cons pe_int (pa_cons pe_int pa_nil))))) (pa_cons (pe_tup (pa_cons pe_int (pa_cons pe_int (pa_cons pe_int (pa_cons pe_int (pa_cons pe_int pa_nil)))))) pa_nil))))) pa_nil))))
  (pss_cons (ps_if (pt_cmpR (op_neD (hu64 hr)) (LamX.pe_lamcall (T := Tb) (TT := TTwhy K mg) (x := "_law_why") (a := "_law_call") (g := fA mg "_law_why") (c := cC) (P := cP) (k := 14) (Ng := ["_law_call", "e"]) (t := fun E => tMeth (pnA mg) "moved" (spMvE mg) [] E (tVar 4) (tCons (tVar 18) (tCons (tVar 19) tNil)))
     (by rfl) T._law_why.g T._law_why.F.kp lk' hcg b' sc_law_why rfl (.inl rfl) (why_gives T hq fun e => (hr.mono (by decide) : Room 2 _).deeper e) TB rfl (lam_memT hTm (by rfl)) (lam_onlyT hTo (by rfl)) (hr.mono (by decide)) (LamX.lamS_by (show LamX.lamSB (defScope slaw) _ = true from by decide +kernel)) rfl (fun _ _ _ _ _ => rfl)
     (fun A outer s H E f c' hr => pe_meth (pv 4) TP.cls TP.m_moved.meth GPlane_movedE (hr.mono (by decide)) TP.m_moved.b .nil (passes_call (takes_of rfl rfl rfl rfl) (fun _ _ _ _ h => h)) (pa_cons (pv 18) (pa_cons (pv 19) pa_nil)))) (pe_tup (pa_cons pe_str (pa_cons (pe_callB (id := "repr") (show CallR _ _ (rShow K) from call_show hq (hu64 hr)) (by rfl) T.repr (by decide +kernel) (pa_cons (pv 18) pa_nil)) pa_nil))) (nomark _)) (pss_one (ps_ret pe_bl)) pss_nil)
  (pss_one (ps_if (pt_cmpR (op_neD (hu64 hr)) (LamX.pe_lamcall (T := Tb) (TT := TTwhy K mg) (x := "_law_why") (a := "_law_call") (g := fA mg "_law_why") (c := cC) (P := cP) (k := 14) (Ng := ["_law_call", "e"]) (t := fun E => tMeth (pnA mg) "moved" (spMvE mg) [] E (tVar 4) (tCons (tTup (tCons (tC (.int 1)) (tCons (tC (.int 0)) (tCons (tC (.int 0)) (tCons (tC (.int 1)) tNil))))) (tCons (tVar 19) tNil)))
     (by rfl) T._law_why.g T._law_why.F.kp lk' hcg b' sc_law_why rfl (.inl rfl) (why_gives T hq fun e => (hr.mono (by decide) : Room 2 _).deeper e) TB rfl (lam_memT hTm (by rfl)) (lam_onlyT hTo (by rfl)) (hr.mono (by decide)) (LamX.lamS_by (show LamX.lamSB (defScope slaw) _ = true from by decide +kernel)) rfl (fun _ _ _ _ _ => rfl)
     (fun A outer s H E f c' hr => pe_meth (pv 4) TP.cls TP.m_moved.meth GPlane_movedE (hr.mono (by decide)) TP.m_moved.b .nil (passes_call (takes_of rfl rfl rfl rfl) (fun _ _ _ _ h => h)) (pa_cons (pe_tup (pa_cons pe_int (pa_cons pe_int (pa_cons pe_int (pa_cons pe_int pa_nil))))) (pa_cons (pv 19) pa_nil)))) (pe_tup (pa_cons pe_str (pa_cons (pe_callB (id := "repr") (show CallR _ _ (rShow K) from call_show hq (hu64 hr)) (by rfl) T.repr (by decide +kernel) (pa_cons (pv 19) pa_nil)) pa_nil))) (nomark _)) (pss_one (ps_ret pe_bl)) pss_nil)))))))))))))))))))))
  (pss_one (ps_ret pe_bl)))), ?_⟩
  have mo : most = 1000000000 := rfl
  refine q_asg (c_call (va_cons (val_var rfl) va_nil) ⟨a, ns, rfl, hS, hn, fun p c H0 s0 P0 => ?_⟩)
  have T0 := Tabs.same hT s0
  refine q_forR1 (n := 3) (va_cons val_c va_nil) (by decide) (fun i σ H1 => ∃ z2 z3 z4 z5 z6 z7 z8 z9 z10 z11 z12 z13 z14 z15 z16 z17 z18 z19 : Option V, σ = [some (.ref a), some (.ref p), z2, z3, z4, z5, z6, z7, z8, z9, z10, z11, z12, z13, z14, z15, z16, z17, z18, z19] ∧ PenAt H1 p c (1000 + 1000 * i) ∧ LamX.Tabs Tb H1) ⟨none, none, none, none, none, none, none, none, none, none, none, none, none, none, none, none, none, none, rfl, P0.le (by decide), T0⟩ (fun i σ H1 hi z => ?_) (fun σ H1 z => ?_)
  rotate_left
  · obtain ⟨z2, z3, z4, z5, z6, z7, z8, z9, z10, z11, z12, z13, z14, z15, z16, z17, z18, z19, rfl, _, _⟩ := z
    exact r_ret (val_c _ (k H1))
  obtain ⟨z2, z3, z4, z5, z6, z7, z8, z9, z10, z11, z12, z13, z14, z15, z16, z17, z18, z19, rfl, P1, T1⟩ := z
  clear T0 s0 P0 hT hS
  -- the polynomial
  refine g_name (q_asg (call_1 ((val_var rfl) _ (va_x (call_1 ((val_var rfl) _ (va_1 (l_lst (va_cons val_c (va_cons val_c (va_cons val_c va_nil))) (by show 3 ≤ 100000; decide) fun q hq => ?_))))))))
  have s1 := Same.new' (o := .lst [.int 1, .int 3, .int 5]) hq
  refine ⟨p, c, q, [.int 1, .int 3, .int 5], _, rfl, P1.same s1, by omega, SqL.of upd_same, by show 0 < 3; decide, by show 3 < 1000000000; decide, fun gv H2 hv b2 P2 => va_s val_c ?_⟩
  obtain ⟨g, rfl, g5⟩ : ∃ g : Nat, gv = .int (g : Int) ∧ g ≤ 5 := by
    simp only [List.mem_cons, List.not_mem_nil, or_false] at hv
    rcases hv with rfl | rfl | rfl
    · exact ⟨1, rfl, by decide⟩
    · exact ⟨3, rfl, by decide⟩
    · exact ⟨5, rfl, by decide⟩
  refine ⟨p, c, _, g, 4, rfl, P2, g5, by omega, by decide, by decide, fun d H3 L dw nzL kf lL _ b3 P3 => ?_⟩
  have T3 := Tabs.but (Tabs.but (Tabs.same T1 s1) (P1.same s1) b2) P2 b3
  have n1 := DE.nodup dw
  have kf5 : KF 5 4 L := ⟨fun e he => Nat.le_trans (kf.deg e he) g5, kf.sm, kf.bd⟩
  refine q_asg (c_call (va_cons (val_var rfl) (va_cons (val_var rfl) va_nil)) ⟨p, c, d, _, 6, 10, L, rfl, P3, by omega, dw.dp, fun e he => by have := kf5.deg e he; omega, by decide, by omega, SmC.of (by decide) (fun e he => kf.sm e he) n1, by decide, by decide, fun A H4 R pa cR b4 P4 => ?_⟩)
  have nR : Nice L9 4 5 R := nice_of n1 kf5.bd kf5.deg cR
  have pa' := pa
  obtain ⟨_, _, _, _, caR⟩ := pa'
  have evR : ∀ x y, evL L x y = evP R x y := fun x y => by
    rw [evL_box (N := 5) (fun e he => by have := kf5.deg e he; omega), evP_box (N := 5) (k := 6) ⟨nR.lenR caR, fun r hr => nR.lenM caR hr⟩ (Nat.le_refl _)]
    exact congrFun (congrFun (congrArg (ev2 5) (funext fun i => funext fun j => (cR i j).symm)) x) y
  have sk : Sl mg Tb p c d A L R (1300 + 1000 * i) H4 := ⟨P4.le (by omega), Tabs.but T3 P3 b4, dw.but P3 b4, pa⟩
  clear P1 T1 s1 hq P2 b2 P3 b3 P4 b4 T3 dw pa hv kf
  -- where the line starts, and its step
  refine q_par (va_x (c_call (va_cons (val_var rfl) (va_cons val_c va_nil)) ⟨p, c, _, rfl, sk.pen, by omega, fun v5 H5 q5 PL5 ss5 bs5 b5 P5 => ?_⟩))
  have sk := sk.but b5 P5
  clear b5 P5
  refine va_1 (call_1 ((val_var rfl) _ (va_1 (l_s (va_x (c_call (va_cons (val_var rfl) (va_cons val_c va_nil)) ⟨p, c, _, rfl, sk.pen, by omega, fun v6 H6 q6 PL6 ss6 bs6 b6 P6 => ?_⟩))))))
  have PL5 := PL5.but sk.pen b6
  have sk := sk.but b6 P6
  refine va_x (tup_two (l_tup (va_cons val_c (va_cons val_c va_nil)) (by show 2 ≤ 100000; decide) fun t1 h1 => l_tup (va_cons val_c (va_cons val_c va_nil)) (by show 2 ≤ 100000; decide) fun t2 h2 => ⟨by decide, fun t3 h3 => ?_⟩))
  refine va_1 (tup_two (l_tup (va_cons val_c (va_cons val_c va_nil)) (by show 2 ≤ 100000; decide) fun t4 h4 => l_tup (va_cons val_c (va_cons val_c va_nil)) (by show 2 ≤ 100000; decide) fun t5 h5 => ⟨by decide, fun t6 h6 => ⟨by show 3 ≤ sizeLine; decide, fun ql hql => ?_⟩⟩))
  have n1' := Same.new' (o := .tup [.int 0, .int 1]) h1
  have n2 := Same.new' (o := .tup [.int 1, .int 1]) h2
  have n3 := Same.new' (o := .tup [.ref t1, .ref t2]) h3
  have n4 := Same.new' (o := .tup [.int 0, .int 1]) h4
  have n5 := Same.new' (o := .tup [.int 0, .int 1]) h5
  have n6 := Same.new' (o := .tup [.ref t4, .ref t5]) h6
  have n7 := Same.new' (o := .lst [v6, .ref t3, .ref t6]) hql
  have N := (((((n1'.trans n2).trans n3).trans n4).trans n5).trans n6).trans n7
  refine ⟨p, c, ql, [v6, .ref t3, .ref t6], _, rfl, sk.pen.same N, by omega, SqL.of upd_same, by show 0 < 3; decide, by show 3 < 1000000000; decide, fun vst H7 hvs b7 P7 => ⟨_, _, rfl, ?_⟩⟩
  obtain ⟨qst, PLs, sst, bst⟩ : ∃ qst : Rat × Rat, PlL H7 vst qst ∧ (Sm 10 qst.1 ∧ Sm 10 qst.2) ∧ (Bd L9 3 qst.1 ∧ Bd L9 3 qst.2) := by
    have P' := sk.pen.same N
    have i0 : ∀ {H : Hp} {t : Addr}, H t = some (.tup [.int 0, .int 1]) → Lo H t 0 := fun e => zero_lo e
    have i1 : ∀ {H : Hp} {t : Addr}, H t = some (.tup [.int 1, .int 1]) → Lo H t 1 := fun e => int_lo (i := 1) e
    simp only [List.mem_cons, List.not_mem_nil, or_false] at hvs
    rcases hvs with rfl | rfl | rfl
    · exact ⟨q6, (PL6.sameL N).but P' b7, ss6, bs6⟩
    · exact ⟨(0, 1), PlL.but ⟨t3, t1, t2, rfl, n7 _ _ (n6 _ _ (n5 _ _ (n4 _ _ upd_same))), i0 (n7 _ _ (n6 _ _ (n5 _ _ (n4 _ _ (n3 _ _ (n2 _ _ upd_same)))))), i1 (n7 _ _ (n6 _ _ (n5 _ _ (n4 _ _ (n3 _ _ upd_same)))))⟩ P' b7, ⟨Sm.zero (by decide), ⟨by decide, by decide⟩⟩, ⟨Bd.zero, int3 (i := 1) (by decide)⟩⟩
    · exact ⟨(0, 0), PlL.but ⟨t6, t4, t5, rfl, n7 _ _ upd_same, i0 (n7 _ _ (n6 _ _ (n5 _ _ upd_same))), i0 (n7 _ _ (n6 _ _ upd_same))⟩ P' b7, ⟨Sm.zero (by decide), Sm.zero (by decide)⟩, ⟨Bd.zero, Bd.zero⟩⟩
  have PL5 := (PL5.sameL N).but (sk.pen.same N) b7
  have sk := ((sk.same N).but b7 P7).le (show _ ≤ 1320 + 1000 * i by omega)
  clear n1' n2 n3 n4 n5 n6 n7 N h1 h2 h3 h4 h5 h6 hql b6 P6 b7 P7 hvs PL6 ss6 bs6
  obtain ⟨X, Y⟩ := q5
  obtain ⟨SX, SY⟩ := qst
  obtain ⟨a5, xa, ya, rfl, e5, lX, lY⟩ := PL5
  obtain ⟨a6, sxa, sya, rfl, e6, lSX, lSY⟩ := PLs
  have mX := ss5.1
  have mY := ss5.2
  have mSX := sst.1
  have mSY := sst.2
  have bX := bs5.1
  have bY := bs5.2
  have bSX := bst.1
  have bSY := bst.2
  dsimp only at mX mY mSX mSY bX bY bSX bSY lX lY lSX lSY
  -- along
  have pa0 := sk.pa
  obtain ⟨dxA, fsA, eA⟩ := pa0.obj
  obtain ⟨dxA', tA, eA', losA, _⟩ := pa0
  refine q_asg ((val_var rfl) _ ⟨A, dxA', _, rfl, eA', no_at "along" (by decide +kernel), ?_⟩)
  refine va_x (c_call (va_cons (val_var rfl) (va_cons (val_var rfl) va_nil)) ⟨p, c, a5, [X, Y], _, rfl, sk.pen, ⟨_, .inr e5, .cons ⟨xa, rfl, lX⟩ (.cons ⟨ya, rfl, lY⟩ .nil)⟩, two_fin mX mY, by show 2 ≤ 4; decide, by omega, fun w1 H8 a8 ys8 w1e sq8 al8 b8 P8 => ?_⟩)
  subst w1e
  have fr1 : ∀ {t : Addr} {q : Rat}, Lo H7 t q → Lo H8 t q := fun h => b8.lo sk.pen h
  have e6' : H8 a6 = some (.tup [.ref sxa, .ref sya]) := by
    obtain ⟨ks, hd⟩ := sk.pen.dk
    exact b8 _ _ e6 (ne_of e6 hd (by intro z; cases z))
  have e5' : H8 a5 = some (.tup [.ref xa, .ref ya]) := by
    obtain ⟨ks, hd⟩ := sk.pen.dk
    exact b8 _ _ e5 (ne_of e5 hd (by intro z; cases z))
  have lX := fr1 lX
  have lY := fr1 lY
  have lSX := fr1 lSX
  have lSY := fr1 lSY
  have sk := sk.but b8 P8
  have pl8 := pl_two sq8 al8
  clear fr1 b8 P8 e5 e6 sq8 al8 eA eA' losA
  refine va_1 (c_call (va_cons (val_var rfl) (va_cons (val_var rfl) va_nil)) ⟨p, c, a6, [SX, SY], _, rfl, sk.pen, ⟨_, .inr e6', .cons ⟨sxa, rfl, lSX⟩ (.cons ⟨sya, rfl, lSY⟩ .nil)⟩, two_fin mSX mSY, by show 2 ≤ 4; decide, by omega, fun w2 H9 a9 ys9 w2e sq9 al9 b9 P9 => ?_⟩)
  subst w2e
  have fr1 : ∀ {t : Addr} {q : Rat}, Lo H8 t q → Lo H9 t q := fun h => b9.lo sk.pen h
  have fr2 : ∀ {t : Addr} {zs : List V}, H8 t = some (.tup zs) → H9 t = some (.tup zs) := fun e => by
    obtain ⟨ks, hd⟩ := sk.pen.dk
    exact b9 _ _ e (ne_of e hd (by intro z; cases z))
  have e5 := fr2 e5'
  have e6 := fr2 e6'
  have lX := fr1 lX
  have lY := fr1 lY
  have lSX := fr1 lSX
  have lSY := fr1 lSY
  have pl8 := pl8.but sk.pen b9
  have sk := (sk.but b9 P9).le (show _ ≤ 1370 + 1000 * i by omega)
  have pl9 := pl_two sq9 al9
  clear fr1 fr2 b9 P9 e5' e6' sq9 al9
  obtain ⟨Δ1, hΔ1⟩ : ∃ Δ1 : Nat, Δ1 = X.den * SX.den * (Y.den * SY.den) := ⟨_, rfl⟩
  have Δp : 0 < Δ1 := by rw [hΔ1]; exact Nat.mul_pos (Nat.mul_pos X.den_pos SX.den_pos) (Nat.mul_pos Y.den_pos SY.den_pos)
  have d10 : ∀ {q : Rat}, Sm 10 q → q.den ≤ 2 ^ 10 := fun h => Nat.le_of_lt h.2
  have Δ40 : Δ1 ≤ 2 ^ 40 := by rw [hΔ1]; exact mul4 (d10 mX) (d10 mSX) (d10 mY) (d10 mSY)
  obtain ⟨z1', z2', z3'⟩ := mv_sz Δp (Nat.le_trans Δ40 (by decide))
  have bds1 : Bds Δ1 3 [SX, 0, SY, 0, X, Y] := fun q hq => by
    rw [hΔ1]
    simp only [List.mem_cons, List.not_mem_nil, or_false] at hq
    rcases hq with rfl | rfl | rfl | rfl | rfl | rfl
    · exact (bdn bSX).mono ⟨X.den * (Y.den * SY.den), by ac_rfl⟩ (Nat.le_refl _)
    · exact Bd.zero
    · exact (bdn bSY).mono ⟨X.den * SX.den * Y.den, by ac_rfl⟩ (Nat.le_refl _)
    · exact Bd.zero
    · exact (bdn bX).mono ⟨SX.den * (Y.den * SY.den), by ac_rfl⟩ (Nat.le_refl _)
    · exact (bdn bY).mono ⟨X.den * SX.den * SY.den, by ac_rfl⟩ (Nat.le_refl _)
  have sms1 : Sms 1000 [SX, 0, SY, 0, X, Y] := fun q hq => by
    simp only [List.mem_cons, List.not_mem_nil, or_false] at hq
    rcases hq with rfl | rfl | rfl | rfl | rfl | rfl
    · exact mSX.mono (by decide)
    · exact Sm.zero (by decide)
    · exact mSY.mono (by decide)
    · exact Sm.zero (by decide)
    · exact mX.mono (by decide)
    · exact mY.mono (by decide)
  have fz4 : Fz L9 4 := ⟨by decide, by decide +kernel, by decide +kernel⟩
  refine ⟨A, .ref a8, .ref a9, R, rfl, sk.pa, .inl ⟨X, Y, SX, SY, L9, 4, 5, Δ1, 3, pl8, pl9, nR, fz4, by decide, bds1, sms1, by decide, by decide, Δp, z1', z2', z3', fun O H10 xs s10 po bxs lxs vxs => ?_⟩⟩
  have sk := sk.same s10
  have e5 := s10 _ _ e5
  have e6 := s10 _ _ e6
  have lX := lX.same s10
  have lY := lY.same s10
  have lSX := lSX.same s10
  have lSY := lSY.same s10
  clear s10 pl8 pl9 bds1 sms1 z1' z2' z3'
  have po2 := po
  obtain ⟨dxO, tO, eO, losO, tlO⟩ := po2
  have sx400 : Sms 400 xs := fun q hq => (bxs q hq).smA (Nat.mul_pos (by decide) (Nat.pow_pos Δp)) (po_sz Δ40).2 (po_sz Δ40).1
  have ncx : Nc 64000 3 (polyD xs) := polyD_nc sx400 (by decide) (by omega)
  have fl : ∀ {H : Hp} {v : V}, Dd K H v (polyD xs) → FineL K H v (polyD xs) := fun h => ncx.line h (by decide) (by decide)
  have f1 := fl (los_dd losO)
  refine q_ifOr (not_in (tt_in ((v_isO (val_var rfl) (TO.tyI po) (kit_self K _)) _ ⟨_, rfl, iteN (by decide) (t_op ((v_show (v_numbers TO (val_var rfl) eO) f1.1 f1.2.1 f1.2.2.1 f1.2.2.2.1) _ ?_))⟩)))
  refine cb_one (cb_one (c_call (va_cons (val_var rfl) (va_cons (val_var rfl) (va_cons (val_var rfl) va_nil))) ⟨d, a5, a6, xa, ya, sxa, sya, L, X, Y, SX, SY, rfl, sk.dw, kf5, by omega, e5, e6, lX, lY, lSX, lSY, fun q hq => ?_, fun q hq => ?_, fun l H11 xs' s11 lst tl' len' _ ev' => ?_⟩))
  · simp only [List.mem_cons, List.not_mem_nil, or_false] at hq
    rcases hq with rfl | rfl | rfl | rfl <;> assumption
  · simp only [List.mem_cons, List.not_mem_nil, or_false] at hq
    rcases hq with rfl | rfl | rfl | rfl <;> assumption
  obtain rfl : xs = xs' := poly_vals tlO tl' fun t => by rw [vxs, ev', evR]
  obtain ⟨vs11, e11, al11⟩ := lst
  refine ⟨l, vs11, rfl, .inl ⟨SqL.of e11, fun t11 ht11 => ?_⟩⟩
  have n11 := Same.new' (o := .tup vs11) ht11
  have f2 := fl (los_dd (K := K) (t := t11) (H := upd H11 t11 (.tup vs11)) ⟨vs11, upd_same, al11.imp fun _ _ ⟨q, e, lo⟩ => ⟨q, e, lo.same n11⟩⟩)
  refine ⟨.ref t11, _, rfl, f2.1, f2.2.1, f2.2.2.1, Nat.le_trans f2.2.2.2.1 (by decide), ne_same ⟨_, rfl, iteF ?_⟩⟩
  have S11 := s11.trans n11
  have sk := sk.same S11
  have e5 := S11 _ _ e5
  have e6 := S11 _ _ e6
  have lX := lX.same S11
  have lY := lY.same S11
  have lSX := lSX.same S11
  have lSY := lSY.same S11
  have po := po.same S11
  clear f1 f2 n11 S11 s11 e11 al11 ht11 eO losO
  show tSeq _ _ _ [some (.ref a), some (.ref p), some (.int (i : Int)), some (.ref d), some (.ref A), some (.ref a5), some (.ref a6), some (.ref O), z8, z9, z10, z11, z12, z13, z14, z15, z16, z17, z18, z19] _
  -- a time
  refine q_asg (c_call (va_cons (val_var rfl) (va_cons val_c va_nil)) ⟨p, c, _, 3, rfl, sk.pen, by omega, by decide, by decide, fun tq H12 tt lt mt bt b12 P12 => ?_⟩)
  have e5 := tup_but sk.pen b12 e5
  have e6 := tup_but sk.pen b12 e6
  have lX := b12.lo sk.pen lX
  have lY := b12.lo sk.pen lY
  have lSX := b12.lo sk.pen lSX
  have lSY := b12.lo sk.pen lSY
  have po := po.but sk.pen b12
  have sk := (sk.but b12 P12).le (show _ ≤ 1380 + 1000 * i by omega)
  clear b12 P12
  -- there
  refine q_asg (cb_one (l_lcZ (t := true) (u := true) (xs := [.ref xa, .ref ya]) (ys := [.ref sxa, .ref sya]) (va_two rfl rfl) (SqT.of e5) (SqT.of e6) rfl (fun D j H1 => L2.Same H12 H1 ∧ H12 D = none ∧ ∃ acc, H1 D = some (.lst acc) ∧ ((j = 0 ∧ acc = []) ∨ (j = 1 ∧ ∃ u1, acc = [.ref u1] ∧ Lo H1 u1 (X + tt * SX)) ∨ (j = 2 ∧ ∃ u1 u2, acc = [.ref u1, .ref u2] ∧ Lo H1 u1 (X + tt * SX) ∧ Lo H1 u2 (Y + tt * SY)))) (fun D hD => ⟨Same.new' hD, hD, _, upd_same, .inl ⟨rfl, rfl⟩⟩) (fun D j H1 h => ⟨SqT.of (h.1 _ _ e5), SqT.of (h.1 _ _ e6)⟩) (fun D j x y T4 H1 hx hy h hT => g_two (SqT.of upd_same) ⟨rfl, yes_in ?_⟩) (fun D H1 h => ?_)))
  · obtain ⟨sA, nD, acc, eD, h⟩ := h
    have nT := Same.new' (o := .tup [x, y]) hT
    have sB := sA.trans nT
    rcases h with ⟨rfl, rfl⟩ | ⟨rfl, u1, rfl, lu1⟩ | ⟨rfl, _⟩
    · cases hx
      cases hy
      refine call_1 ((val_var rfl) _ (va_1 (c_ltimes (va_cons (val_var rfl) (va_cons (val_var rfl) va_nil)) (lt.same sB) (lSX.same sB) mt mSX (by decide) (by decide) fun u H2 s2 lo => cs_lplus ((lX.same sB).same s2) lo mX (mt.mul mSX) (by decide) (by decide) fun u1 H3 s3 lo1 => ?_)))
      have eD' := s3 _ _ (s2 _ _ (nT _ _ eD))
      exact ⟨[], eD', by show 0 < sizeLine; decide, Same.updN ((sB.trans s2).trans s3) nD, nD, _, upd_same, .inr (.inl ⟨rfl, u1, rfl, lo_updL eD' lo1⟩)⟩
    · cases hx
      cases hy
      refine call_1 ((val_var rfl) _ (va_1 (c_ltimes (va_cons (val_var rfl) (va_cons (val_var rfl) va_nil)) (lt.same sB) (lSY.same sB) mt mSY (by decide) (by decide) fun u H2 s2 lo => cs_lplus ((lY.same sB).same s2) lo mY (mt.mul mSY) (by decide) (by decide) fun u2 H3 s3 lo2 => ?_)))
      have eD' := s3 _ _ (s2 _ _ (nT _ _ eD))
      exact ⟨[.ref u1], eD', by show 1 < sizeLine; decide, Same.updN ((sB.trans s2).trans s3) nD, nD, _, upd_same, .inr (.inr ⟨rfl, u1, u2, rfl, lo_updL eD' (((lu1.same nT).same s2).same s3), lo_updL eD' lo2⟩)⟩
    · cases hx
  obtain ⟨sA, nD, acc, eD, h⟩ := h
  obtain ⟨u1, u2, rfl, lu1, lu2⟩ : ∃ u1 u2, acc = [V.ref u1, V.ref u2] ∧ Lo H1 u1 (X + tt * SX) ∧ Lo H1 u2 (Y + tt * SY) := by
    rcases h with ⟨z, _⟩ | ⟨z, _⟩ | ⟨_, h⟩
    · cases z
    · cases z
    · exact h
  refine ⟨D, _, rfl, .inl ⟨SqL.of eD, fun t9 h9 => ?_⟩⟩
  have n9 := Same.new' (o := .tup [.ref u1, .ref u2]) h9
  have S9 := sA.trans n9
  have e9 := upd_same (H := H1) (a := t9) (o := .tup [.ref u1, .ref u2])
  have lu1 := lu1.same n9
  have lu2 := lu2.same n9
  have sk := sk.same S9
  have po := po.same S9
  have lt := lt.same S9
  clear sA nD eD h h9 n9 S9 e5 e6 lX lY lSX lSY
  revert e9 lu1 lu2 sk po lt
  generalize upd H1 t9 (.tup [.ref u1, .ref u2]) = H13
  intro e9 lu1 lu2 sk po lt
  -- at the time, at the place
  have sp1 : Sm 34 (X + tt * SX) := (mX.add (mt.mul mSX)).mono (by decide)
  have sp2 : Sm 34 (Y + tt * SY) := (mY.add (mt.mul mSY)).mono (by decide)
  have Dt0 : 0 < X.den * SX.den * (Y.den * SY.den) * tt.den := Nat.mul_pos (Nat.mul_pos (Nat.mul_pos X.den_pos SX.den_pos) (Nat.mul_pos Y.den_pos SY.den_pos)) tt.den_pos
  have Dt1 : X.den * SX.den * (Y.den * SY.den) * tt.den ≤ 2 ^ 50 := Nat.le_trans (Nat.mul_le_mul (mul4 (d10 mX) (d10 mSX) (d10 mY) (d10 mSY)) (d10 mt)) (by decide)
  obtain ⟨dxO, tO, eO, losO, tlO⟩ := id po
  refine q_un (t_op ((val_var rfl) _ ⟨O, dxO, _, rfl, eO, rfl, (va_cons (val_var rfl) va_nil) _ ⟨O, .ref tq, xs, rfl, po, .inl ⟨tt, L9 * Δ1 ^ 5, MA, 400, 10, lt.rq mt (by decide), bxs, (mv_sz Δp (Nat.le_trans Δ40 (by decide))).2.2, (po_sz Δ40).1, (po_sz Δ40).2, mt, by have := Nat.mul_le_mul_left 11 lxs; omega, by omega, fun r1 H14 s14 lo1 => ?_⟩⟩⟩))
  have sk := sk.same s14
  obtain ⟨dxA, tA, eA, losA, _⟩ := id sk.pa
  refine (val_var rfl) _ ⟨A, dxA, _, rfl, eA, no_at "at" (by decide +kernel), (va_cons (val_var rfl) va_nil) _ ⟨A, .ref t9, R, rfl, sk.pa, (X + tt * SX, Y + tt * SY), L9, 4, 5, 27, 140, _, 12, ⟨t9, _, _, rfl, .inr (s14 _ _ e9), (lu1.same s14).rq sp1 (by decide), (lu2.same s14).rq sp2 (by decide)⟩, nR, bat_there Dt0 Dt1, there_bd bX bSX bt, there_bd2 bY bSY bt, fun r2 H15 s15 lo2 => ?_⟩⟩
  refine lo_ne (lo1.same s15) lo2 (by rw [vxs, Rat.mul_comm SX, Rat.mul_comm SY]) ⟨_, rfl, iteF ?_⟩
  have sk := sk.same s15
  clear e9 lu1 lu2 po lt lo1 lo2 s14 s15 eO losO eA losA sp1 sp2 Dt0 Dt1
  show tSeq _ _ _ [some (.ref a), some (.ref p), some (.int (i : Int)), some (.ref d), some (.ref A), some (.ref a5), some (.ref a6), some (.ref O), some (.ref tq), some (.ref t9), z10, z11, z12, z13, z14, z15, z16, z17, z18, z19] _
  -- a matrix, a shift, a place
  refine q_gen (show tTup _ _ _ _ from va_x (c_call (va_cons (val_var rfl) (va_cons val_c va_nil)) ⟨p, c, _, rfl, sk.pen, by omega, fun ml H16 qa qb qc qd lm sm4 bd4 b16 P16 => ?_⟩))
  have sk := sk.but b16 P16
  refine va_x (c_call (va_cons (val_var rfl) (va_cons val_c va_nil)) ⟨p, c, _, rfl, sk.pen, by omega, fun v13 H17 q13 PL13 ss13 bs13 b17 P17 => ?_⟩)
  have lm := lm.but b17 sk.pen
  have sk := sk.but b17 P17
  refine va_1 (c_call (va_cons (val_var rfl) (va_cons val_c va_nil)) ⟨p, c, _, rfl, sk.pen, by omega, fun v14 H18 q14 PL14 ss14 bs14 b18 P18 => ⟨by show 3 ≤ sizeLine; decide, fun t3 ht3 => ⟨t3, _, rfl, SqT.of upd_same, rfl, _, _, rfl, _, _, rfl, _, _, rfl, rfl, ?_⟩⟩⟩)
  have lm := lm.but b18 sk.pen
  have PL13 := PL13.but sk.pen b18
  have sk := sk.but b18 P18
  have n18 := Same.new' (o := .tup [.ref ml, v13, v14]) ht3
  have lm := lm.same n18
  have PL13 := PL13.sameL n18
  have PL14 := PL14.sameL n18
  have sk := (sk.same n18).le (show _ ≤ 1440 + 1000 * i by omega)
  clear b16 P16 b17 P17 b18 P18
  revert lm PL13 PL14 sk
  generalize upd H18 t3 (.tup [.ref ml, v13, v14]) = H19
  intro lm PL13 PL14 sk
  clear ht3 n18
  obtain ⟨s1, s2⟩ := q13
  obtain ⟨X, Y⟩ := q14
  obtain ⟨a13, psa, pta, rfl, e13, l1, l2⟩ := PL13
  obtain ⟨a14, pxa, pya, rfl, e14, lpx, lpy⟩ := PL14
  have ms1 := ss13.1
  have ms2 := ss13.2
  have bs1 := bs13.1
  have bs2 := bs13.2
  have mX := ss14.1
  have mY := ss14.2
  have bX := bs14.1
  have bY := bs14.2
  dsimp only at ms1 ms2 bs1 bs2 mX mY bX bY l1 l2 lpx lpy
  have mqa := sm4 qa (by simp)
  have mqb := sm4 qb (by simp)
  have mqc := sm4 qc (by simp)
  have mqd := sm4 qd (by simp)
  have bqa := bd4 qa (by simp)
  have bqb := bd4 qb (by simp)
  have bqc := bd4 qc (by simp)
  have bqd := bd4 qd (by simp)
  obtain ⟨Δ2, hΔ2⟩ : ∃ Δ2 : Nat, Δ2 = qa.den * qb.den * (qc.den * qd.den) * (s1.den * s2.den) := ⟨_, rfl⟩
  have Δ2p : 0 < Δ2 := by rw [hΔ2]; exact Nat.mul_pos (Nat.mul_pos (Nat.mul_pos qa.den_pos qb.den_pos) (Nat.mul_pos qc.den_pos qd.den_pos)) (Nat.mul_pos s1.den_pos s2.den_pos)
  have Δ60 : Δ2 ≤ 2 ^ 60 := by rw [hΔ2]; exact Nat.le_trans (Nat.mul_le_mul (mul4 (d10 mqa) (d10 mqb) (d10 mqc) (d10 mqd)) (mul2 (d10 ms1) (d10 ms2))) (by decide)
  have da : qa.den ∣ Δ2 := by rw [hΔ2]; exact ⟨qb.den * (qc.den * qd.den) * (s1.den * s2.den), by ac_rfl⟩
  have db : qb.den ∣ Δ2 := by rw [hΔ2]; exact ⟨qa.den * (qc.den * qd.den) * (s1.den * s2.den), by ac_rfl⟩
  have dc : qc.den ∣ Δ2 := by rw [hΔ2]; exact ⟨qa.den * qb.den * qd.den * (s1.den * s2.den), by ac_rfl⟩
  have dd : qd.den ∣ Δ2 := by rw [hΔ2]; exact ⟨qa.den * qb.den * qc.den * (s1.den * s2.den), by ac_rfl⟩
  have ds1 : s1.den ∣ Δ2 := by rw [hΔ2]; exact ⟨qa.den * qb.den * (qc.den * qd.den) * s2.den, by ac_rfl⟩
  have ds2 : s2.den ∣ Δ2 := by rw [hΔ2]; exact ⟨qa.den * qb.den * (qc.den * qd.den) * s1.den, by ac_rfl⟩
  have B1 : ∀ {q : Rat}, Bd L9 3 q → q.den ∣ Δ2 → Bd Δ2 3 q := fun h k => ⟨k, h.2⟩
  obtain ⟨pqa, pqb, pqc, pqd, em, la, lb, lc, ld⟩ := lst4 lm
  show tSeq _ _ _ [some (.ref a), some (.ref p), some (.int (i : Int)), some (.ref d), some (.ref A), some (.ref a5), some (.ref a6), some (.ref O), some (.ref tq), some (.ref t9), z10, z11, some (.ref ml), some (.ref a13), some (.ref a14), z15, z16, z17, z18, z19] _
  -- the lines as dicts
  refine q_asg (d_lcR (n := 2) (R := fun D j v H => ∃ f F, v = V.ref f ∧ f ≠ d ∧ ((j = 0 ∧ Ln H f F qa qb s1 Δ2 3) ∨ (j = 1 ∧ Ln H f F qc qd s2 Δ2 3))) (fun D k v H1 H2 s ⟨f, F, e, n, h⟩ => ⟨f, F, e, n, h.imp (fun ⟨z, h⟩ => ⟨z, h.same s⟩) fun ⟨z, h⟩ => ⟨z, h.same s⟩⟩) (fun D k v H ys zs ⟨f, F, e, n, h⟩ eD => ⟨f, F, e, n, h.imp (fun ⟨z, h⟩ => ⟨z, h.upl eD⟩) fun ⟨z, h⟩ => ⟨z, h.upl eD⟩⟩) (va_cons val_c va_nil) (by decide) (fun D2 kk H3 hk s2' eD2 => turn_name rfl fun Q2 q2 => ?_) (fun fl ws H20 s20 n20 e20 r20 => ?_))
  · have nd : ∀ {x : Addr}, H3 x = none → x ≠ d := fun {x} h z => by
      obtain ⟨ks, e, _⟩ := sk.dw.same s2'
      rw [z, e] at h
      cases h
    match kk, hk with
    | 0, _ => exact c_form (fun H' s => v_ixL (n := 0) (val_var rfl) (v_mul (i := 2) (j := 0) val_c (val_var rfl) (.inl ⟨by decide, by decide⟩)) (SqL.of (s _ _ (s2' _ _ em))) rfl) (fun H' s => v_ixL (n := 1) (val_var rfl) (v_add (i := 0) (j := 1) (v_mul (i := 2) (j := 0) val_c (val_var rfl) (.inl ⟨by decide, by decide⟩)) val_c) (SqL.of (s _ _ (s2' _ _ em))) rfl) (fun H' s => v_ixT (n := 0) (val_var rfl) (val_var rfl) (SqT.of (s _ _ (s2' _ _ e13))) rfl) (la.same s2') (lb.same s2') (l1.same s2') (B1 bqa da) (B1 bqb db) (B1 bs1 ds1) fun f H' F s nf ln => q2 _ H' s ⟨f, F, rfl, nd nf, .inl ⟨rfl, ln⟩⟩
    | 1, _ => exact c_form (fun H' s => v_ixL (n := 2) (val_var rfl) (v_mul (i := 2) (j := 1) val_c (val_var rfl) (.inl ⟨by decide, by decide⟩)) (SqL.of (s _ _ (s2' _ _ em))) rfl) (fun H' s => v_ixL (n := 3) (val_var rfl) (v_add (i := 2) (j := 1) (v_mul (i := 2) (j := 1) val_c (val_var rfl) (.inl ⟨by decide, by decide⟩)) val_c) (SqL.of (s _ _ (s2' _ _ em))) rfl) (fun H' s => v_ixT (n := 1) (val_var rfl) (val_var rfl) (SqT.of (s _ _ (s2' _ _ e13))) rfl) (lc.same s2') (ld.same s2') (l2.same s2') (B1 bqc dc) (B1 bqd dd) (B1 bs2 ds2) fun f H' F s nf ln => q2 _ H' s ⟨f, F, rfl, nd nf, .inr ⟨rfl, ln⟩⟩
  obtain ⟨f0, f1, F0, F1, rfl, nf0, nf1, ln0, ln1⟩ : ∃ f0 f1 F0 F1, ws = [V.ref f0, V.ref f1] ∧ f0 ≠ d ∧ f1 ≠ d ∧ Ln H20 f0 F0 qa qb s1 Δ2 3 ∧ Ln H20 f1 F1 qc qd s2 Δ2 3 := by
    obtain ⟨rr, len⟩ := r20
    match ws, len, rr with
    | [v0, v1], _, ⟨⟨f0, F0, e0, nn0, h0⟩, ⟨f1, F1, e1, nn1, h1⟩, _⟩ =>
      subst e0 e1
      refine ⟨f0, f1, F0, F1, rfl, nn0, nn1, ?_, ?_⟩
      · rcases h0 with ⟨_, h⟩ | ⟨z, _⟩
        · exact h
        · omega
      · rcases h1 with ⟨z, _⟩ | ⟨_, h⟩
        · omega
        · exact h
  have sk := sk.same s20
  have lm := lm.same s20
  have em := s20 _ _ em
  have e13 := s20 _ _ e13
  have e14 := s20 _ _ e14
  have l1 := l1.same s20
  have l2 := l2.same s20
  have lpx := lpx.same s20
  have lpy := lpy.same s20
  clear s20 n20 r20 la lb lc ld
  show tSeq _ _ _ [some (.ref a), some (.ref p), some (.int (i : Int)), some (.ref d), some (.ref A), some (.ref a5), some (.ref a6), some (.ref O), some (.ref tq), some (.ref t9), z10, z11, some (.ref ml), some (.ref a13), some (.ref a14), some (.ref fl), z16, z17, z18, z19] _
  -- moved
  obtain ⟨dxA, tA, eA, losA, _⟩ := id sk.pa
  refine q_asg ((val_var rfl) _ ⟨A, dxA, _, rfl, eA, no_at "moved" (by decide +kernel), ?_⟩)
  refine va_x (c_call (va_cons (val_var rfl) (va_cons (val_var rfl) va_nil)) ⟨p, c, ml, [qa, qb, qc, qd], _, rfl, sk.pen, lm.los, four_all mqa.fin10 mqb.fin10 mqc.fin10 mqd.fin10, by show 4 ≤ 4; decide, by omega, fun w1 H21 a21 ys21 w1e sq21 al21 b21 P21 => ?_⟩)
  subst w1e
  have lm := lm.but b21 sk.pen
  have e20 := lst_but sk.pen b21 e20
  have ln0 := ln0.but sk.pen b21
  have ln1 := ln1.but sk.pen b21
  have e13 := tup_but sk.pen b21 e13
  have e14 := tup_but sk.pen b21 e14
  have l1 := b21.lo sk.pen l1
  have l2 := b21.lo sk.pen l2
  have lpx := b21.lo sk.pen lpx
  have lpy := b21.lo sk.pen lpy
  have sk := sk.but b21 P21
  clear b21 P21 em eA losA
  refine va_1 (c_call (va_cons (val_var rfl) (va_cons (val_var rfl) va_nil)) ⟨p, c, a13, [s1, s2], _, rfl, sk.pen, ⟨_, .inr e13, .cons ⟨psa, rfl, l1⟩ (.cons ⟨pta, rfl, l2⟩ .nil)⟩, two_fin ms1 ms2, by show 2 ≤ 4; decide, by omega, fun w2 H22 a22 ys22 w2e sq22 al22 b22 P22 => ?_⟩)
  subst w2e
  have lm := lm.but b22 sk.pen
  have e20 := lst_but sk.pen b22 e20
  have ln0 := ln0.but sk.pen b22
  have ln1 := ln1.but sk.pen b22
  have e13 := tup_but sk.pen b22 e13
  have e14 := tup_but sk.pen b22 e14
  have l1 := b22.lo sk.pen l1
  have l2 := b22.lo sk.pen l2
  have lpx := b22.lo sk.pen lpx
  have lpy := b22.lo sk.pen lpy
  have sq21 := SqBut sq21 sk.pen b22
  have al21 : All2 (Rq H22) ys21 [qa, qb, qc, qd] := al21.imp fun _ _ h => h.but sk.pen b22
  have sk := (sk.but b22 P22).le (show _ ≤ 1500 + 1000 * i by omega)
  clear b22 P22
  obtain ⟨x1, x2, x3, x4, rfl, r1, r2, r3, r4⟩ := all4 al21
  obtain ⟨y1, y2, rfl, r5, r6⟩ := all2 al22
  obtain ⟨z1', z2', z3'⟩ := mv_sz Δ2p Δ60
  refine ⟨A, a21, a22, rfl, x1, x2, x3, x4, y1, y2, R, qa, qb, qc, qd, s1, s2, L9, 4, 5, Δ2, 3, sk.pa, sq21, sq22, r1, r2, r3, r4, r5, r6, nR, fz4, by decide, six_all (B1 bqa da) (B1 bqb db) (B1 bqc dc) (B1 bqd dd) (B1 bs1 ds1) (B1 bs2 ds2), six_all (mqa.mono (by decide)) (mqb.mono (by decide)) (mqc.mono (by decide)) (mqd.mono (by decide)) (ms1.mono (by decide)) (ms2.mono (by decide)), by decide, by decide, Δ2p, z1', z2', fun M2 H23 R2 s23 pm nR2 vR2 => ?_⟩
  have sk := sk.same s23
  have lm := lm.same s23
  have e20 := s23 _ _ e20
  have ln0 := ln0.same s23
  have ln1 := ln1.same s23
  have e13 := s23 _ _ e13
  have e14 := s23 _ _ e14
  have l1 := l1.same s23
  have l2 := l2.same s23
  have lpx := lpx.same s23
  have lpy := lpy.same s23
  clear s23 sq21 al21 sq22 al22 r1 r2 r3 r4 r5 r6 z1' z2'
  have nR2 : Nice (L9 * Δ2 ^ 5) MA 5 R2 := nR2
  obtain ⟨dxM, tM, eM, losM, caM⟩ := id pm
  show tSeq _ _ _ [some (.ref a), some (.ref p), some (.int (i : Int)), some (.ref d), some (.ref A), some (.ref a5), some (.ref a6), some (.ref O), some (.ref tq), some (.ref t9), z10, z11, some (.ref ml), some (.ref a13), some (.ref a14), some (.ref fl), z16, some (.ref M2), z18, z19] _
  -- the dicts
  refine q_ifOr (not_in (tt_in ((v_isO (val_var rfl) (TP.tyI pm) (kit_self K _)) _ ⟨_, rfl, iteN (by decide) (t_op (c_call (va_cons (val_var rfl) va_nil) ⟨M2, R2, L9 * Δ2 ^ 5, MA, 5, rfl, pm, nR2, by decide, fun q1 H24 N1 s24 nq1 pd1 => ?_⟩))⟩)))
  refine c_call (va_cons (val_var rfl) (va_cons (val_var rfl) va_nil)) ⟨d, fl, f0, f1, L, F0, F1, L9, 4, Δ2, 3, 5, rfl, sk.dw.same s24, s24 _ _ e20, (ln0.same s24).dw, (ln1.same s24).dw, nf0, nf1, kf5.deg, ln0.dg, ln1.dg, fun i j => by rw [← cR]; exact nR.bd i j, ln0.bd, ln1.bd, by decide, by decide, by decide, by decide, by decide, Δ2p, put_sz Δ2p Δ60, fun q2 H25 N2 s25 nq2 dN2 gN2 vN2 bN2 nz2 => ?_⟩
  refine dicts_ne (pd1.dw.same s25) dN2 pd1.nz nz2 (same_vals fun x y => ?_) ⟨_, rfl, iteF ?_⟩
  · rw [ev_sameN pd1.cf nR2 caM pd1.dg, vR2, vN2, ln0.ev, ln1.ev, evR]
  have S25 := s24.trans s25
  have sk := sk.same S25
  have lm := lm.same S25
  have e13 := S25 _ _ e13
  have e14 := S25 _ _ e14
  have l1 := l1.same S25
  have l2 := l2.same S25
  have lpx := lpx.same S25
  have lpy := lpy.same S25
  have pm := pm.same S25
  clear eM losM s24 s25 pd1 dN2 gN2 vN2 bN2 nz2 nq1 nq2 ln0 ln1 e20 S25
  -- at the place
  obtain ⟨dxM, tM, eM, losM, _⟩ := id pm
  have P20 : X.den * Y.den ≤ 2 ^ 20 := mul2 (d10 mX) (d10 mY)
  have P0' : 0 < X.den * Y.den := Nat.mul_pos X.den_pos Y.den_pos
  refine q_un (t_op ((val_var rfl) _ ⟨M2, dxM, _, rfl, eM, no_at "at" (by decide +kernel), (va_cons (val_var rfl) va_nil) _ ⟨M2, .ref a14, R2, rfl, pm, (X, Y), L9 * Δ2 ^ 5, MA, 5, 11, 470, X.den * Y.den, 3, ⟨a14, _, _, rfl, .inr e14, lpx.rq mX (by decide), lpy.rq mY (by decide)⟩, nR2, bat_moved Δ2p Δ60 P0' P20, (bdn bX).mono (Nat.dvd_mul_right _ _) (Nat.le_refl _), (bdn bY).mono (Nat.dvd_mul_left _ _) (Nat.le_refl _), fun r1 H26 s26 lo1 => ?_⟩⟩))
  have sk := sk.same s26
  obtain ⟨dxA, tA, eA, losA, _⟩ := id sk.pa
  have sf1 : Sm 60 (qa * X + qb * Y + s1) := ((((mqa.mul mX).add (mqb.mul mY)).add ms1)).mono (by decide)
  have sf2 : Sm 60 (qc * X + qd * Y + s2) := ((((mqc.mul mX).add (mqd.mul mY)).add ms2)).mono (by decide)
  have F80 : Δ2 * (X.den * Y.den) ≤ 2 ^ 80 := Nat.le_trans (Nat.mul_le_mul Δ60 P20) (by decide)
  refine (val_var rfl) _ ⟨A, dxA, _, rfl, eA, no_at "at" (by decide +kernel), va_1 (c_call (va_cons (val_var rfl) (va_cons (val_var rfl) (va_cons (val_var rfl) va_nil))) ⟨ml, a13, a14, psa, pta, pxa, pya, qa, qb, qc, qd, s1, s2, X, Y, rfl, lm.same s26, s26 _ _ e13, l1.same s26, l2.same s26, s26 _ _ e14, lpx.same s26, lpy.same s26, eight_all mqa mqb mqc mqd ms1 ms2 mX mY, fun tf u1 u2 H27 s27 etf lo3 lo4 => ?_⟩)⟩
  refine ⟨A, .ref tf, R, rfl, sk.pa.same s27, (qa * X + qb * Y + s1, qc * X + qd * Y + s2), L9, 4, 5, 43, 140, Δ2 * (X.den * Y.den), 21, ⟨tf, _, _, rfl, .inr etf, lo3.rq sf1 (by decide), lo4.rq sf2 (by decide)⟩, nR, bat_flow (Nat.mul_pos Δ2p P0') F80, flow_bd bqa bqb bs1 bX bY da db ds1, flow_bd bqc bqd bs2 bX bY dc dd ds2, fun r2 H28 s28 lo2 => lo_ne ((lo1.same s27).same s28) lo2 (vR2 X Y) ⟨_, rfl, iteF ?_⟩⟩
  have sk := (sk.same s27).same s28
  clear eM losM pm lm e13 e14 l1 l2 lpx lpy s26 s27 s28 lo1 lo2 lo3 lo4 etf eA losA sf1 sf2 F80 P20 P0'
  -- values that are no places
  refine q_two (show tTup _ _ _ _ from tup_two (call_1 ((val_var rfl) _ (va_1 (l_s (va_s val_c (va_x (l_tup (va_cons val_c va_nil) (by show 1 ≤ 100000; decide) fun t1 h1 => va_x (tup_two (val_c _ (c_call (va_cons (val_var rfl) va_nil) ⟨p, c, _, rfl, sk.pen.same (Same.new' h1), by omega, fun x2 H30 ox2 _ b30 P30 => ⟨by decide, fun t2 h2 => ?_⟩⟩)))))))))))
  have n1' := Same.new' (o := .tup [.int 1]) h1
  have sk1 := sk.same n1'
  have sk2 := sk1.but b30 P30
  have n2 := Same.new' (o := .tup [.int 1, x2]) h2
  refine va_s val_c (va_1 (l_lst (va_cons val_c (va_cons val_c (va_cons val_c va_nil))) (by show 3 ≤ 100000; decide) fun l3 h3 => ⟨by show 5 ≤ sizeLine; decide, fun ql hql => ?_⟩))
  have n3 := Same.new' (o := .lst [.int 1, .int 2, .int 3]) h3
  have n4 := Same.new' (o := .lst [.non, .ref t1, .ref t2, .str "ab", .ref l3]) hql
  have N := (n2.trans n3).trans n4
  refine ⟨p, c, ql, [.non, .ref t1, .ref t2, .str "ab", .ref l3], _, rfl, sk2.pen.same N, by omega, SqL.of upd_same, by show 0 < 5; decide, by show 5 < 1000000000; decide, fun odd H31 hodd b31 P31 => ?_⟩
  have od : OdA H31 odd := by
    have P' := sk2.pen.same N
    simp only [List.mem_cons, List.not_mem_nil, or_false] at hodd
    rcases hodd with rfl | rfl | rfl | rfl | rfl
    · exact .non
    · exact OdA.but (.one (N _ _ (tup_but sk1.pen b30 upd_same))) P' b31
    · exact OdA.but (.two (n4 _ _ (n3 _ _ upd_same)) (ox2.same N)) P' b31
    · exact .str
    · exact OdA.but (.lst (n4 _ _ upd_same)) P' b31
  have sk := (sk2.same N).but b31 P31
  clear sk1 sk2 n1' n2 n3 n4 N h1 h2 h3 hql b30 P30 b31 P31 ox2 hodd
  refine call_1 ((val_var rfl) _ (va_1 (l_s (va_s val_c (va_x (l_tup va_nil (by show 0 ≤ 100000; decide) fun t1 h1 => va_1 (l_tup (va_cons val_c (va_cons val_c va_nil)) (by show 2 ≤ 100000; decide) fun t2 h2 => ⟨by show 3 ≤ sizeLine; decide, fun ql hql => ?_⟩)))))))
  have n1' := Same.new' (o := .tup []) h1
  have n2 := Same.new' (o := .tup [.non, .int 1]) h2
  have n3 := Same.new' (o := .lst [.int 5, .ref t1, .ref t2]) hql
  have N := (n1'.trans n2).trans n3
  refine ⟨p, c, ql, [.int 5, .ref t1, .ref t2], _, rfl, sk.pen.same N, by omega, SqL.of upd_same, by show 0 < 3; decide, by show 3 < 1000000000; decide, fun bad H32 hbad b32 P32 => ⟨by decide, fun zt hzt => g_two (SqT.of upd_same) ?_⟩⟩
  have ob : OdB H32 bad := by
    have P' := sk.pen.same N
    simp only [List.mem_cons, List.not_mem_nil, or_false] at hbad
    rcases hbad with rfl | rfl | rfl
    · exact .int
    · exact OdB.but (.nil (n3 _ _ (n2 _ _ upd_same))) P' b32
    · exact OdB.but (.two (n3 _ _ upd_same)) P' b32
  have od := (od.same N).but (sk.pen.same N) b32
  have nz' := Same.new' (o := .tup [odd, bad]) hzt
  have sk := (((sk.same N).but b32 P32).same nz').le (show _ ≤ 1550 + 1000 * i by omega)
  have od := od.same nz'
  have ob := ob.same nz'
  clear n1' n2 n3 N h1 h2 hql b32 P32 hbad nz'
  revert od ob sk
  generalize upd H32 zt (.tup [odd, bad]) = H33
  intro sk od ob
  clear hzt
  show tSeq _ _ _ [some (.ref a), some (.ref p), some (.int (i : Int)), some (.ref d), some (.ref A), some (.ref a5), some (.ref a6), some (.ref O), some (.ref tq), some (.ref t9), z10, z11, some (.ref ml), some (.ref a13), some (.ref a14), some (.ref fl), z16, some (.ref M2), some odd, some bad] _
  -- what along refuses
  have T33 := sk.tab
  have P0 := sk.pen.bare
  have pa0 := sk.pa.bare
  have od0 := od.bare
  have ob0 := ob.bare
  have nt := bare_no H33
  have sS := bare_in H33
  revert P0 pa0 od0 ob0 nt sS
  generalize bareH H33 = S0
  intro P0 pa0 od0 ob0 nt sS
  obtain ⟨dO, fO⟩ := od0.fine (K := K)
  obtain ⟨dB, fB⟩ := ob0.fine (K := K)
  obtain ⟨dxA, tA, eA, losA, _⟩ := id pa0
  refine q_un (tt_in (why_rowne (i := 18) rfl nt sS T33 fO (fun H1 E1 Q1 s bd => ?_) fun H34 x34 T34 => ⟨false, rfl, iteF ?_⟩))
  · exact (val_var rfl) _ ⟨A, dxA, _, rfl, s _ _ eA, no_at "along" (by decide +kernel), (va_cons (val_var rfl) (va_cons (val_var rfl) va_nil)) _ ⟨A, odd, bad, R, rfl, pa0.same s, .inr (.inl ⟨od0.no.same s, bd⟩)⟩⟩
  have sS4 := ext_same nt sS x34
  refine q_un (tt_in (why_rowne (i := 19) rfl nt sS4 T34 fB (fun H1 E1 Q1 s bd => ?_) fun H35 x35 T35 => ⟨false, rfl, iteF ?_⟩))
  · refine (val_var rfl) _ ⟨A, dxA, _, rfl, s _ _ eA, no_at "along" (by decide +kernel), va_x (l_tup (va_cons val_c (va_cons val_c va_nil)) (by show 2 ≤ 100000; decide) fun z hz => va_1 ((val_var rfl) _ ?_))⟩
    have nz := Same.new' (o := .tup [.int 0, .int 1]) hz
    exact ⟨A, .ref z, bad, R, rfl, (pa0.same s).same nz, .inr (.inr ⟨PlQ.seq (bs := [true, true]) (.inr upd_same) (by show 2 ≤ 1000; decide) (.cons (.int _) (.cons (.int _) .nil)), (ob0.no.same s).same nz, fun dd H' s' n e => bd dd H' (nz.trans s') (Same.free nz n) e⟩)⟩
  have sS5 := ext_same nt sS4 x35
  have P5 := P0.same sS5
  have pa5 := pa0.same sS5
  have od5 := od0.same sS5
  have ob5 := ob0.same sS5
  clear sk od ob T33 P0 pa0 od0 ob0 nt sS fO fB eA losA x34 T34 sS4 x35 sS5
  -- values that are no rows of four
  refine q_asg (call_1 ((val_var rfl) _ (va_1 (l_s (va_s (val_var rfl) (va_x (t_four (val_c _ (val_c _ (val_c _ (c_call (va_cons (val_var rfl) va_nil) ⟨p, c, _, rfl, P5, by omega, fun x2 H36 ox2 _ b36 P36 => ⟨by decide, fun t2 h2 => ?_⟩⟩)))))))))))
  have n2 := Same.new' (o := .tup [.int 1, .int 0, .int 0, x2]) h2
  refine va_x (call_any4 (c_call (va_cons (val_var rfl) va_nil) ⟨p, c, _, rfl, P36.same n2, by omega, fun x3 H37 ox3 _ b37 P37 => ⟨by show 4 ≤ sizeLine; decide, fun l3 h3 => ?_⟩⟩))
  have n3 := Same.new' (o := .lst [x3, .int 0, .int 0, .int 1]) h3
  refine va_1 (l_tup (va_cons val_c (va_cons val_c (va_cons val_c (va_cons val_c (va_cons val_c va_nil))))) (by show 5 ≤ 100000; decide) fun t4 h4 => ⟨by show 4 ≤ sizeLine; decide, fun ql hql => ?_⟩)
  have n4 := Same.new' (o := .tup [.int 1, .int 0, .int 0, .int 1, .int 0]) h4
  have n5 := Same.new' (o := .lst [odd, .ref t2, .ref l3, .ref t4]) hql
  have N := (n3.trans n4).trans n5
  refine ⟨p, c, ql, [odd, .ref t2, .ref l3, .ref t4], _, rfl, P37.same N, by omega, SqL.of upd_same, by show 0 < 4; decide, by show 4 < 1000000000; decide, fun odd2 H38 hodd b38 P38 => ?_⟩
  have tr : ∀ {G : Hp → Prop}, G H35 → (∀ {H H' : Hp}, G H → L2.Same H H' → G H') → (∀ {H H' : Hp} {m : Nat}, G H → PenAt H p c m → But p H H' → G H') → G H38 := fun g gs gb => gb (gs (gb (gs (gb g P5 b36) n2) (P36.same n2) b37) N) (P37.same N) b38
  have pa8 := tr (G := fun H => PnAt (pnA mg) H A R) pa5 (fun g s => g.same s) (fun g P b => g.but P b)
  have ob8 := tr (G := fun H => OdB H bad) ob5 (fun g s => g.same s) (fun g P b => g.but P b)
  have T8 := tr (G := fun H => LamX.Tabs Tb H) T35 (fun g s => Tabs.same g s) (fun g P b => Tabs.but g P b)
  have oc8 : OdC H38 odd2 := by
    simp only [List.mem_cons, List.not_mem_nil, or_false] at hodd
    rcases hodd with rfl | rfl | rfl | rfl
    · exact .old (tr (G := fun H => OdA H odd2) od5 (fun g s => g.same s) (fun g P b => g.but P b))
    · exact OdC.but (.end_ (N _ _ (tup_but (P36.same n2) b37 upd_same)) (((ox2.same n2).but (P36.same n2) b37).same N)) (P37.same N) b38
    · exact OdC.but (.fst (n5 _ _ (n4 _ _ upd_same)) (ox3.same N)) (P37.same N) b38
    · exact OdC.but (.five (n5 _ _ upd_same)) (P37.same N) b38
  have P8 := P38.le (show _ ≤ 1600 + 1000 * i by omega)
  clear tr P5 pa5 od5 ob5 T35 b36 P36 n2 h2 b37 P37 n3 h3 n4 h4 n5 hql N P38 b38 hodd ox2 ox3
  show tSeq _ _ _ [some (.ref a), some (.ref p), some (.int (i : Int)), some (.ref d), some (.ref A), some (.ref a5), some (.ref a6), some (.ref O), some (.ref tq), some (.ref t9), z10, z11, some (.ref ml), some (.ref a13), some (.ref a14), some (.ref fl), z16, some (.ref M2), some odd2, some bad] _
  -- what moved refuses
  have P0 := P8.bare
  have pa0 := pa8.bare
  have oc0 := oc8.bare
  have ob0 := ob8.bare
  have nt := bare_no H38
  have sS := bare_in H38
  revert P0 pa0 oc0 ob0 nt sS
  generalize bareH H38 = S1
  intro P0 pa0 oc0 ob0 nt sS
  obtain ⟨dO, fO⟩ := oc0.fine (K := K)
  obtain ⟨dB, fB⟩ := ob0.fine (K := K)
  obtain ⟨dxA, tA, eA, losA, _⟩ := id pa0
  refine q_un (tt_in (why_rowne (i := 18) rfl nt sS T8 fO (fun H1 E1 Q1 s bd => ?_) fun H39 x39 T39 => ⟨false, rfl, iteF ?_⟩))
  · exact (val_var rfl) _ ⟨A, dxA, _, rfl, s _ _ eA, no_at "moved" (by decide +kernel), (va_cons (val_var rfl) (va_cons (val_var rfl) va_nil)) _ ⟨A, odd2, bad, rfl, .inl ⟨oc0.norow.same s, bd⟩⟩⟩
  have sS4 := ext_same nt sS x39
  refine st_unN (tt_in (why_rowne (i := 19) rfl nt sS4 T39 fB (fun H1 E1 Q1 s bd => ?_) fun H40 x40 T40 => ⟨false, rfl, iteF ?_⟩))
  · refine (val_var rfl) _ ⟨A, dxA, _, rfl, s _ _ eA, no_at "moved" (by decide +kernel), va_x (l_tup (va_cons val_c (va_cons val_c (va_cons val_c (va_cons val_c va_nil)))) (by show 4 ≤ 100000; decide) fun z hz => va_1 ((val_var rfl) _ ?_))⟩
    have nz := Same.new' (o := .tup [.int 1, .int 0, .int 0, .int 1]) hz
    exact ⟨A, .ref z, bad, rfl, .inr ⟨RwQ.seq (bs := [true, true, true, true]) (.inr upd_same) (by show 4 ≤ 1000; decide) (.cons (.int _) (.cons (.int _) (.cons (.int _) (.cons (.int _) .nil)))), (ob0.no.same s).same nz, fun dd H' s' n e => bd dd H' (nz.trans s') (Same.free nz n) e⟩⟩
  have sS5 := ext_same nt sS4 x40
  exact ⟨_, _, _, _, _, _, _, _, _, _, _, _, _, _, _, _, _, _, rfl, (P0.same sS5).le (by omega), T40⟩
end
end LW

/-! The law's end where several defs of the text make lambdas, and nothing is being shown. -/
namespace GL
open PySem PySem.Spec PyProof.Rows L2
section
variable {P : Program} {w : World} {K : PySem.W.Frag} {mg mb : Str → Option Value} {k : Nat} {fa a : Addr} {ts : List (Addr × Addr)} {fd : FuncData} {x : Str} {sp : Sp} {s₁ : Shared} {vs : List Value} {ns : List Int}
/-- from one abstract heap that knows the table, and the script at most -/
theorem law_fromT (KX : K.In s₁.heap) (hns : s₁.heap.Ns mainGlobals mg) (hb : s₁.heap.Ns builtinsNs mb) (hbb : ∀ x : Str, x ≠ "__name__" → mb x = bootBuiltins x) (hlim : s₁.heap.NoLimit) (hg : s₁.gens = #[])
    (hTs : ∀ p ∈ ts, s₁.heap.get? p.2 = some { cls := .none, data := .fields #[] } ∧ K.lookup p.2 = none ∧ PySem.W.codeHdIn K p.1 p.2 = true)
    (hbm : ∃ (bm : Addr) (ob : Obj), mg "__builtins__" = some (.ref bm) ∧ bm ≠ builtinsNs ∧ s₁.heap.get? bm = some ob ∧ ob.cls = .type "module" ∧ ob.dict = some builtinsNs ∧ ob.data = .plain)
    (ha : s₁.heap.get? a = some { cls := .type "list", data := .seq vs.toArray }) (hr : Room k callerA)
    (F : ∀ base : Heap, K.In base → base.Ns mainGlobals mg → (∀ p ∈ ts, LamX.TabB base mg p.1 p.2) → OkG P w K mg base CX0 k fa fd [x] sp) (hbind : ∀ (s : Shared) (u : Value), BindsTo s fd ⟨[u], []⟩ [(x, u)])
    {H : Hp} (hH : ∀ p ∈ ts, H p.2 = some (.tbl #[])) (hO : ∀ b, b ∉ ts.map Prod.snd → H b = none ∨ ∃ o xs, H b = some (.frz o (.lst xs))) (hsp : sp [.ref a] H (fun v _ => v = .bl true) fun _ _ _ => False) (hok : HOk P w H s₁.heap) (hA : ∀ b, b ∉ ts.map Prod.snd → H b ≠ none → b = a)
    (hK : H a ≠ none → K.lookup a = none) : Law P w fa a s₁ := by
  have free : ∀ {b : Addr} {o : Obj}, s₁.heap.get? b = some o → (∀ xs m, o.data ≠ .seq xs m) → o.data ≠ .fields #[] → H b = none := fun {b o} e d1 d2 => by
    by_cases q : b ∈ ts.map Prod.snd
    · obtain ⟨p, hp, rfl⟩ := List.mem_map.mp q
      rw [(hTs p hp).1] at e
      cases e
      exact (d2 rfl).elim
    · refine Decidable.byContradiction fun z => ?_
      have q2 := hA b q z
      rw [q2, ha] at e
      cases e
      exact d1 _ _ rfl
  have kFree : ∀ {b : Addr} {o : Obj}, K.lookup b = some o → H b = none := fun {b o} e => Decidable.byContradiction fun z => by
    by_cases q : b ∈ ts.map Prod.snd
    · obtain ⟨p, hp, rfl⟩ := List.mem_map.mp q
      rw [(hTs p hp).2.1] at e
      cases e
    · have q2 := hA b q z
      subst q2
      rw [hK z] at e
      cases e
  have dict : ∀ {b : Addr} {o : Obj} {es : Array DictEntry} {ep : Nat}, s₁.heap.get? b = some o → o.data = .dict es ep → H b = none := fun {b o es ep} e d =>
    free e (fun xs m z => by rw [d] at z; cases z) (fun z => by rw [d] at z; cases z)
  have names : ∀ {b : Addr} {m : Str → Option Value}, s₁.heap.Ns b m → (hidT s₁.heap H).Ns b m := fun {b m} z => by
    obtain ⟨o, es, ep, e, d, r⟩ := z
    exact ⟨o, es, ep, hidT_get e (dict e d), d, r⟩
  have kIn' : K.In (hidT s₁.heap H) := fun b o e => hidT_get (KX b o e) (kFree e)
  have TB : ∀ p ∈ ts, LamX.TabB (hidT s₁.heap H) mg p.1 p.2 := fun p hp => by
    obtain ⟨hTab, nTab, hCd⟩ := hTs p hp
    have gP : mainGlobals ≠ p.2 := fun z => by
      obtain ⟨o, es, ep, e, d, _⟩ := hns
      rw [z, hTab] at e
      cases e
      cases d
    refine ⟨PySem.W.codeHd_of_K kIn' hCd, ?_, gP⟩
    obtain ⟨bm, ob, q1, q2, q3, q4, q5, q6⟩ := hbm
    have nG : bm ≠ mainGlobals := fun z => by
      obtain ⟨o, es, ep, e, d, _⟩ := hns
      rw [z, e] at q3
      cases q3
      rw [d] at q6
      cases q6
    have nP : bm ≠ p.2 := fun z => by
      rw [z, hTab] at q3
      cases q3
      cases q6
    exact ⟨bm, ob, q1, q2, nG, nP, hidT_get q3 (free q3 (fun xs m z => by rw [q6] at z; cases z) (fun z => by rw [q6] at z; cases z)), q4, q5, q6⟩
  obtain ⟨mc, l1, l2⟩ := hlim
  have e0 : Env0 P w K mg (hidT s₁.heap H) callerA [] s₁ H := ⟨rfl, ⟨kIn', names hns, ⟨mb, names hb, hbb⟩, ⟨mc, names l1, l2⟩⟩, fun b o e => of_hidT e, Nat.le_of_eq (hidT_size _ _), trivial, (fun b z => nomatch z), hok, .of_eq hg⟩
  have run := (F _ kIn' (names hns) TB).run callerA [] s₁ H ⟨[.ref a], []⟩ [.ref a] [.ref a] _ _ hr rfl e0 (hbind s₁ (.ref a)) (.cons rfl .nil) hsp
  refine codeAny_mono run fun r s' z => ?_
  cases r with
  | error e => exact z.elim
  | ok fl => cases fl with
    | next => exact z.elim
    | brk => exact z.elim
    | cont => exact z.elim
    | ret u =>
      obtain ⟨v, H', os, bare, un, hok', rv, ev⟩ := z
      have ev' : v = .bl true := ev
      subst ev'
      cases (show u = Value.bool true from rv)
      have stay : ∀ b o, b ∉ ts.map Prod.snd → s₁.heap.get? b = some o → s'.heap.get? b = some o := fun b o n e => by
        rcases hO b n with q | ⟨ob, xs, q⟩
        · exact un.keep b o e q (fun z => nomatch z) (fun z => nomatch z)
        · obtain ⟨e1, _⟩ := hok b _ q
          obtain ⟨e2, _⟩ := hok' b _ (un.frzs b ob _ q)
          rw [e] at e1
          cases e1
          exact e2
      refine ⟨rfl, ⟨fun b o e => ?_, fun b o e => ?_⟩, os, bare⟩
      · by_cases n : b ∈ ts.map Prod.snd
        · obtain ⟨p, hp, rfl⟩ := List.mem_map.mp n
          obtain ⟨hTab, nTab, hCd⟩ := hTs p hp
          obtain ⟨more, hm⟩ := un.tbls p.2 #[] (hH p hp)
          have now := hok' p.2 _ hm
          rw [hTab] at e
          cases e
          exact .inr (.inl ⟨((PySem.W.codeHd_of_K KX hCd).tab hTab).isCodeTable, rfl, #[], more, rfl, now⟩)
        · exact .inl (stay b o n e)
      · by_cases n : b ∈ ts.map Prod.snd
        · obtain ⟨p, hp, rfl⟩ := List.mem_map.mp n
          obtain ⟨more, hm⟩ := un.tbls p.2 #[] (hH p hp)
          exact ⟨_, hok' p.2 _ hm⟩
        · exact ⟨o, stay b o n e⟩
theorem law_callGT (KX : K.In s₁.heap) (hns : s₁.heap.Ns mainGlobals mg) (hb : s₁.heap.Ns builtinsNs mb) (hbb : ∀ x : Str, x ≠ "__name__" → mb x = bootBuiltins x) (hlim : s₁.heap.NoLimit) (hg : s₁.gens = #[])
    (hTs : ∀ p ∈ ts, s₁.heap.get? p.2 = some { cls := .none, data := .fields #[] } ∧ K.lookup p.2 = none ∧ PySem.W.codeHdIn K p.1 p.2 = true)
    (hbm : ∃ (bm : Addr) (ob : Obj), mg "__builtins__" = some (.ref bm) ∧ bm ≠ builtinsNs ∧ s₁.heap.get? bm = some ob ∧ ob.cls = .type "module" ∧ ob.dict = some builtinsNs ∧ ob.data = .plain)
    (ha : s₁.heap.get? a = some { cls := .type "list", data := .seq vs.toArray }) (hi : IntsAre vs ns) (hl : ns.length ≤ sizeLine) (hr : Room k callerA)
    (F : ∀ base : Heap, K.In base → base.Ns mainGlobals mg → (∀ p ∈ ts, LamX.TabB base mg p.1 p.2) → OkG P w K mg base CX0 k fa fd [x] sp) (hbind : ∀ (s : Shared) (u : Value), BindsTo s fd ⟨[u], []⟩ [(x, u)])
    (hsp : ∀ H : Hp, (∀ p ∈ ts, H p.2 = some (.tbl #[])) → SqL K H a (ns.map V.int) → sp [.ref a] H (fun v _ => v = .bl true) fun _ _ _ => False) : Law P w fa a s₁ := by
  have rv := vals_ints hi
  have na : a ∉ ts.map Prod.snd := fun z => by
    obtain ⟨p, hp, e⟩ := List.mem_map.mp z
    rw [← e, (hTs p hp).1] at ha
    cases ha
  let H0 : Hp := fun b => if b ∈ ts.map Prod.snd then some (.tbl #[]) else none
  have t0' : ∀ b, b ∈ ts.map Prod.snd → H0 b = some (.tbl #[]) := fun b z => if_pos z
  have t0 : ∀ p ∈ ts, H0 p.2 = some (.tbl #[]) := fun p hp => t0' _ (List.mem_map.mpr ⟨p, hp, rfl⟩)
  have o0 : ∀ b, b ∉ ts.map Prod.snd → H0 b = none := fun b z => if_neg z
  cases hk : K.lookup a with
  | some o =>
    have e := KX a o hk
    rw [ha] at e
    cases e
    have hS : SqL K H0 a (ns.map V.int) := .inr ⟨_, vs.toArray, _, hk, rfl, rfl, rfl, by rw [List.size_toArray, hi.length]; exact hl, by simpa using rv⟩
    refine law_fromT KX hns hb hbb hlim hg hTs hbm ha hr F hbind t0 (fun b n => .inl (o0 b n)) (hsp H0 t0 hS) (fun b u z => ?_) (fun b n z => (z (o0 b n)).elim) (fun z => (z (o0 a na)).elim)
    by_cases q : b ∈ ts.map Prod.snd
    · rw [t0' b q] at z
      cases z
      obtain ⟨p, hp, rfl⟩ := List.mem_map.mp q
      exact (hTs p hp).1
    · rw [o0 b q] at z
      cases z
  | none =>
    let H1 : Hp := upd H0 a (.frz { cls := .type "list", data := .seq vs.toArray } (.lst (ns.map V.int)))
    have a1 : H1 a = some (.frz { cls := .type "list", data := .seq vs.toArray } (.lst (ns.map V.int))) := upd_same
    have t1' : ∀ b, b ∈ ts.map Prod.snd → H1 b = some (.tbl #[]) := fun b z => (upd_ne (fun e => na (by rw [← e]; exact z))).trans (t0' b z)
    have t1 : ∀ p ∈ ts, H1 p.2 = some (.tbl #[]) := fun p hp => t1' _ (List.mem_map.mpr ⟨p, hp, rfl⟩)
    have o1 : ∀ b, b ∉ ts.map Prod.snd → b ≠ a → H1 b = none := fun b z y => (upd_ne y).trans (o0 b z)
    refine law_fromT KX hns hb hbb hlim hg hTs hbm ha hr F hbind t1 (fun b n => ?_) (hsp H1 t1 (.inl (.inr ⟨_, a1⟩))) (fun b u z => ?_) (fun b n z => Decidable.byContradiction fun q => z (o1 b n q)) (fun _ => hk)
    · by_cases q : b = a
      · rw [q]
        exact .inr ⟨_, _, a1⟩
      · exact .inl (o1 b n q)
    · by_cases q : b = a
      · subst q
        rw [a1] at z
        cases z
        exact ⟨ha, by rw [List.length_map]; exact hl, vs, _, rv, ha⟩
      · by_cases q2 : b ∈ ts.map Prod.snd
        · rw [t1' b q2] at z
          cases z
          obtain ⟨p, hp, rfl⟩ := List.mem_map.mp q2
          exact (hTs p hp).1
        · rw [o1 b q2 q] at z
          cases z
end
/-- what is known of the law's def -/
def LawT (P : Program) (w : World) (K : PySem.W.Frag) (k n : Nat) (x : Str) (mg : Str → Option Value) (fa : Addr) (h : Heap) : Prop :=
  ∃ (fd : FuncData) (ts : List (Addr × Addr)) (sp : Sp), (∀ p ∈ ts, h.get? p.2 = some { cls := .none, data := .fields #[] } ∧ K.lookup p.2 = none ∧ PySem.W.codeHdIn K p.1 p.2 = true) ∧ (∀ (s : Shared) (u : Value), BindsTo s fd ⟨[u], []⟩ [(x, u)]) ∧
    (∀ (H : Hp) (a : Addr) (ns : List Int), ns.length ≤ n → (∀ p ∈ ts, H p.2 = some (.tbl #[])) → SqL K H a (ns.map V.int) → sp [.ref a] H (fun v _ => v = .bl true) fun _ _ _ => False) ∧
    ∀ base : Heap, K.In base → base.Ns mainGlobals mg → (∀ p ∈ ts, LamX.TabB base mg p.1 p.2) → OkG P w K mg base CX0 k fa fd [x] sp
theorem walk_GT {l : PySem.W.OpenLaw} {n k : Nat} {q : Program} {loose : List Str} {XP : (Str → Option Value) → Heap → Prop} {YP : World → Heap → Prop} {d : DefRec} {K : Params → PySem.W.Frag} {x : Str}
    (hn : l.most = some n) (hn2 : n ≤ sizeLine) (hdf : d.params.defaults = []) (hr : Room k callerA) (hY : ∀ (w : World) (h : Heap), YP w h → (K w.params).In h)
    (F : ∀ (w : World) (mg : Str → Option Value) (fa : Addr) (h : Heap), YP w h → (K w.params).In h → h.Ns mainGlobals mg → mg d.name = some (.ref fa) → LawT l.prog w (K w.params) k n x mg fa h) :
    PySem.W.WalkO q loose XP YP l.row.toRowW d [] (fun f vs => PySem.call f vs) := by
  refine Att.attach_call hn hdf fun w s₀ s₁ mg mb fa o pm cd doc a vs ns G Y ho hd hcd hmg hobj hints hlen hg => ?_
  have KX := hY w _ Y
  obtain ⟨fd, ts, sp, hT, hbi, hsp, hF⟩ := F w mg fa _ Y KX G.T.g hmg
  exact law_callGT KX G.T.g G.T.b G.T.builtins G.T.nolimit hg hT G.T.bmain hobj hints (Nat.le_trans hlen hn2) hr hF hbi fun H hH hS => hsp H a ns hlen hH hS
end GL

namespace LW
open PySem PySem.Spec PyProof.Rows L2 GL
theorem fin_law {P : Program} {w : World} {K : PySem.W.Frag} {mg : Str → Option Value} {h : Heap} {cC cP : Addr} (T : Txt K mg) (TP : PlaneT K mg) (TO : PolyT K mg) (h1 : (fDat K (fA mg "law")).code = .ref cC)
    (tc : h.get? cP = some { cls := .none, data := .fields #[] }) (nc : K.lookup cP = none) (kc : PySem.W.codeHdIn K cC cP = true) :
    GL.LawT P w K 20 63 "_law_script" mg (fA mg "law") h := by
  let Tb : List (Addr × Str) := [(cP, (("law" : Str) ++ (".<locals>." : Str)) ++ ("<lambda>" : Str))]
  refine ⟨_, [(cC, cP)], spLaw (K := K) Tb, fun p hp => ?_, T.lb, fun H a ns hl hH hS => ⟨a, ns, rfl, hS, hl, fun p hp => ?_, fun _ => rfl⟩, fun base _ _ TB => ?_⟩
  · rw [List.mem_singleton.mp hp]
    exact ⟨tc, nc, kc⟩
  · rw [List.mem_singleton.mp hp]
    exact LamX.TabS.nil (hH (cC, cP) (List.mem_cons_self ..))
  · exact ok_law (Tb := Tb) T TP TO (TB (cC, cP) (List.mem_cons_self ..)) h1 (List.mem_cons_self ..) (fun p hp _ => by rw [List.mem_singleton.mp hp])
end LW

namespace LW
open PySem PySem.Spec PyProof.Rows L2 GL
theorem Me.mk' {K : PySem.W.Frag} {C f : Addr} {m q : Str} {st : Stmt} {ps : List Str} {oc : Value} {od an : Option Addr} {osl : Array (Option Value)} {kV doc pm cdv ct : Value} (i : PySem.W.findIn K (.ref C) m = some (some (.ref f))) (n : PySem.W.isFn K (.ref f) = true)
    (l : K.lookup f = some ⟨oc, od, .func (PySem.W.fnOf m q (defArgs st) (defBody st) (defScope st) .none kV doc pm an cdv ct), osl⟩) (c : PySem.W.codeIn K cdv q = true) (k : PySem.W.keepIn K (.ref f) = true)
    (bi : ∀ (kV doc pm : Value) (an : Option Addr) (cdv ct : Value) (us : List Value), us.length = ps.length → bindArgs (PySem.W.fnOf m q (defArgs st) (defBody st) (defScope st) .none kV doc pm an cdv ct) ⟨us, []⟩ = pure (ps.zip us)) : Me K C m q st ps := by
  have c2 : mA K C m = f := mA_of i
  have c3 := fDat_of l
  have F := fun_mk (st := st) l c k
  exact ⟨by rw [c2]; exact i, by rw [c2]; exact n, by rw [c2, c3]; exact F, by rw [c2, c3]; exact F.binds bi⟩
theorem planeT_of {K : PySem.W.Frag} {mg : Str → Option Value} {C f : Addr} (g : mg "Plane" = some (.ref C)) (cls : Cls K C) (mk : Mk K C f) (norows : NoAttr K C "rows")
    (m0 : Me K C "__init__" "Plane.__init__" (inClass tPlane 0) ["self", "rows"])
    (m1 : Me K C "__eq__" "Plane.__eq__" (inClass tPlane 1) ["self", "other"])
    (m2 : Me K C "__add__" "Plane.__add__" (inClass tPlane 2) ["self", "other"])
    (m3 : Me K C "__radd__" "Plane.__radd__" (inClass tPlane 3) ["self", "other"])
    (m4 : Me K C "__sub__" "Plane.__sub__" (inClass tPlane 4) ["self", "other"])
    (m5 : Me K C "__rsub__" "Plane.__rsub__" (inClass tPlane 5) ["self", "other"])
    (m6 : Me K C "__mul__" "Plane.__mul__" (inClass tPlane 6) ["self", "other"])
    (m7 : Me K C "__rmul__" "Plane.__rmul__" (inClass tPlane 7) ["self", "other"])
    (m8 : Me K C "__neg__" "Plane.__neg__" (inClass tPlane 8) ["self"])
    (m9 : Me K C "degree" "Plane.degree" (inClass tPlane 9) ["self"])
    (m10 : Me K C "at" "Plane.at" (inClass tPlane 10) ["self", "point"])
    (m11 : Me K C "slope_x" "Plane.slope_x" (inClass tPlane 11) ["self"])
    (m12 : Me K C "slope_y" "Plane.slope_y" (inClass tPlane 12) ["self"])
    (m13 : Me K C "along" "Plane.along" (inClass tPlane 13) ["self", "start", "step"])
    (m14 : Me K C "moved" "Plane.moved" (inClass tPlane 14) ["self", "matrix", "shift"])
    (me : PySem.W.selfFirst K C = true) (hc : PySem.W.findIn K (.ref C) "__class__" = some (some (.builtin "object.__class__"))) (hn : PySem.W.specialIn K (.builtin "object.__class__") "__get__" = some (some (.builtin "getset_descriptor.__get__"))) (ht : PySem.W.takesIn K (.builtin "object.__class__") = some true) (hm : PySem.W.mroIn K C (.type "object") = some true)
    (kf : ∀ T : String, T = "int" ∨ T = "tuple" → PySem.W.kitOne K (.type T) (.ref C) = some false) (s1 : ∀ T : String, T = "int" ∨ T = "tuple" → PySem.W.subIn K (.type T) (.ref C) = some false) (kl : PySem.W.kitOne K (.ref C) (.type "list") = some false) (s2 : ∀ T : String, T = "int" ∨ T = "tuple" → PySem.W.subIn K (.ref C) (.type T) = some false)
    (lr : ∀ op : Operator, op = .Add ∨ op = .Sub ∨ op = .Mult → (∃ fo ro, PySem.W.findIn K (.type "int") (PySem.dunder op.info.2) = some fo ∧ PySem.W.findIn K (.type "int") (dunderR op.info.2) = some ro ∧ ((fo.isSome && !isSeqSlot fo) || (ro.isSome && !isSeqSlot ro)) = true) ∧
      ∃ fo ro, PySem.W.findIn K (.type "tuple") (PySem.dunder op.info.2) = some fo ∧ PySem.W.findIn K (.type "tuple") (dunderR op.info.2) = some ro ∧ ((fo.isSome && !isSeqSlot fo) || (ro.isSome && !isSeqSlot ro)) = false) : PlaneT K mg := by
  obtain rfl : C = pnA mg := (fA_of g).symm
  have e : f = mA K (pnA mg) "__init__" := (mA_of mk.init).symm
  subst e
  exact ⟨g, cls, mk, norows, m0, m1, m2, m3, m4, m5, m6, m7, m8, m9, m10, m11, m12, m13, m14, me, hc, hn, ht, hm, kf, s1, kl, s2, lr⟩
theorem polyT_of {K : PySem.W.Frag} {mg : Str → Option Value} {C f : Addr} (g : mg "Poly" = some (.ref C)) (cls : Cls K C) (mk : Mk K C f) (nonumbers : NoAttr K C "numbers")
    (m0 : Me K C "__init__" "Poly.__init__" (inClass tPoly 0) ["self", "numbers"])
    (m1 : Me K C "at" "Poly.at" (inClass tPoly 10) ["self", "point"])
    (hc : PySem.W.findIn K (.ref C) "__class__" = some (some (.builtin "object.__class__"))) (hn : PySem.W.specialIn K (.builtin "object.__class__") "__get__" = some (some (.builtin "getset_descriptor.__get__"))) (ht : PySem.W.takesIn K (.builtin "object.__class__") = some true) (hm : PySem.W.mroIn K C (.type "object") = some true)
    (ks : PySem.W.kitOne K (.ref C) (.ref C) = some true) (kf : ∀ T : String, T = "int" ∨ T = "tuple" → PySem.W.kitOne K (.type T) (.ref C) = some false) (s1 : ∀ T : String, T = "int" ∨ T = "tuple" → PySem.W.subIn K (.type T) (.ref C) = some false) : PolyT K mg := by
  obtain rfl : C = poA mg := (fA_of g).symm
  have e : f = mA K (poA mg) "__init__" := (mA_of mk.init).symm
  subst e
  exact ⟨g, cls, mk, nonumbers, m0, m1, hc, hn, ht, hm, ks, kf, s1⟩
theorem facts {K : PySem.W.Frag} {h : Heap} {mg : Str → Option Value} {Z : Prop} (X : K.In h) (G : h.Ns mainGlobals mg)
    {f_wall : Addr} {od_wall an_wall : Option Addr} {sl_wall : Array (Option Value)} {oc_wall kV_wall dc_wall pm_wall cd_wall ct_wall : Value} {f_is_ratio : Addr} {od_is_ratio an_is_ratio : Option Addr} {sl_is_ratio : Array (Option Value)} {oc_is_ratio kV_is_ratio dc_is_ratio pm_is_ratio cd_is_ratio ct_is_ratio : Value} {f_told : Addr} {od_told an_told : Option Addr} {sl_told : Array (Option Value)} {oc_told kV_told dc_told pm_told cd_told ct_told : Value} {f_plus : Addr} {od_plus an_plus : Option Addr} {sl_plus : Array (Option Value)} {oc_plus kV_plus dc_plus pm_plus cd_plus ct_plus : Value} {f_is_integer : Addr} {od_is_integer an_is_integer : Option Addr} {sl_is_integer : Array (Option Value)} {oc_is_integer kV_is_integer dc_is_integer pm_is_integer cd_is_integer ct_is_integer : Value} {f_parts : Addr} {od_parts an_parts : Option Addr} {sl_parts : Array (Option Value)} {oc_parts kV_parts dc_parts pm_parts cd_parts ct_parts : Value} {f_lowest : Addr} {od_lowest an_lowest : Option Addr} {sl_lowest : Array (Option Value)} {oc_lowest kV_lowest dc_lowest pm_lowest cd_lowest ct_lowest : Value} {f_is_row : Addr} {od_is_row an_is_row : Option Addr} {sl_is_row : Array (Option Value)} {oc_is_row kV_is_row dc_is_row pm_is_row cd_is_row ct_is_row : Value} {f_is_row_of : Addr} {od_is_row_of an_is_row_of : Option Addr} {sl_is_row_of : Array (Option Value)} {oc_is_row_of kV_is_row_of dc_is_row_of pm_is_row_of cd_is_row_of ct_is_row_of : Value} {f_is_place : Addr} {od_is_place an_is_place : Option Addr} {sl_is_place : Array (Option Value)} {oc_is_place kV_is_place dc_is_place pm_is_place cd_is_place ct_is_place : Value} {f_pair_of : Addr} {od_pair_of an_pair_of : Option Addr} {sl_pair_of : Array (Option Value)} {oc_pair_of kV_pair_of dc_pair_of pm_pair_of cd_pair_of ct_pair_of : Value} {f_place_of : Addr} {od_place_of an_place_of : Option Addr} {sl_place_of : Array (Option Value)} {oc_place_of kV_place_of dc_place_of pm_place_of cd_place_of ct_place_of : Value} {f_is_strict_ratio : Addr} {od_is_strict_ratio an_is_strict_ratio : Option Addr} {sl_is_strict_ratio : Array (Option Value)} {oc_is_strict_ratio kV_is_strict_ratio dc_is_strict_ratio pm_is_strict_ratio cd_is_strict_ratio ct_is_strict_ratio : Value} {f_bottom_of : Addr} {od_bottom_of an_bottom_of : Option Addr} {sl_bottom_of : Array (Option Value)} {oc_bottom_of kV_bottom_of dc_bottom_of pm_bottom_of cd_bottom_of ct_bottom_of : Value} {f_whole_row : Addr} {od_whole_row an_whole_row : Option Addr} {sl_whole_row : Array (Option Value)} {oc_whole_row kV_whole_row dc_whole_row pm_whole_row cd_whole_row ct_whole_row : Value} {f_whole_rows : Addr} {od_whole_rows an_whole_rows : Option Addr} {sl_whole_rows : Array (Option Value)} {oc_whole_rows kV_whole_rows dc_whole_rows pm_whole_rows cd_whole_rows ct_whole_rows : Value} {f_top_power : Addr} {od_top_power an_top_power : Option Addr} {sl_top_power : Array (Option Value)} {oc_top_power kV_top_power dc_top_power pm_top_power cd_top_power ct_top_power : Value} {f_total : Addr} {od_total an_total : Option Addr} {sl_total : Array (Option Value)} {oc_total kV_total dc_total pm_total cd_total ct_total : Value} {f_joined : Addr} {od_joined an_joined : Option Addr} {sl_joined : Array (Option Value)} {oc_joined kV_joined dc_joined pm_joined cd_joined ct_joined : Value} {f_row_product : Addr} {od_row_product an_row_product : Option Addr} {sl_row_product : Array (Option Value)} {oc_row_product kV_row_product dc_row_product pm_row_product cd_row_product ct_row_product : Value} {f_beside : Addr} {od_beside an_beside : Option Addr} {sl_beside : Array (Option Value)} {oc_beside kV_beside dc_beside pm_beside cd_beside ct_beside : Value} {f_number : Addr} {od_number an_number : Option Addr} {sl_number : Array (Option Value)} {oc_number kV_number dc_number pm_number cd_number ct_number : Value} {f_sum : Addr} {od_sum an_sum : Option Addr} {sl_sum : Array (Option Value)} {oc_sum kV_sum dc_sum pm_sum cd_sum ct_sum : Value} {f_product : Addr} {od_product an_product : Option Addr} {sl_product : Array (Option Value)} {oc_product kV_product dc_product pm_product cd_product ct_product : Value} {f_are_rows : Addr} {od_are_rows an_are_rows : Option Addr} {sl_are_rows : Array (Option Value)} {oc_are_rows kV_are_rows dc_are_rows pm_are_rows cd_are_rows ct_are_rows : Value} {f_shortened : Addr} {od_shortened an_shortened : Option Addr} {sl_shortened : Array (Option Value)} {oc_shortened kV_shortened dc_shortened pm_shortened cd_shortened ct_shortened : Value} {f_plane_beside : Addr} {od_plane_beside an_plane_beside : Option Addr} {sl_plane_beside : Array (Option Value)} {oc_plane_beside kV_plane_beside dc_plane_beside pm_plane_beside cd_plane_beside ct_plane_beside : Value} {f_row : Addr} {od_row an_row : Option Addr} {sl_row : Array (Option Value)} {oc_row kV_row dc_row pm_row cd_row ct_row : Value} {f_plane_sum : Addr} {od_plane_sum an_plane_sum : Option Addr} {sl_plane_sum : Array (Option Value)} {oc_plane_sum kV_plane_sum dc_plane_sum pm_plane_sum cd_plane_sum ct_plane_sum : Value} {f_row_sum : Addr} {od_row_sum an_row_sum : Option Addr} {sl_row_sum : Array (Option Value)} {oc_row_sum kV_row_sum dc_row_sum pm_row_sum cd_row_sum ct_row_sum : Value} {f_plane_product : Addr} {od_plane_product an_plane_product : Option Addr} {sl_plane_product : Array (Option Value)} {oc_plane_product kV_plane_product dc_plane_product pm_plane_product cd_plane_product ct_plane_product : Value} {f_facing : Addr} {od_facing an_facing : Option Addr} {sl_facing : Array (Option Value)} {oc_facing kV_facing dc_facing pm_facing cd_facing ct_facing : Value} {f_product_row : Addr} {od_product_row an_product_row : Option Addr} {sl_product_row : Array (Option Value)} {oc_product_row kV_product_row dc_product_row pm_product_row cd_product_row ct_product_row : Value} {f_crossed_pairs : Addr} {od_crossed_pairs an_crossed_pairs : Option Addr} {sl_crossed_pairs : Array (Option Value)} {oc_crossed_pairs kV_crossed_pairs dc_crossed_pairs pm_crossed_pairs cd_crossed_pairs ct_crossed_pairs : Value} {f_value_at : Addr} {od_value_at an_value_at : Option Addr} {sl_value_at : Array (Option Value)} {oc_value_at kV_value_at dc_value_at pm_value_at cd_value_at ct_value_at : Value} {f_scaled : Addr} {od_scaled an_scaled : Option Addr} {sl_scaled : Array (Option Value)} {oc_scaled kV_scaled dc_scaled pm_scaled cd_scaled ct_scaled : Value} {f_moved_whole : Addr} {od_moved_whole an_moved_whole : Option Addr} {sl_moved_whole : Array (Option Value)} {oc_moved_whole kV_moved_whole dc_moved_whole pm_moved_whole cd_moved_whole ct_moved_whole : Value} {f_times_line : Addr} {od_times_line an_times_line : Option Addr} {sl_times_line : Array (Option Value)} {oc_times_line kV_times_line dc_times_line pm_times_line cd_times_line ct_times_line : Value} {f_plane_of_numbers : Addr} {od_plane_of_numbers an_plane_of_numbers : Option Addr} {sl_plane_of_numbers : Array (Option Value)} {oc_plane_of_numbers kV_plane_of_numbers dc_plane_of_numbers pm_plane_of_numbers cd_plane_of_numbers ct_plane_of_numbers : Value} {f_law_pen : Addr} {od_law_pen an_law_pen : Option Addr} {sl_law_pen : Array (Option Value)} {oc_law_pen kV_law_pen dc_law_pen pm_law_pen cd_law_pen ct_law_pen : Value} {f_law_draw : Addr} {od_law_draw an_law_draw : Option Addr} {sl_law_draw : Array (Option Value)} {oc_law_draw kV_law_draw dc_law_draw pm_law_draw cd_law_draw ct_law_draw : Value} {f_law_pick : Addr} {od_law_pick an_law_pick : Option Addr} {sl_law_pick : Array (Option Value)} {oc_law_pick kV_law_pick dc_law_pick pm_law_pick cd_law_pick ct_law_pick : Value} {f_law_gcd : Addr} {od_law_gcd an_law_gcd : Option Addr} {sl_law_gcd : Array (Option Value)} {oc_law_gcd kV_law_gcd dc_law_gcd pm_law_gcd cd_law_gcd ct_law_gcd : Value} {f_law_q : Addr} {od_law_q an_law_q : Option Addr} {sl_law_q : Array (Option Value)} {oc_law_q kV_law_q dc_law_q pm_law_q cd_law_q ct_law_q : Value} {f_law_plus : Addr} {od_law_plus an_law_plus : Option Addr} {sl_law_plus : Array (Option Value)} {oc_law_plus kV_law_plus dc_law_plus pm_law_plus cd_law_plus ct_law_plus : Value} {f_law_times : Addr} {od_law_times an_law_times : Option Addr} {sl_law_times : Array (Option Value)} {oc_law_times kV_law_times dc_law_times pm_law_times cd_law_times ct_law_times : Value} {f_law_passed : Addr} {od_law_passed an_law_passed : Option Addr} {sl_law_passed : Array (Option Value)} {oc_law_passed kV_law_passed dc_law_passed pm_law_passed cd_law_passed ct_law_passed : Value} {f_law_ratio : Addr} {od_law_ratio an_law_ratio : Option Addr} {sl_law_ratio : Array (Option Value)} {oc_law_ratio kV_law_ratio dc_law_ratio pm_law_ratio cd_law_ratio ct_law_ratio : Value} {f_law_poly : Addr} {od_law_poly an_law_poly : Option Addr} {sl_law_poly : Array (Option Value)} {oc_law_poly kV_law_poly dc_law_poly pm_law_poly cd_law_poly ct_law_poly : Value} {f_law_p_plus : Addr} {od_law_p_plus an_law_p_plus : Option Addr} {sl_law_p_plus : Array (Option Value)} {oc_law_p_plus kV_law_p_plus dc_law_p_plus pm_law_p_plus cd_law_p_plus ct_law_p_plus : Value} {f_law_p_times : Addr} {od_law_p_times an_law_p_times : Option Addr} {sl_law_p_times : Array (Option Value)} {oc_law_p_times kV_law_p_times dc_law_p_times pm_law_p_times cd_law_p_times ct_law_p_times : Value} {f_law_v_plain : Addr} {od_law_v_plain an_law_v_plain : Option Addr} {sl_law_v_plain : Array (Option Value)} {oc_law_v_plain kV_law_v_plain dc_law_v_plain pm_law_v_plain cd_law_v_plain ct_law_v_plain : Value} {f_law_v_plus : Addr} {od_law_v_plus an_law_v_plus : Option Addr} {sl_law_v_plus : Array (Option Value)} {oc_law_v_plus kV_law_v_plus dc_law_v_plus pm_law_v_plus cd_law_v_plus ct_law_v_plus : Value} {f_law_v_scaled : Addr} {od_law_v_scaled an_law_v_scaled : Option Addr} {sl_law_v_scaled : Array (Option Value)} {oc_law_v_scaled kV_law_v_scaled dc_law_v_scaled pm_law_v_scaled cd_law_v_scaled ct_law_v_scaled : Value} {f_law_v_times : Addr} {od_law_v_times an_law_v_times : Option Addr} {sl_law_v_times : Array (Option Value)} {oc_law_v_times kV_law_v_times dc_law_v_times pm_law_v_times cd_law_v_times ct_law_v_times : Value} {f_law_v_power : Addr} {od_law_v_power an_law_v_power : Option Addr} {sl_law_v_power : Array (Option Value)} {oc_law_v_power kV_law_v_power dc_law_v_power pm_law_v_power cd_law_v_power ct_law_v_power : Value} {f_law_v_along : Addr} {od_law_v_along an_law_v_along : Option Addr} {sl_law_v_along : Array (Option Value)} {oc_law_v_along kV_law_v_along dc_law_v_along pm_law_v_along cd_law_v_along ct_law_v_along : Value} {f_law_v_put : Addr} {od_law_v_put an_law_v_put : Option Addr} {sl_law_v_put : Array (Option Value)} {oc_law_v_put kV_law_v_put dc_law_v_put pm_law_v_put cd_law_v_put ct_law_v_put : Value} {f_law_v_of : Addr} {od_law_v_of an_law_v_of : Option Addr} {sl_law_v_of : Array (Option Value)} {oc_law_v_of kV_law_v_of dc_law_v_of pm_law_v_of cd_law_v_of ct_law_v_of : Value} {f_law_v_rows : Addr} {od_law_v_rows an_law_v_rows : Option Addr} {sl_law_v_rows : Array (Option Value)} {oc_law_v_rows kV_law_v_rows dc_law_v_rows pm_law_v_rows cd_law_v_rows ct_law_v_rows : Value} {f_law_made_plane : Addr} {od_law_made_plane an_law_made_plane : Option Addr} {sl_law_made_plane : Array (Option Value)} {oc_law_made_plane kV_law_made_plane dc_law_made_plane pm_law_made_plane cd_law_made_plane ct_law_made_plane : Value} {f_law_v_drawn : Addr} {od_law_v_drawn an_law_v_drawn : Option Addr} {sl_law_v_drawn : Array (Option Value)} {oc_law_v_drawn kV_law_v_drawn dc_law_v_drawn pm_law_v_drawn cd_law_v_drawn ct_law_v_drawn : Value} {f_law_place : Addr} {od_law_place an_law_place : Option Addr} {sl_law_place : Array (Option Value)} {oc_law_place kV_law_place dc_law_place pm_law_place cd_law_place ct_law_place : Value} {f_law_why : Addr} {od_law_why an_law_why : Option Addr} {sl_law_why : Array (Option Value)} {oc_law_why kV_law_why dc_law_why pm_law_why cd_law_why ct_law_why : Value} {f_law_any : Addr} {od_law_any an_law_any : Option Addr} {sl_law_any : Array (Option Value)} {oc_law_any kV_law_any dc_law_any pm_law_any cd_law_any ct_law_any : Value} {f_law_shown : Addr} {od_law_shown an_law_shown : Option Addr} {sl_law_shown : Array (Option Value)} {oc_law_shown kV_law_shown dc_law_shown pm_law_shown cd_law_shown ct_law_shown : Value} {f_law_matrix : Addr} {od_law_matrix an_law_matrix : Option Addr} {sl_law_matrix : Array (Option Value)} {oc_law_matrix kV_law_matrix dc_law_matrix pm_law_matrix cd_law_matrix ct_law_matrix : Value} {f_law_flow_at : Addr} {od_law_flow_at an_law_flow_at : Option Addr} {sl_law_flow_at : Array (Option Value)} {oc_law_flow_at kV_law_flow_at dc_law_flow_at pm_law_flow_at cd_law_flow_at ct_law_flow_at : Value} {f_law : Addr} {od_law an_law : Option Addr} {sl_law : Array (Option Value)} {oc_law kV_law dc_law pm_law ct_law : Value} {cC_law : Addr} {C_BadText : Addr} {fI_BadText : Addr} {odI_BadText anI_BadText : Option Addr} {slI_BadText : Array (Option Value)} {ocI_BadText kVI_BadText dcI_BadText pmI_BadText cdI_BadText ctI_BadText : Value} {nmI_BadText qI_BadText : Str} {NI_BadText : Addr} {bsI_BadText bmI_BadText : List Value} {snI_BadText : List Str} {subI_BadText : List Value} {abI_BadText : Bool} {colI_BadText : Option Bool} {ddI_BadText : Option Addr} {m0I_BadText m1I_BadText m2I_BadText m3I_BadText m5I_BadText : Option Value} {C_BadNumber : Addr} {fI_BadNumber : Addr} {odI_BadNumber anI_BadNumber : Option Addr} {slI_BadNumber : Array (Option Value)} {ocI_BadNumber kVI_BadNumber dcI_BadNumber pmI_BadNumber cdI_BadNumber ctI_BadNumber : Value} {nmI_BadNumber qI_BadNumber : Str} {NI_BadNumber : Addr} {bsI_BadNumber bmI_BadNumber : List Value} {snI_BadNumber : List Str} {subI_BadNumber : List Value} {abI_BadNumber : Bool} {colI_BadNumber : Option Bool} {ddI_BadNumber : Option Addr} {m0I_BadNumber m1I_BadNumber m2I_BadNumber m3I_BadNumber m5I_BadNumber : Option Value} {C_BadRow : Addr} {fI_BadRow : Addr} {odI_BadRow anI_BadRow : Option Addr} {slI_BadRow : Array (Option Value)} {ocI_BadRow kVI_BadRow dcI_BadRow pmI_BadRow cdI_BadRow ctI_BadRow : Value} {nmI_BadRow qI_BadRow : Str} {NI_BadRow : Addr} {bsI_BadRow bmI_BadRow : List Value} {snI_BadRow : List Str} {subI_BadRow : List Value} {abI_BadRow : Bool} {colI_BadRow : Option Bool} {ddI_BadRow : Option Addr} {m0I_BadRow m1I_BadRow m2I_BadRow m3I_BadRow m5I_BadRow : Option Value} {C_Plane : Addr} {fp_init : Addr} {odp_init anp_init : Option Addr} {slp_init : Array (Option Value)} {ocp_init kVp_init dcp_init pmp_init cdp_init ctp_init : Value} {fp_eq : Addr} {odp_eq anp_eq : Option Addr} {slp_eq : Array (Option Value)} {ocp_eq kVp_eq dcp_eq pmp_eq cdp_eq ctp_eq : Value} {fp_add : Addr} {odp_add anp_add : Option Addr} {slp_add : Array (Option Value)} {ocp_add kVp_add dcp_add pmp_add cdp_add ctp_add : Value} {fp_radd : Addr} {odp_radd anp_radd : Option Addr} {slp_radd : Array (Option Value)} {ocp_radd kVp_radd dcp_radd pmp_radd cdp_radd ctp_radd : Value} {fp_sub : Addr} {odp_sub anp_sub : Option Addr} {slp_sub : Array (Option Value)} {ocp_sub kVp_sub dcp_sub pmp_sub cdp_sub ctp_sub : Value} {fp_rsub : Addr} {odp_rsub anp_rsub : Option Addr} {slp_rsub : Array (Option Value)} {ocp_rsub kVp_rsub dcp_rsub pmp_rsub cdp_rsub ctp_rsub : Value} {fp_mul : Addr} {odp_mul anp_mul : Option Addr} {slp_mul : Array (Option Value)} {ocp_mul kVp_mul dcp_mul pmp_mul cdp_mul ctp_mul : Value} {fp_rmul : Addr} {odp_rmul anp_rmul : Option Addr} {slp_rmul : Array (Option Value)} {ocp_rmul kVp_rmul dcp_rmul pmp_rmul cdp_rmul ctp_rmul : Value} {fp_neg : Addr} {odp_neg anp_neg : Option Addr} {slp_neg : Array (Option Value)} {ocp_neg kVp_neg dcp_neg pmp_neg cdp_neg ctp_neg : Value} {fp_degree : Addr} {odp_degree anp_degree : Option Addr} {slp_degree : Array (Option Value)} {ocp_degree kVp_degree dcp_degree pmp_degree cdp_degree ctp_degree : Value} {fp_at : Addr} {odp_at anp_at : Option Addr} {slp_at : Array (Option Value)} {ocp_at kVp_at dcp_at pmp_at cdp_at ctp_at : Value} {fp_slope_x : Addr} {odp_slope_x anp_slope_x : Option Addr} {slp_slope_x : Array (Option Value)} {ocp_slope_x kVp_slope_x dcp_slope_x pmp_slope_x cdp_slope_x ctp_slope_x : Value} {fp_slope_y : Addr} {odp_slope_y anp_slope_y : Option Addr} {slp_slope_y : Array (Option Value)} {ocp_slope_y kVp_slope_y dcp_slope_y pmp_slope_y cdp_slope_y ctp_slope_y : Value} {fp_along : Addr} {odp_along anp_along : Option Addr} {slp_along : Array (Option Value)} {ocp_along kVp_along dcp_along pmp_along cdp_along ctp_along : Value} {fp_moved : Addr} {odp_moved anp_moved : Option Addr} {slp_moved : Array (Option Value)} {ocp_moved kVp_moved dcp_moved pmp_moved cdp_moved ctp_moved : Value} {fointAdd rointAdd : Option Value} {fointSub rointSub : Option Value} {fointMult rointMult : Option Value} {fotupleAdd rotupleAdd : Option Value} {fotupleSub rotupleSub : Option Value} {fotupleMult rotupleMult : Option Value} {C_Poly : Addr} {fo_init : Addr} {odo_init ano_init : Option Addr} {slo_init : Array (Option Value)} {oco_init kVo_init dco_init pmo_init cdo_init cto_init : Value} {fo_at : Addr} {odo_at ano_at : Option Addr} {slo_at : Array (Option Value)} {oco_at kVo_at dco_at pmo_at cdo_at cto_at : Value}
    (z_int : PySem.W.nsIn K mainGlobals "int" = some none)
    (z_bool : PySem.W.nsIn K mainGlobals "bool" = some none)
    (z_list : PySem.W.nsIn K mainGlobals "list" = some none)
    (z_tuple : PySem.W.nsIn K mainGlobals "tuple" = some none)
    (z_len : PySem.W.nsIn K mainGlobals "len" = some none)
    (z_range : PySem.W.nsIn K mainGlobals "range" = some none)
    (z_isinstance : PySem.W.nsIn K mainGlobals "isinstance" = some none)
    (z_repr : PySem.W.nsIn K mainGlobals "repr" = some none)
    (z_abs : PySem.W.nsIn K mainGlobals "abs" = some none)
    (z_all : PySem.W.nsIn K mainGlobals "all" = some none)
    (z_max : PySem.W.nsIn K mainGlobals "max" = some none)
    (z_min : PySem.W.nsIn K mainGlobals "min" = some none)
    (z_reversed : PySem.W.nsIn K mainGlobals "reversed" = some none)
    (z_enumerate : PySem.W.nsIn K mainGlobals "enumerate" = some none)
    (z_sorted : PySem.W.nsIn K mainGlobals "sorted" = some none)
    (z_dict : PySem.W.nsIn K mainGlobals "dict" = some none)
    (z_zip : PySem.W.nsIn K mainGlobals "zip" = some none)
    (z_NotImplemented : PySem.W.nsIn K mainGlobals "NotImplemented" = some none)
    (g_gcd : PySem.W.nsIn K mainGlobals "gcd" = some (some (.builtin "math.gcd")))
    (g_lcm : PySem.W.nsIn K mainGlobals "lcm" = some (some (.builtin "math.lcm")))
    (a_wall : PySem.W.nsIn K mainGlobals "_wall" = some (some (.ref f_wall)))
    (l_wall : K.lookup f_wall = some ⟨oc_wall, od_wall, .func (PySem.W.fnOf "_wall" "_wall" (defArgs s_wall) (defBody s_wall) (defScope s_wall) .none kV_wall dc_wall pm_wall an_wall cd_wall ct_wall), sl_wall⟩)
    (c_wall : PySem.W.codeIn K cd_wall "_wall" = true)
    (k_wall : PySem.W.keepIn K (.ref f_wall) = true)
    (a_is_ratio : PySem.W.nsIn K mainGlobals "is_ratio" = some (some (.ref f_is_ratio)))
    (l_is_ratio : K.lookup f_is_ratio = some ⟨oc_is_ratio, od_is_ratio, .func (PySem.W.fnOf "is_ratio" "is_ratio" (defArgs sis_ratio) (defBody sis_ratio) (defScope sis_ratio) .none kV_is_ratio dc_is_ratio pm_is_ratio an_is_ratio cd_is_ratio ct_is_ratio), sl_is_ratio⟩)
    (c_is_ratio : PySem.W.codeIn K cd_is_ratio "is_ratio" = true)
    (k_is_ratio : PySem.W.keepIn K (.ref f_is_ratio) = true)
    (a_told : PySem.W.nsIn K mainGlobals "told" = some (some (.ref f_told)))
    (l_told : K.lookup f_told = some ⟨oc_told, od_told, .func (PySem.W.fnOf "told" "told" (defArgs stold) (defBody stold) (defScope stold) .none kV_told dc_told pm_told an_told cd_told ct_told), sl_told⟩)
    (c_told : PySem.W.codeIn K cd_told "told" = true)
    (k_told : PySem.W.keepIn K (.ref f_told) = true)
    (a_plus : PySem.W.nsIn K mainGlobals "plus" = some (some (.ref f_plus)))
    (l_plus : K.lookup f_plus = some ⟨oc_plus, od_plus, .func (PySem.W.fnOf "plus" "plus" (defArgs splus) (defBody splus) (defScope splus) .none kV_plus dc_plus pm_plus an_plus cd_plus ct_plus), sl_plus⟩)
    (c_plus : PySem.W.codeIn K cd_plus "plus" = true)
    (k_plus : PySem.W.keepIn K (.ref f_plus) = true)
    (a_is_integer : PySem.W.nsIn K mainGlobals "is_integer" = some (some (.ref f_is_integer)))
    (l_is_integer : K.lookup f_is_integer = some ⟨oc_is_integer, od_is_integer, .func (PySem.W.fnOf "is_integer" "is_integer" (defArgs sis_integer) (defBody sis_integer) (defScope sis_integer) .none kV_is_integer dc_is_integer pm_is_integer an_is_integer cd_is_integer ct_is_integer), sl_is_integer⟩)
    (c_is_integer : PySem.W.codeIn K cd_is_integer "is_integer" = true)
    (k_is_integer : PySem.W.keepIn K (.ref f_is_integer) = true)
    (a_parts : PySem.W.nsIn K mainGlobals "_parts" = some (some (.ref f_parts)))
    (l_parts : K.lookup f_parts = some ⟨oc_parts, od_parts, .func (PySem.W.fnOf "_parts" "_parts" (defArgs s_parts) (defBody s_parts) (defScope s_parts) .none kV_parts dc_parts pm_parts an_parts cd_parts ct_parts), sl_parts⟩)
    (c_parts : PySem.W.codeIn K cd_parts "_parts" = true)
    (k_parts : PySem.W.keepIn K (.ref f_parts) = true)
    (a_lowest : PySem.W.nsIn K mainGlobals "_lowest" = some (some (.ref f_lowest)))
    (l_lowest : K.lookup f_lowest = some ⟨oc_lowest, od_lowest, .func (PySem.W.fnOf "_lowest" "_lowest" (defArgs s_lowest) (defBody s_lowest) (defScope s_lowest) .none kV_lowest dc_lowest pm_lowest an_lowest cd_lowest ct_lowest), sl_lowest⟩)
    (c_lowest : PySem.W.codeIn K cd_lowest "_lowest" = true)
    (k_lowest : PySem.W.keepIn K (.ref f_lowest) = true)
    (a_is_row : PySem.W.nsIn K mainGlobals "is_row" = some (some (.ref f_is_row)))
    (l_is_row : K.lookup f_is_row = some ⟨oc_is_row, od_is_row, .func (PySem.W.fnOf "is_row" "is_row" (defArgs sis_row) (defBody sis_row) (defScope sis_row) .none kV_is_row dc_is_row pm_is_row an_is_row cd_is_row ct_is_row), sl_is_row⟩)
    (c_is_row : PySem.W.codeIn K cd_is_row "is_row" = true)
    (k_is_row : PySem.W.keepIn K (.ref f_is_row) = true)
    (a_is_row_of : PySem.W.nsIn K mainGlobals "is_row_of" = some (some (.ref f_is_row_of)))
    (l_is_row_of : K.lookup f_is_row_of = some ⟨oc_is_row_of, od_is_row_of, .func (PySem.W.fnOf "is_row_of" "is_row_of" (defArgs sis_row_of) (defBody sis_row_of) (defScope sis_row_of) .none kV_is_row_of dc_is_row_of pm_is_row_of an_is_row_of cd_is_row_of ct_is_row_of), sl_is_row_of⟩)
    (c_is_row_of : PySem.W.codeIn K cd_is_row_of "is_row_of" = true)
    (k_is_row_of : PySem.W.keepIn K (.ref f_is_row_of) = true)
    (a_is_place : PySem.W.nsIn K mainGlobals "is_place" = some (some (.ref f_is_place)))
    (l_is_place : K.lookup f_is_place = some ⟨oc_is_place, od_is_place, .func (PySem.W.fnOf "is_place" "is_place" (defArgs sis_place) (defBody sis_place) (defScope sis_place) .none kV_is_place dc_is_place pm_is_place an_is_place cd_is_place ct_is_place), sl_is_place⟩)
    (c_is_place : PySem.W.codeIn K cd_is_place "is_place" = true)
    (k_is_place : PySem.W.keepIn K (.ref f_is_place) = true)
    (a_pair_of : PySem.W.nsIn K mainGlobals "pair_of" = some (some (.ref f_pair_of)))
    (l_pair_of : K.lookup f_pair_of = some ⟨oc_pair_of, od_pair_of, .func (PySem.W.fnOf "pair_of" "pair_of" (defArgs spair_of) (defBody spair_of) (defScope spair_of) .none kV_pair_of dc_pair_of pm_pair_of an_pair_of cd_pair_of ct_pair_of), sl_pair_of⟩)
    (c_pair_of : PySem.W.codeIn K cd_pair_of "pair_of" = true)
    (k_pair_of : PySem.W.keepIn K (.ref f_pair_of) = true)
    (a_place_of : PySem.W.nsIn K mainGlobals "place_of" = some (some (.ref f_place_of)))
    (l_place_of : K.lookup f_place_of = some ⟨oc_place_of, od_place_of, .func (PySem.W.fnOf "place_of" "place_of" (defArgs splace_of) (defBody splace_of) (defScope splace_of) .none kV_place_of dc_place_of pm_place_of an_place_of cd_place_of ct_place_of), sl_place_of⟩)
    (c_place_of : PySem.W.codeIn K cd_place_of "place_of" = true)
    (k_place_of : PySem.W.keepIn K (.ref f_place_of) = true)
    (a_is_strict_ratio : PySem.W.nsIn K mainGlobals "is_strict_ratio" = some (some (.ref f_is_strict_ratio)))
    (l_is_strict_ratio : K.lookup f_is_strict_ratio = some ⟨oc_is_strict_ratio, od_is_strict_ratio, .func (PySem.W.fnOf "is_strict_ratio" "is_strict_ratio" (defArgs sis_strict_ratio) (defBody sis_strict_ratio) (defScope sis_strict_ratio) .none kV_is_strict_ratio dc_is_strict_ratio pm_is_strict_ratio an_is_strict_ratio cd_is_strict_ratio ct_is_strict_ratio), sl_is_strict_ratio⟩)
    (c_is_strict_ratio : PySem.W.codeIn K cd_is_strict_ratio "is_strict_ratio" = true)
    (k_is_strict_ratio : PySem.W.keepIn K (.ref f_is_strict_ratio) = true)
    (a_bottom_of : PySem.W.nsIn K mainGlobals "bottom_of" = some (some (.ref f_bottom_of)))
    (l_bottom_of : K.lookup f_bottom_of = some ⟨oc_bottom_of, od_bottom_of, .func (PySem.W.fnOf "bottom_of" "bottom_of" (defArgs sbottom_of) (defBody sbottom_of) (defScope sbottom_of) .none kV_bottom_of dc_bottom_of pm_bottom_of an_bottom_of cd_bottom_of ct_bottom_of), sl_bottom_of⟩)
    (c_bottom_of : PySem.W.codeIn K cd_bottom_of "bottom_of" = true)
    (k_bottom_of : PySem.W.keepIn K (.ref f_bottom_of) = true)
    (a_whole_row : PySem.W.nsIn K mainGlobals "whole_row" = some (some (.ref f_whole_row)))
    (l_whole_row : K.lookup f_whole_row = some ⟨oc_whole_row, od_whole_row, .func (PySem.W.fnOf "whole_row" "whole_row" (defArgs swhole_row) (defBody swhole_row) (defScope swhole_row) .none kV_whole_row dc_whole_row pm_whole_row an_whole_row cd_whole_row ct_whole_row), sl_whole_row⟩)
    (c_whole_row : PySem.W.codeIn K cd_whole_row "whole_row" = true)
    (k_whole_row : PySem.W.keepIn K (.ref f_whole_row) = true)
    (a_whole_rows : PySem.W.nsIn K mainGlobals "whole_rows" = some (some (.ref f_whole_rows)))
    (l_whole_rows : K.lookup f_whole_rows = some ⟨oc_whole_rows, od_whole_rows, .func (PySem.W.fnOf "whole_rows" "whole_rows" (defArgs swhole_rows) (defBody swhole_rows) (defScope swhole_rows) .none kV_whole_rows dc_whole_rows pm_whole_rows an_whole_rows cd_whole_rows ct_whole_rows), sl_whole_rows⟩)
    (c_whole_rows : PySem.W.codeIn K cd_whole_rows "whole_rows" = true)
    (k_whole_rows : PySem.W.keepIn K (.ref f_whole_rows) = true)
    (a_top_power : PySem.W.nsIn K mainGlobals "top_power" = some (some (.ref f_top_power)))
    (l_top_power : K.lookup f_top_power = some ⟨oc_top_power, od_top_power, .func (PySem.W.fnOf "top_power" "top_power" (defArgs stop_power) (defBody stop_power) (defScope stop_power) .none kV_top_power dc_top_power pm_top_power an_top_power cd_top_power ct_top_power), sl_top_power⟩)
    (c_top_power : PySem.W.codeIn K cd_top_power "top_power" = true)
    (k_top_power : PySem.W.keepIn K (.ref f_top_power) = true)
    (a_total : PySem.W.nsIn K mainGlobals "total" = some (some (.ref f_total)))
    (l_total : K.lookup f_total = some ⟨oc_total, od_total, .func (PySem.W.fnOf "total" "total" (defArgs stotal) (defBody stotal) (defScope stotal) .none kV_total dc_total pm_total an_total cd_total ct_total), sl_total⟩)
    (c_total : PySem.W.codeIn K cd_total "total" = true)
    (k_total : PySem.W.keepIn K (.ref f_total) = true)
    (a_joined : PySem.W.nsIn K mainGlobals "_joined" = some (some (.ref f_joined)))
    (l_joined : K.lookup f_joined = some ⟨oc_joined, od_joined, .func (PySem.W.fnOf "_joined" "_joined" (defArgs s_joined) (defBody s_joined) (defScope s_joined) .none kV_joined dc_joined pm_joined an_joined cd_joined ct_joined), sl_joined⟩)
    (c_joined : PySem.W.codeIn K cd_joined "_joined" = true)
    (k_joined : PySem.W.keepIn K (.ref f_joined) = true)
    (a_row_product : PySem.W.nsIn K mainGlobals "row_product" = some (some (.ref f_row_product)))
    (l_row_product : K.lookup f_row_product = some ⟨oc_row_product, od_row_product, .func (PySem.W.fnOf "row_product" "row_product" (defArgs srow_product) (defBody srow_product) (defScope srow_product) .none kV_row_product dc_row_product pm_row_product an_row_product cd_row_product ct_row_product), sl_row_product⟩)
    (c_row_product : PySem.W.codeIn K cd_row_product "row_product" = true)
    (k_row_product : PySem.W.keepIn K (.ref f_row_product) = true)
    (a_beside : PySem.W.nsIn K mainGlobals "_beside" = some (some (.ref f_beside)))
    (l_beside : K.lookup f_beside = some ⟨oc_beside, od_beside, .func (PySem.W.fnOf "_beside" "_beside" (defArgs s_beside) (defBody s_beside) (defScope s_beside) .none kV_beside dc_beside pm_beside an_beside cd_beside ct_beside), sl_beside⟩)
    (c_beside : PySem.W.codeIn K cd_beside "_beside" = true)
    (k_beside : PySem.W.keepIn K (.ref f_beside) = true)
    (a_number : PySem.W.nsIn K mainGlobals "_number" = some (some (.ref f_number)))
    (l_number : K.lookup f_number = some ⟨oc_number, od_number, .func (PySem.W.fnOf "_number" "_number" (defArgs s_number) (defBody s_number) (defScope s_number) .none kV_number dc_number pm_number an_number cd_number ct_number), sl_number⟩)
    (c_number : PySem.W.codeIn K cd_number "_number" = true)
    (k_number : PySem.W.keepIn K (.ref f_number) = true)
    (a_sum : PySem.W.nsIn K mainGlobals "_sum" = some (some (.ref f_sum)))
    (l_sum : K.lookup f_sum = some ⟨oc_sum, od_sum, .func (PySem.W.fnOf "_sum" "_sum" (defArgs s_sum) (defBody s_sum) (defScope s_sum) .none kV_sum dc_sum pm_sum an_sum cd_sum ct_sum), sl_sum⟩)
    (c_sum : PySem.W.codeIn K cd_sum "_sum" = true)
    (k_sum : PySem.W.keepIn K (.ref f_sum) = true)
    (a_product : PySem.W.nsIn K mainGlobals "_product" = some (some (.ref f_product)))
    (l_product : K.lookup f_product = some ⟨oc_product, od_product, .func (PySem.W.fnOf "_product" "_product" (defArgs s_product) (defBody s_product) (defScope s_product) .none kV_product dc_product pm_product an_product cd_product ct_product), sl_product⟩)
    (c_product : PySem.W.codeIn K cd_product "_product" = true)
    (k_product : PySem.W.keepIn K (.ref f_product) = true)
    (a_are_rows : PySem.W.nsIn K mainGlobals "_are_rows" = some (some (.ref f_are_rows)))
    (l_are_rows : K.lookup f_are_rows = some ⟨oc_are_rows, od_are_rows, .func (PySem.W.fnOf "_are_rows" "_are_rows" (defArgs s_are_rows) (defBody s_are_rows) (defScope s_are_rows) .none kV_are_rows dc_are_rows pm_are_rows an_are_rows cd_are_rows ct_are_rows), sl_are_rows⟩)
    (c_are_rows : PySem.W.codeIn K cd_are_rows "_are_rows" = true)
    (k_are_rows : PySem.W.keepIn K (.ref f_are_rows) = true)
    (a_shortened : PySem.W.nsIn K mainGlobals "_shortened" = some (some (.ref f_shortened)))
    (l_shortened : K.lookup f_shortened = some ⟨oc_shortened, od_shortened, .func (PySem.W.fnOf "_shortened" "_shortened" (defArgs s_shortened) (defBody s_shortened) (defScope s_shortened) .none kV_shortened dc_shortened pm_shortened an_shortened cd_shortened ct_shortened), sl_shortened⟩)
    (c_shortened : PySem.W.codeIn K cd_shortened "_shortened" = true)
    (k_shortened : PySem.W.keepIn K (.ref f_shortened) = true)
    (a_plane_beside : PySem.W.nsIn K mainGlobals "_plane_beside" = some (some (.ref f_plane_beside)))
    (l_plane_beside : K.lookup f_plane_beside = some ⟨oc_plane_beside, od_plane_beside, .func (PySem.W.fnOf "_plane_beside" "_plane_beside" (defArgs s_plane_beside) (defBody s_plane_beside) (defScope s_plane_beside) .none kV_plane_beside dc_plane_beside pm_plane_beside an_plane_beside cd_plane_beside ct_plane_beside), sl_plane_beside⟩)
    (c_plane_beside : PySem.W.codeIn K cd_plane_beside "_plane_beside" = true)
    (k_plane_beside : PySem.W.keepIn K (.ref f_plane_beside) = true)
    (a_row : PySem.W.nsIn K mainGlobals "_row" = some (some (.ref f_row)))
    (l_row : K.lookup f_row = some ⟨oc_row, od_row, .func (PySem.W.fnOf "_row" "_row" (defArgs s_row) (defBody s_row) (defScope s_row) .none kV_row dc_row pm_row an_row cd_row ct_row), sl_row⟩)
    (c_row : PySem.W.codeIn K cd_row "_row" = true)
    (k_row : PySem.W.keepIn K (.ref f_row) = true)
    (a_plane_sum : PySem.W.nsIn K mainGlobals "_plane_sum" = some (some (.ref f_plane_sum)))
    (l_plane_sum : K.lookup f_plane_sum = some ⟨oc_plane_sum, od_plane_sum, .func (PySem.W.fnOf "_plane_sum" "_plane_sum" (defArgs s_plane_sum) (defBody s_plane_sum) (defScope s_plane_sum) .none kV_plane_sum dc_plane_sum pm_plane_sum an_plane_sum cd_plane_sum ct_plane_sum), sl_plane_sum⟩)
    (c_plane_sum : PySem.W.codeIn K cd_plane_sum "_plane_sum" = true)
    (k_plane_sum : PySem.W.keepIn K (.ref f_plane_sum) = true)
    (a_row_sum : PySem.W.nsIn K mainGlobals "_row_sum" = some (some (.ref f_row_sum)))
    (l_row_sum : K.lookup f_row_sum = some ⟨oc_row_sum, od_row_sum, .func (PySem.W.fnOf "_row_sum" "_row_sum" (defArgs s_row_sum) (defBody s_row_sum) (defScope s_row_sum) .none kV_row_sum dc_row_sum pm_row_sum an_row_sum cd_row_sum ct_row_sum), sl_row_sum⟩)
    (c_row_sum : PySem.W.codeIn K cd_row_sum "_row_sum" = true)
    (k_row_sum : PySem.W.keepIn K (.ref f_row_sum) = true)
    (a_plane_product : PySem.W.nsIn K mainGlobals "_plane_product" = some (some (.ref f_plane_product)))
    (l_plane_product : K.lookup f_plane_product = some ⟨oc_plane_product, od_plane_product, .func (PySem.W.fnOf "_plane_product" "_plane_product" (defArgs s_plane_product) (defBody s_plane_product) (defScope s_plane_product) .none kV_plane_product dc_plane_product pm_plane_product an_plane_product cd_plane_product ct_plane_product), sl_plane_product⟩)
    (c_plane_product : PySem.W.codeIn K cd_plane_product "_plane_product" = true)
    (k_plane_product : PySem.W.keepIn K (.ref f_plane_product) = true)
    (a_facing : PySem.W.nsIn K mainGlobals "_facing" = some (some (.ref f_facing)))
    (l_facing : K.lookup f_facing = some ⟨oc_facing, od_facing, .func (PySem.W.fnOf "_facing" "_facing" (defArgs s_facing) (defBody s_facing) (defScope s_facing) .none kV_facing dc_facing pm_facing an_facing cd_facing ct_facing), sl_facing⟩)
    (c_facing : PySem.W.codeIn K cd_facing "_facing" = true)
    (k_facing : PySem.W.keepIn K (.ref f_facing) = true)
    (a_product_row : PySem.W.nsIn K mainGlobals "_product_row" = some (some (.ref f_product_row)))
    (l_product_row : K.lookup f_product_row = some ⟨oc_product_row, od_product_row, .func (PySem.W.fnOf "_product_row" "_product_row" (defArgs s_product_row) (defBody s_product_row) (defScope s_product_row) .none kV_product_row dc_product_row pm_product_row an_product_row cd_product_row ct_product_row), sl_product_row⟩)
    (c_product_row : PySem.W.codeIn K cd_product_row "_product_row" = true)
    (k_product_row : PySem.W.keepIn K (.ref f_product_row) = true)
    (a_crossed_pairs : PySem.W.nsIn K mainGlobals "_crossed_pairs" = some (some (.ref f_crossed_pairs)))
    (l_crossed_pairs : K.lookup f_crossed_pairs = some ⟨oc_crossed_pairs, od_crossed_pairs, .func (PySem.W.fnOf "_crossed_pairs" "_crossed_pairs" (defArgs s_crossed_pairs) (defBody s_crossed_pairs) (defScope s_crossed_pairs) .none kV_crossed_pairs dc_crossed_pairs pm_crossed_pairs an_crossed_pairs cd_crossed_pairs ct_crossed_pairs), sl_crossed_pairs⟩)
    (c_crossed_pairs : PySem.W.codeIn K cd_crossed_pairs "_crossed_pairs" = true)
    (k_crossed_pairs : PySem.W.keepIn K (.ref f_crossed_pairs) = true)
    (a_value_at : PySem.W.nsIn K mainGlobals "_value_at" = some (some (.ref f_value_at)))
    (l_value_at : K.lookup f_value_at = some ⟨oc_value_at, od_value_at, .func (PySem.W.fnOf "_value_at" "_value_at" (defArgs s_value_at) (defBody s_value_at) (defScope s_value_at) .none kV_value_at dc_value_at pm_value_at an_value_at cd_value_at ct_value_at), sl_value_at⟩)
    (c_value_at : PySem.W.codeIn K cd_value_at "_value_at" = true)
    (k_value_at : PySem.W.keepIn K (.ref f_value_at) = true)
    (a_scaled : PySem.W.nsIn K mainGlobals "_scaled" = some (some (.ref f_scaled)))
    (l_scaled : K.lookup f_scaled = some ⟨oc_scaled, od_scaled, .func (PySem.W.fnOf "_scaled" "_scaled" (defArgs s_scaled) (defBody s_scaled) (defScope s_scaled) .none kV_scaled dc_scaled pm_scaled an_scaled cd_scaled ct_scaled), sl_scaled⟩)
    (c_scaled : PySem.W.codeIn K cd_scaled "_scaled" = true)
    (k_scaled : PySem.W.keepIn K (.ref f_scaled) = true)
    (a_moved_whole : PySem.W.nsIn K mainGlobals "moved_whole" = some (some (.ref f_moved_whole)))
    (l_moved_whole : K.lookup f_moved_whole = some ⟨oc_moved_whole, od_moved_whole, .func (PySem.W.fnOf "moved_whole" "moved_whole" (defArgs smoved_whole) (defBody smoved_whole) (defScope smoved_whole) .none kV_moved_whole dc_moved_whole pm_moved_whole an_moved_whole cd_moved_whole ct_moved_whole), sl_moved_whole⟩)
    (c_moved_whole : PySem.W.codeIn K cd_moved_whole "moved_whole" = true)
    (k_moved_whole : PySem.W.keepIn K (.ref f_moved_whole) = true)
    (a_times_line : PySem.W.nsIn K mainGlobals "_times_line" = some (some (.ref f_times_line)))
    (l_times_line : K.lookup f_times_line = some ⟨oc_times_line, od_times_line, .func (PySem.W.fnOf "_times_line" "_times_line" (defArgs s_times_line) (defBody s_times_line) (defScope s_times_line) .none kV_times_line dc_times_line pm_times_line an_times_line cd_times_line ct_times_line), sl_times_line⟩)
    (c_times_line : PySem.W.codeIn K cd_times_line "_times_line" = true)
    (k_times_line : PySem.W.keepIn K (.ref f_times_line) = true)
    (a_plane_of_numbers : PySem.W.nsIn K mainGlobals "_plane_of_numbers" = some (some (.ref f_plane_of_numbers)))
    (l_plane_of_numbers : K.lookup f_plane_of_numbers = some ⟨oc_plane_of_numbers, od_plane_of_numbers, .func (PySem.W.fnOf "_plane_of_numbers" "_plane_of_numbers" (defArgs s_plane_of_numbers) (defBody s_plane_of_numbers) (defScope s_plane_of_numbers) .none kV_plane_of_numbers dc_plane_of_numbers pm_plane_of_numbers an_plane_of_numbers cd_plane_of_numbers ct_plane_of_numbers), sl_plane_of_numbers⟩)
    (c_plane_of_numbers : PySem.W.codeIn K cd_plane_of_numbers "_plane_of_numbers" = true)
    (k_plane_of_numbers : PySem.W.keepIn K (.ref f_plane_of_numbers) = true)
    (a_law_pen : PySem.W.nsIn K mainGlobals "_law_pen" = some (some (.ref f_law_pen)))
    (l_law_pen : K.lookup f_law_pen = some ⟨oc_law_pen, od_law_pen, .func (PySem.W.fnOf "_law_pen" "_law_pen" (defArgs s_law_pen) (defBody s_law_pen) (defScope s_law_pen) .none kV_law_pen dc_law_pen pm_law_pen an_law_pen cd_law_pen ct_law_pen), sl_law_pen⟩)
    (c_law_pen : PySem.W.codeIn K cd_law_pen "_law_pen" = true)
    (k_law_pen : PySem.W.keepIn K (.ref f_law_pen) = true)
    (a_law_draw : PySem.W.nsIn K mainGlobals "_law_draw" = some (some (.ref f_law_draw)))
    (l_law_draw : K.lookup f_law_draw = some ⟨oc_law_draw, od_law_draw, .func (PySem.W.fnOf "_law_draw" "_law_draw" (defArgs s_law_draw) (defBody s_law_draw) (defScope s_law_draw) .none kV_law_draw dc_law_draw pm_law_draw an_law_draw cd_law_draw ct_law_draw), sl_law_draw⟩)
    (c_law_draw : PySem.W.codeIn K cd_law_draw "_law_draw" = true)
    (k_law_draw : PySem.W.keepIn K (.ref f_law_draw) = true)
    (a_law_pick : PySem.W.nsIn K mainGlobals "_law_pick" = some (some (.ref f_law_pick)))
    (l_law_pick : K.lookup f_law_pick = some ⟨oc_law_pick, od_law_pick, .func (PySem.W.fnOf "_law_pick" "_law_pick" (defArgs s_law_pick) (defBody s_law_pick) (defScope s_law_pick) .none kV_law_pick dc_law_pick pm_law_pick an_law_pick cd_law_pick ct_law_pick), sl_law_pick⟩)
    (c_law_pick : PySem.W.codeIn K cd_law_pick "_law_pick" = true)
    (k_law_pick : PySem.W.keepIn K (.ref f_law_pick) = true)
    (a_law_gcd : PySem.W.nsIn K mainGlobals "_law_gcd" = some (some (.ref f_law_gcd)))
    (l_law_gcd : K.lookup f_law_gcd = some ⟨oc_law_gcd, od_law_gcd, .func (PySem.W.fnOf "_law_gcd" "_law_gcd" (defArgs s_law_gcd) (defBody s_law_gcd) (defScope s_law_gcd) .none kV_law_gcd dc_law_gcd pm_law_gcd an_law_gcd cd_law_gcd ct_law_gcd), sl_law_gcd⟩)
    (c_law_gcd : PySem.W.codeIn K cd_law_gcd "_law_gcd" = true)
    (k_law_gcd : PySem.W.keepIn K (.ref f_law_gcd) = true)
    (a_law_q : PySem.W.nsIn K mainGlobals "_law_q" = some (some (.ref f_law_q)))
    (l_law_q : K.lookup f_law_q = some ⟨oc_law_q, od_law_q, .func (PySem.W.fnOf "_law_q" "_law_q" (defArgs s_law_q) (defBody s_law_q) (defScope s_law_q) .none kV_law_q dc_law_q pm_law_q an_law_q cd_law_q ct_law_q), sl_law_q⟩)
    (c_law_q : PySem.W.codeIn K cd_law_q "_law_q" = true)
    (k_law_q : PySem.W.keepIn K (.ref f_law_q) = true)
    (a_law_plus : PySem.W.nsIn K mainGlobals "_law_plus" = some (some (.ref f_law_plus)))
    (l_law_plus : K.lookup f_law_plus = some ⟨oc_law_plus, od_law_plus, .func (PySem.W.fnOf "_law_plus" "_law_plus" (defArgs s_law_plus) (defBody s_law_plus) (defScope s_law_plus) .none kV_law_plus dc_law_plus pm_law_plus an_law_plus cd_law_plus ct_law_plus), sl_law_plus⟩)
    (c_law_plus : PySem.W.codeIn K cd_law_plus "_law_plus" = true)
    (k_law_plus : PySem.W.keepIn K (.ref f_law_plus) = true)
    (a_law_times : PySem.W.nsIn K mainGlobals "_law_times" = some (some (.ref f_law_times)))
    (l_law_times : K.lookup f_law_times = some ⟨oc_law_times, od_law_times, .func (PySem.W.fnOf "_law_times" "_law_times" (defArgs s_law_times) (defBody s_law_times) (defScope s_law_times) .none kV_law_times dc_law_times pm_law_times an_law_times cd_law_times ct_law_times), sl_law_times⟩)
    (c_law_times : PySem.W.codeIn K cd_law_times "_law_times" = true)
    (k_law_times : PySem.W.keepIn K (.ref f_law_times) = true)
    (a_law_passed : PySem.W.nsIn K mainGlobals "_law_passed" = some (some (.ref f_law_passed)))
    (l_law_passed : K.lookup f_law_passed = some ⟨oc_law_passed, od_law_passed, .func (PySem.W.fnOf "_law_passed" "_law_passed" (defArgs s_law_passed) (defBody s_law_passed) (defScope s_law_passed) .none kV_law_passed dc_law_passed pm_law_passed an_law_passed cd_law_passed ct_law_passed), sl_law_passed⟩)
    (c_law_passed : PySem.W.codeIn K cd_law_passed "_law_passed" = true)
    (k_law_passed : PySem.W.keepIn K (.ref f_law_passed) = true)
    (a_law_ratio : PySem.W.nsIn K mainGlobals "_law_ratio" = some (some (.ref f_law_ratio)))
    (l_law_ratio : K.lookup f_law_ratio = some ⟨oc_law_ratio, od_law_ratio, .func (PySem.W.fnOf "_law_ratio" "_law_ratio" (defArgs s_law_ratio) (defBody s_law_ratio) (defScope s_law_ratio) .none kV_law_ratio dc_law_ratio pm_law_ratio an_law_ratio cd_law_ratio ct_law_ratio), sl_law_ratio⟩)
    (c_law_ratio : PySem.W.codeIn K cd_law_ratio "_law_ratio" = true)
    (k_law_ratio : PySem.W.keepIn K (.ref f_law_ratio) = true)
    (a_law_poly : PySem.W.nsIn K mainGlobals "_law_poly" = some (some (.ref f_law_poly)))
    (l_law_poly : K.lookup f_law_poly = some ⟨oc_law_poly, od_law_poly, .func (PySem.W.fnOf "_law_poly" "_law_poly" (defArgs s_law_poly) (defBody s_law_poly) (defScope s_law_poly) .none kV_law_poly dc_law_poly pm_law_poly an_law_poly cd_law_poly ct_law_poly), sl_law_poly⟩)
    (c_law_poly : PySem.W.codeIn K cd_law_poly "_law_poly" = true)
    (k_law_poly : PySem.W.keepIn K (.ref f_law_poly) = true)
    (a_law_p_plus : PySem.W.nsIn K mainGlobals "_law_p_plus" = some (some (.ref f_law_p_plus)))
    (l_law_p_plus : K.lookup f_law_p_plus = some ⟨oc_law_p_plus, od_law_p_plus, .func (PySem.W.fnOf "_law_p_plus" "_law_p_plus" (defArgs s_law_p_plus) (defBody s_law_p_plus) (defScope s_law_p_plus) .none kV_law_p_plus dc_law_p_plus pm_law_p_plus an_law_p_plus cd_law_p_plus ct_law_p_plus), sl_law_p_plus⟩)
    (c_law_p_plus : PySem.W.codeIn K cd_law_p_plus "_law_p_plus" = true)
    (k_law_p_plus : PySem.W.keepIn K (.ref f_law_p_plus) = true)
    (a_law_p_times : PySem.W.nsIn K mainGlobals "_law_p_times" = some (some (.ref f_law_p_times)))
    (l_law_p_times : K.lookup f_law_p_times = some ⟨oc_law_p_times, od_law_p_times, .func (PySem.W.fnOf "_law_p_times" "_law_p_times" (defArgs s_law_p_times) (defBody s_law_p_times) (defScope s_law_p_times) .none kV_law_p_times dc_law_p_times pm_law_p_times an_law_p_times cd_law_p_times ct_law_p_times), sl_law_p_times⟩)
    (c_law_p_times : PySem.W.codeIn K cd_law_p_times "_law_p_times" = true)
    (k_law_p_times : PySem.W.keepIn K (.ref f_law_p_times) = true)
    (a_law_v_plain : PySem.W.nsIn K mainGlobals "_law_v_plain" = some (some (.ref f_law_v_plain)))
    (l_law_v_plain : K.lookup f_law_v_plain = some ⟨oc_law_v_plain, od_law_v_plain, .func (PySem.W.fnOf "_law_v_plain" "_law_v_plain" (defArgs s_law_v_plain) (defBody s_law_v_plain) (defScope s_law_v_plain) .none kV_law_v_plain dc_law_v_plain pm_law_v_plain an_law_v_plain cd_law_v_plain ct_law_v_plain), sl_law_v_plain⟩)
    (c_law_v_plain : PySem.W.codeIn K cd_law_v_plain "_law_v_plain" = true)
    (k_law_v_plain : PySem.W.keepIn K (.ref f_law_v_plain) = true)
    (a_law_v_plus : PySem.W.nsIn K mainGlobals "_law_v_plus" = some (some (.ref f_law_v_plus)))
    (l_law_v_plus : K.lookup f_law_v_plus = some ⟨oc_law_v_plus, od_law_v_plus, .func (PySem.W.fnOf "_law_v_plus" "_law_v_plus" (defArgs s_law_v_plus) (defBody s_law_v_plus) (defScope s_law_v_plus) .none kV_law_v_plus dc_law_v_plus pm_law_v_plus an_law_v_plus cd_law_v_plus ct_law_v_plus), sl_law_v_plus⟩)
    (c_law_v_plus : PySem.W.codeIn K cd_law_v_plus "_law_v_plus" = true)
    (k_law_v_plus : PySem.W.keepIn K (.ref f_law_v_plus) = true)
    (a_law_v_scaled : PySem.W.nsIn K mainGlobals "_law_v_scaled" = some (some (.ref f_law_v_scaled)))
    (l_law_v_scaled : K.lookup f_law_v_scaled = some ⟨oc_law_v_scaled, od_law_v_scaled, .func (PySem.W.fnOf "_law_v_scaled" "_law_v_scaled" (defArgs s_law_v_scaled) (defBody s_law_v_scaled) (defScope s_law_v_scaled) .none kV_law_v_scaled dc_law_v_scaled pm_law_v_scaled an_law_v_scaled cd_law_v_scaled ct_law_v_scaled), sl_law_v_scaled⟩)
    (c_law_v_scaled : PySem.W.codeIn K cd_law_v_scaled "_law_v_scaled" = true)
    (k_law_v_scaled : PySem.W.keepIn K (.ref f_law_v_scaled) = true)
    (a_law_v_times : PySem.W.nsIn K mainGlobals "_law_v_times" = some (some (.ref f_law_v_times)))
    (l_law_v_times : K.lookup f_law_v_times = some ⟨oc_law_v_times, od_law_v_times, .func (PySem.W.fnOf "_law_v_times" "_law_v_times" (defArgs s_law_v_times) (defBody s_law_v_times) (defScope s_law_v_times) .none kV_law_v_times dc_law_v_times pm_law_v_times an_law_v_times cd_law_v_times ct_law_v_times), sl_law_v_times⟩)
    (c_law_v_times : PySem.W.codeIn K cd_law_v_times "_law_v_times" = true)
    (k_law_v_times : PySem.W.keepIn K (.ref f_law_v_times) = true)
    (a_law_v_power : PySem.W.nsIn K mainGlobals "_law_v_power" = some (some (.ref f_law_v_power)))
    (l_law_v_power : K.lookup f_law_v_power = some ⟨oc_law_v_power, od_law_v_power, .func (PySem.W.fnOf "_law_v_power" "_law_v_power" (defArgs s_law_v_power) (defBody s_law_v_power) (defScope s_law_v_power) .none kV_law_v_power dc_law_v_power pm_law_v_power an_law_v_power cd_law_v_power ct_law_v_power), sl_law_v_power⟩)
    (c_law_v_power : PySem.W.codeIn K cd_law_v_power "_law_v_power" = true)
    (k_law_v_power : PySem.W.keepIn K (.ref f_law_v_power) = true)
    (a_law_v_along : PySem.W.nsIn K mainGlobals "_law_v_along" = some (some (.ref f_law_v_along)))
    (l_law_v_along : K.lookup f_law_v_along = some ⟨oc_law_v_along, od_law_v_along, .func (PySem.W.fnOf "_law_v_along" "_law_v_along" (defArgs s_law_v_along) (defBody s_law_v_along) (defScope s_law_v_along) .none kV_law_v_along dc_law_v_along pm_law_v_along an_law_v_along cd_law_v_along ct_law_v_along), sl_law_v_along⟩)
    (c_law_v_along : PySem.W.codeIn K cd_law_v_along "_law_v_along" = true)
    (k_law_v_along : PySem.W.keepIn K (.ref f_law_v_along) = true)
    (a_law_v_put : PySem.W.nsIn K mainGlobals "_law_v_put" = some (some (.ref f_law_v_put)))
    (l_law_v_put : K.lookup f_law_v_put = some ⟨oc_law_v_put, od_law_v_put, .func (PySem.W.fnOf "_law_v_put" "_law_v_put" (defArgs s_law_v_put) (defBody s_law_v_put) (defScope s_law_v_put) .none kV_law_v_put dc_law_v_put pm_law_v_put an_law_v_put cd_law_v_put ct_law_v_put), sl_law_v_put⟩)
    (c_law_v_put : PySem.W.codeIn K cd_law_v_put "_law_v_put" = true)
    (k_law_v_put : PySem.W.keepIn K (.ref f_law_v_put) = true)
    (a_law_v_of : PySem.W.nsIn K mainGlobals "_law_v_of" = some (some (.ref f_law_v_of)))
    (l_law_v_of : K.lookup f_law_v_of = some ⟨oc_law_v_of, od_law_v_of, .func (PySem.W.fnOf "_law_v_of" "_law_v_of" (defArgs s_law_v_of) (defBody s_law_v_of) (defScope s_law_v_of) .none kV_law_v_of dc_law_v_of pm_law_v_of an_law_v_of cd_law_v_of ct_law_v_of), sl_law_v_of⟩)
    (c_law_v_of : PySem.W.codeIn K cd_law_v_of "_law_v_of" = true)
    (k_law_v_of : PySem.W.keepIn K (.ref f_law_v_of) = true)
    (a_law_v_rows : PySem.W.nsIn K mainGlobals "_law_v_rows" = some (some (.ref f_law_v_rows)))
    (l_law_v_rows : K.lookup f_law_v_rows = some ⟨oc_law_v_rows, od_law_v_rows, .func (PySem.W.fnOf "_law_v_rows" "_law_v_rows" (defArgs s_law_v_rows) (defBody s_law_v_rows) (defScope s_law_v_rows) .none kV_law_v_rows dc_law_v_rows pm_law_v_rows an_law_v_rows cd_law_v_rows ct_law_v_rows), sl_law_v_rows⟩)
    (c_law_v_rows : PySem.W.codeIn K cd_law_v_rows "_law_v_rows" = true)
    (k_law_v_rows : PySem.W.keepIn K (.ref f_law_v_rows) = true)
    (a_law_made_plane : PySem.W.nsIn K mainGlobals "_law_made_plane" = some (some (.ref f_law_made_plane)))
    (l_law_made_plane : K.lookup f_law_made_plane = some ⟨oc_law_made_plane, od_law_made_plane, .func (PySem.W.fnOf "_law_made_plane" "_law_made_plane" (defArgs s_law_made_plane) (defBody s_law_made_plane) (defScope s_law_made_plane) .none kV_law_made_plane dc_law_made_plane pm_law_made_plane an_law_made_plane cd_law_made_plane ct_law_made_plane), sl_law_made_plane⟩)
    (c_law_made_plane : PySem.W.codeIn K cd_law_made_plane "_law_made_plane" = true)
    (k_law_made_plane : PySem.W.keepIn K (.ref f_law_made_plane) = true)
    (a_law_v_drawn : PySem.W.nsIn K mainGlobals "_law_v_drawn" = some (some (.ref f_law_v_drawn)))
    (l_law_v_drawn : K.lookup f_law_v_drawn = some ⟨oc_law_v_drawn, od_law_v_drawn, .func (PySem.W.fnOf "_law_v_drawn" "_law_v_drawn" (defArgs s_law_v_drawn) (defBody s_law_v_drawn) (defScope s_law_v_drawn) .none kV_law_v_drawn dc_law_v_drawn pm_law_v_drawn an_law_v_drawn cd_law_v_drawn ct_law_v_drawn), sl_law_v_drawn⟩)
    (c_law_v_drawn : PySem.W.codeIn K cd_law_v_drawn "_law_v_drawn" = true)
    (k_law_v_drawn : PySem.W.keepIn K (.ref f_law_v_drawn) = true)
    (a_law_place : PySem.W.nsIn K mainGlobals "_law_place" = some (some (.ref f_law_place)))
    (l_law_place : K.lookup f_law_place = some ⟨oc_law_place, od_law_place, .func (PySem.W.fnOf "_law_place" "_law_place" (defArgs s_law_place) (defBody s_law_place) (defScope s_law_place) .none kV_law_place dc_law_place pm_law_place an_law_place cd_law_place ct_law_place), sl_law_place⟩)
    (c_law_place : PySem.W.codeIn K cd_law_place "_law_place" = true)
    (k_law_place : PySem.W.keepIn K (.ref f_law_place) = true)
    (a_law_why : PySem.W.nsIn K mainGlobals "_law_why" = some (some (.ref f_law_why)))
    (l_law_why : K.lookup f_law_why = some ⟨oc_law_why, od_law_why, .func (PySem.W.fnOf "_law_why" "_law_why" (defArgs s_law_why) (defBody s_law_why) (defScope s_law_why) .none kV_law_why dc_law_why pm_law_why an_law_why cd_law_why ct_law_why), sl_law_why⟩)
    (c_law_why : PySem.W.codeIn K cd_law_why "_law_why" = true)
    (k_law_why : PySem.W.keepIn K (.ref f_law_why) = true)
    (a_law_any : PySem.W.nsIn K mainGlobals "_law_any" = some (some (.ref f_law_any)))
    (l_law_any : K.lookup f_law_any = some ⟨oc_law_any, od_law_any, .func (PySem.W.fnOf "_law_any" "_law_any" (defArgs s_law_any) (defBody s_law_any) (defScope s_law_any) .none kV_law_any dc_law_any pm_law_any an_law_any cd_law_any ct_law_any), sl_law_any⟩)
    (c_law_any : PySem.W.codeIn K cd_law_any "_law_any" = true)
    (k_law_any : PySem.W.keepIn K (.ref f_law_any) = true)
    (a_law_shown : PySem.W.nsIn K mainGlobals "_law_shown" = some (some (.ref f_law_shown)))
    (l_law_shown : K.lookup f_law_shown = some ⟨oc_law_shown, od_law_shown, .func (PySem.W.fnOf "_law_shown" "_law_shown" (defArgs s_law_shown) (defBody s_law_shown) (defScope s_law_shown) .none kV_law_shown dc_law_shown pm_law_shown an_law_shown cd_law_shown ct_law_shown), sl_law_shown⟩)
    (c_law_shown : PySem.W.codeIn K cd_law_shown "_law_shown" = true)
    (k_law_shown : PySem.W.keepIn K (.ref f_law_shown) = true)
    (a_law_matrix : PySem.W.nsIn K mainGlobals "_law_matrix" = some (some (.ref f_law_matrix)))
    (l_law_matrix : K.lookup f_law_matrix = some ⟨oc_law_matrix, od_law_matrix, .func (PySem.W.fnOf "_law_matrix" "_law_matrix" (defArgs s_law_matrix) (defBody s_law_matrix) (defScope s_law_matrix) .none kV_law_matrix dc_law_matrix pm_law_matrix an_law_matrix cd_law_matrix ct_law_matrix), sl_law_matrix⟩)
    (c_law_matrix : PySem.W.codeIn K cd_law_matrix "_law_matrix" = true)
    (k_law_matrix : PySem.W.keepIn K (.ref f_law_matrix) = true)
    (a_law_flow_at : PySem.W.nsIn K mainGlobals "_law_flow_at" = some (some (.ref f_law_flow_at)))
    (l_law_flow_at : K.lookup f_law_flow_at = some ⟨oc_law_flow_at, od_law_flow_at, .func (PySem.W.fnOf "_law_flow_at" "_law_flow_at" (defArgs s_law_flow_at) (defBody s_law_flow_at) (defScope s_law_flow_at) .none kV_law_flow_at dc_law_flow_at pm_law_flow_at an_law_flow_at cd_law_flow_at ct_law_flow_at), sl_law_flow_at⟩)
    (c_law_flow_at : PySem.W.codeIn K cd_law_flow_at "_law_flow_at" = true)
    (k_law_flow_at : PySem.W.keepIn K (.ref f_law_flow_at) = true)
    (a_law : PySem.W.nsIn K mainGlobals "law" = some (some (.ref f_law)))
    (l_law : K.lookup f_law = some ⟨oc_law, od_law, .func (PySem.W.fnOf "law" "law" (defArgs slaw) (defBody slaw) (defScope slaw) .none kV_law dc_law pm_law an_law (.ref cC_law) ct_law), sl_law⟩)
    (c_law : PySem.W.codeIn K (.ref cC_law) "law" = true)
    (k_law : PySem.W.keepIn K (.ref f_law) = true)
    (hn_ : PySem.W.specialIn K (.builtin "object.__class__") "__get__" = some (some (.builtin "getset_descriptor.__get__")))
    (ht_ : PySem.W.takesIn K (.builtin "object.__class__") = some true)
    (a_BadText : PySem.W.nsIn K mainGlobals "BadText" = some (some (.ref C_BadText)))
    (ga_BadText : PySem.W.findIn K (.ref C_BadText) "__getattribute__" = some (some (.builtin "BaseException.__getattribute__")))
    (gg_BadText : PySem.W.findIn K (.ref C_BadText) "__getattr__" = some none)
    (sb_BadText : PySem.W.subIn K (.ref C_BadText) (.type "BaseException") = some true)
    (hd_BadText : PySem.W.hasDictIn K C_BadText = true)
    (ca_BadText : PySem.W.findIn K (.ref C_BadText) "__class__" = some (some (.builtin "object.__class__")))
    (mo_BadText : PySem.W.mroIn K C_BadText (.type "object") = some true)
    (kp_BadText : PySem.W.keepIn K (.ref C_BadText) = true)
    (xL_BadText : K.lookup C_BadText = some (excClassObj nmI_BadText qI_BadText C_BadText NI_BadText bsI_BadText bmI_BadText true snI_BadText subI_BadText abI_BadText colI_BadText ddI_BadText m0I_BadText m1I_BadText m2I_BadText m3I_BadText m5I_BadText "ValueError.__new__"))
    (rb_BadText : PySem.HandSPX.refsVE bmI_BadText = true)
    (sa_BadText : PySem.W.findIn K (.ref C_BadText) "__setattr__" = some (some (.builtin "object.__setattr__")))
    (ty_BadText : PySem.W.typeIn K (.ref C_BadText) = some (.type "type"))
    (i_BadText : PySem.W.findIn K (.ref C_BadText) "__init__" = some (some (.ref fI_BadText)))
    (t_BadText : PySem.W.typeIn K (.ref fI_BadText) = some (.type "function"))
    (lI_BadText : K.lookup fI_BadText = some ⟨ocI_BadText, odI_BadText, .func (PySem.W.fnOf "__init__" "BadText.__init__" (defArgs (inClass (top 4) 0)) (defBody (inClass (top 4) 0)) (defScope (inClass (top 4) 0)) .none kVI_BadText dcI_BadText pmI_BadText anI_BadText cdI_BadText ctI_BadText), slI_BadText⟩)
    (cI_BadText : PySem.W.codeIn K cdI_BadText "BadText.__init__" = true)
    (kI_BadText : PySem.W.keepIn K (.ref fI_BadText) = true)
    (n_BadText_column : PySem.W.findIn K (.ref C_BadText) "column" = some none)
    (a_BadNumber : PySem.W.nsIn K mainGlobals "BadNumber" = some (some (.ref C_BadNumber)))
    (ga_BadNumber : PySem.W.findIn K (.ref C_BadNumber) "__getattribute__" = some (some (.builtin "BaseException.__getattribute__")))
    (gg_BadNumber : PySem.W.findIn K (.ref C_BadNumber) "__getattr__" = some none)
    (sb_BadNumber : PySem.W.subIn K (.ref C_BadNumber) (.type "BaseException") = some true)
    (hd_BadNumber : PySem.W.hasDictIn K C_BadNumber = true)
    (ca_BadNumber : PySem.W.findIn K (.ref C_BadNumber) "__class__" = some (some (.builtin "object.__class__")))
    (mo_BadNumber : PySem.W.mroIn K C_BadNumber (.type "object") = some true)
    (kp_BadNumber : PySem.W.keepIn K (.ref C_BadNumber) = true)
    (xL_BadNumber : K.lookup C_BadNumber = some (excClassObj nmI_BadNumber qI_BadNumber C_BadNumber NI_BadNumber bsI_BadNumber bmI_BadNumber true snI_BadNumber subI_BadNumber abI_BadNumber colI_BadNumber ddI_BadNumber m0I_BadNumber m1I_BadNumber m2I_BadNumber m3I_BadNumber m5I_BadNumber "ValueError.__new__"))
    (rb_BadNumber : PySem.HandSPX.refsVE bmI_BadNumber = true)
    (sa_BadNumber : PySem.W.findIn K (.ref C_BadNumber) "__setattr__" = some (some (.builtin "object.__setattr__")))
    (ty_BadNumber : PySem.W.typeIn K (.ref C_BadNumber) = some (.type "type"))
    (i_BadNumber : PySem.W.findIn K (.ref C_BadNumber) "__init__" = some (some (.ref fI_BadNumber)))
    (t_BadNumber : PySem.W.typeIn K (.ref fI_BadNumber) = some (.type "function"))
    (lI_BadNumber : K.lookup fI_BadNumber = some ⟨ocI_BadNumber, odI_BadNumber, .func (PySem.W.fnOf "__init__" "BadNumber.__init__" (defArgs (inClass (top 5) 0)) (defBody (inClass (top 5) 0)) (defScope (inClass (top 5) 0)) .none kVI_BadNumber dcI_BadNumber pmI_BadNumber anI_BadNumber cdI_BadNumber ctI_BadNumber), slI_BadNumber⟩)
    (cI_BadNumber : PySem.W.codeIn K cdI_BadNumber "BadNumber.__init__" = true)
    (kI_BadNumber : PySem.W.keepIn K (.ref fI_BadNumber) = true)
    (n_BadNumber_what : PySem.W.findIn K (.ref C_BadNumber) "what" = some none)
    (n_BadNumber_number : PySem.W.findIn K (.ref C_BadNumber) "number" = some none)
    (a_BadRow : PySem.W.nsIn K mainGlobals "BadRow" = some (some (.ref C_BadRow)))
    (ga_BadRow : PySem.W.findIn K (.ref C_BadRow) "__getattribute__" = some (some (.builtin "BaseException.__getattribute__")))
    (gg_BadRow : PySem.W.findIn K (.ref C_BadRow) "__getattr__" = some none)
    (sb_BadRow : PySem.W.subIn K (.ref C_BadRow) (.type "BaseException") = some true)
    (hd_BadRow : PySem.W.hasDictIn K C_BadRow = true)
    (ca_BadRow : PySem.W.findIn K (.ref C_BadRow) "__class__" = some (some (.builtin "object.__class__")))
    (mo_BadRow : PySem.W.mroIn K C_BadRow (.type "object") = some true)
    (kp_BadRow : PySem.W.keepIn K (.ref C_BadRow) = true)
    (xL_BadRow : K.lookup C_BadRow = some (excClassObj nmI_BadRow qI_BadRow C_BadRow NI_BadRow bsI_BadRow bmI_BadRow true snI_BadRow subI_BadRow abI_BadRow colI_BadRow ddI_BadRow m0I_BadRow m1I_BadRow m2I_BadRow m3I_BadRow m5I_BadRow "ValueError.__new__"))
    (rb_BadRow : PySem.HandSPX.refsVE bmI_BadRow = true)
    (sa_BadRow : PySem.W.findIn K (.ref C_BadRow) "__setattr__" = some (some (.builtin "object.__setattr__")))
    (ty_BadRow : PySem.W.typeIn K (.ref C_BadRow) = some (.type "type"))
    (i_BadRow : PySem.W.findIn K (.ref C_BadRow) "__init__" = some (some (.ref fI_BadRow)))
    (t_BadRow : PySem.W.typeIn K (.ref fI_BadRow) = some (.type "function"))
    (lI_BadRow : K.lookup fI_BadRow = some ⟨ocI_BadRow, odI_BadRow, .func (PySem.W.fnOf "__init__" "BadRow.__init__" (defArgs (inClass (top 6) 0)) (defBody (inClass (top 6) 0)) (defScope (inClass (top 6) 0)) .none kVI_BadRow dcI_BadRow pmI_BadRow anI_BadRow cdI_BadRow ctI_BadRow), slI_BadRow⟩)
    (cI_BadRow : PySem.W.codeIn K cdI_BadRow "BadRow.__init__" = true)
    (kI_BadRow : PySem.W.keepIn K (.ref fI_BadRow) = true)
    (n_BadRow_row : PySem.W.findIn K (.ref C_BadRow) "row" = some none)
    (e_xBadNumberBadText : PySem.W.exmOne K (.ref C_BadNumber) (.ref C_BadText) = some false)
    (e_xBadNumberBadNumber : PySem.W.exmOne K (.ref C_BadNumber) (.ref C_BadNumber) = some true)
    (e_xBadRowBadText : PySem.W.exmOne K (.ref C_BadRow) (.ref C_BadText) = some false)
    (e_xBadRowBadNumber : PySem.W.exmOne K (.ref C_BadRow) (.ref C_BadNumber) = some false)
    (e_xBadRowBadRow : PySem.W.exmOne K (.ref C_BadRow) (.ref C_BadRow) = some true)
    (a_Plane : PySem.W.nsIn K mainGlobals "Plane" = some (some (.ref C_Plane)))
    (p_pg : PySem.W.plainGet K C_Plane Str.empty = true)
    (p_hd : PySem.W.hasDictIn K C_Plane = true)
    (p_po : PySem.W.plainOver K C_Plane = true)
    (p_sa : PySem.W.findIn K (.ref C_Plane) "__setattr__" = some (some (.builtin "object.__setattr__")))
    (p_mk : PySem.W.makesIn K C_Plane = true)
    (p_kp : PySem.W.keepIn K (.ref C_Plane) = true)
    (p_norows : PySem.W.findIn K (.ref C_Plane) "rows" = some none)
    (ip_init : PySem.W.findIn K (.ref C_Plane) "__init__" = some (some (.ref fp_init)))
    (np_init : PySem.W.isFn K (.ref fp_init) = true)
    (lp_init : K.lookup fp_init = some ⟨ocp_init, odp_init, .func (PySem.W.fnOf "__init__" "Plane.__init__" (defArgs (inClass tPlane 0)) (defBody (inClass tPlane 0)) (defScope (inClass tPlane 0)) .none kVp_init dcp_init pmp_init anp_init cdp_init ctp_init), slp_init⟩)
    (cp_init : PySem.W.codeIn K cdp_init "Plane.__init__" = true)
    (kp_init : PySem.W.keepIn K (.ref fp_init) = true)
    (ip_eq : PySem.W.findIn K (.ref C_Plane) "__eq__" = some (some (.ref fp_eq)))
    (np_eq : PySem.W.isFn K (.ref fp_eq) = true)
    (lp_eq : K.lookup fp_eq = some ⟨ocp_eq, odp_eq, .func (PySem.W.fnOf "__eq__" "Plane.__eq__" (defArgs (inClass tPlane 1)) (defBody (inClass tPlane 1)) (defScope (inClass tPlane 1)) .none kVp_eq dcp_eq pmp_eq anp_eq cdp_eq ctp_eq), slp_eq⟩)
    (cp_eq : PySem.W.codeIn K cdp_eq "Plane.__eq__" = true)
    (kp_eq : PySem.W.keepIn K (.ref fp_eq) = true)
    (ip_add : PySem.W.findIn K (.ref C_Plane) "__add__" = some (some (.ref fp_add)))
    (np_add : PySem.W.isFn K (.ref fp_add) = true)
    (lp_add : K.lookup fp_add = some ⟨ocp_add, odp_add, .func (PySem.W.fnOf "__add__" "Plane.__add__" (defArgs (inClass tPlane 2)) (defBody (inClass tPlane 2)) (defScope (inClass tPlane 2)) .none kVp_add dcp_add pmp_add anp_add cdp_add ctp_add), slp_add⟩)
    (cp_add : PySem.W.codeIn K cdp_add "Plane.__add__" = true)
    (kp_add : PySem.W.keepIn K (.ref fp_add) = true)
    (ip_radd : PySem.W.findIn K (.ref C_Plane) "__radd__" = some (some (.ref fp_radd)))
    (np_radd : PySem.W.isFn K (.ref fp_radd) = true)
    (lp_radd : K.lookup fp_radd = some ⟨ocp_radd, odp_radd, .func (PySem.W.fnOf "__radd__" "Plane.__radd__" (defArgs (inClass tPlane 3)) (defBody (inClass tPlane 3)) (defScope (inClass tPlane 3)) .none kVp_radd dcp_radd pmp_radd anp_radd cdp_radd ctp_radd), slp_radd⟩)
    (cp_radd : PySem.W.codeIn K cdp_radd "Plane.__radd__" = true)
    (kp_radd : PySem.W.keepIn K (.ref fp_radd) = true)
    (ip_sub : PySem.W.findIn K (.ref C_Plane) "__sub__" = some (some (.ref fp_sub)))
    (np_sub : PySem.W.isFn K (.ref fp_sub) = true)
    (lp_sub : K.lookup fp_sub = some ⟨ocp_sub, odp_sub, .func (PySem.W.fnOf "__sub__" "Plane.__sub__" (defArgs (inClass tPlane 4)) (defBody (inClass tPlane 4)) (defScope (inClass tPlane 4)) .none kVp_sub dcp_sub pmp_sub anp_sub cdp_sub ctp_sub), slp_sub⟩)
    (cp_sub : PySem.W.codeIn K cdp_sub "Plane.__sub__" = true)
    (kp_sub : PySem.W.keepIn K (.ref fp_sub) = true)
    (ip_rsub : PySem.W.findIn K (.ref C_Plane) "__rsub__" = some (some (.ref fp_rsub)))
    (np_rsub : PySem.W.isFn K (.ref fp_rsub) = true)
    (lp_rsub : K.lookup fp_rsub = some ⟨ocp_rsub, odp_rsub, .func (PySem.W.fnOf "__rsub__" "Plane.__rsub__" (defArgs (inClass tPlane 5)) (defBody (inClass tPlane 5)) (defScope (inClass tPlane 5)) .none kVp_rsub dcp_rsub pmp_rsub anp_rsub cdp_rsub ctp_rsub), slp_rsub⟩)
    (cp_rsub : PySem.W.codeIn K cdp_rsub "Plane.__rsub__" = true)
    (kp_rsub : PySem.W.keepIn K (.ref fp_rsub) = true)
    (ip_mul : PySem.W.findIn K (.ref C_Plane) "__mul__" = some (some (.ref fp_mul)))
    (np_mul : PySem.W.isFn K (.ref fp_mul) = true)
    (lp_mul : K.lookup fp_mul = some ⟨ocp_mul, odp_mul, .func (PySem.W.fnOf "__mul__" "Plane.__mul__" (defArgs (inClass tPlane 6)) (defBody (inClass tPlane 6)) (defScope (inClass tPlane 6)) .none kVp_mul dcp_mul pmp_mul anp_mul cdp_mul ctp_mul), slp_mul⟩)
    (cp_mul : PySem.W.codeIn K cdp_mul "Plane.__mul__" = true)
    (kp_mul : PySem.W.keepIn K (.ref fp_mul) = true)
    (ip_rmul : PySem.W.findIn K (.ref C_Plane) "__rmul__" = some (some (.ref fp_rmul)))
    (np_rmul : PySem.W.isFn K (.ref fp_rmul) = true)
    (lp_rmul : K.lookup fp_rmul = some ⟨ocp_rmul, odp_rmul, .func (PySem.W.fnOf "__rmul__" "Plane.__rmul__" (defArgs (inClass tPlane 7)) (defBody (inClass tPlane 7)) (defScope (inClass tPlane 7)) .none kVp_rmul dcp_rmul pmp_rmul anp_rmul cdp_rmul ctp_rmul), slp_rmul⟩)
    (cp_rmul : PySem.W.codeIn K cdp_rmul "Plane.__rmul__" = true)
    (kp_rmul : PySem.W.keepIn K (.ref fp_rmul) = true)
    (ip_neg : PySem.W.findIn K (.ref C_Plane) "__neg__" = some (some (.ref fp_neg)))
    (np_neg : PySem.W.isFn K (.ref fp_neg) = true)
    (lp_neg : K.lookup fp_neg = some ⟨ocp_neg, odp_neg, .func (PySem.W.fnOf "__neg__" "Plane.__neg__" (defArgs (inClass tPlane 8)) (defBody (inClass tPlane 8)) (defScope (inClass tPlane 8)) .none kVp_neg dcp_neg pmp_neg anp_neg cdp_neg ctp_neg), slp_neg⟩)
    (cp_neg : PySem.W.codeIn K cdp_neg "Plane.__neg__" = true)
    (kp_neg : PySem.W.keepIn K (.ref fp_neg) = true)
    (ip_degree : PySem.W.findIn K (.ref C_Plane) "degree" = some (some (.ref fp_degree)))
    (np_degree : PySem.W.isFn K (.ref fp_degree) = true)
    (lp_degree : K.lookup fp_degree = some ⟨ocp_degree, odp_degree, .func (PySem.W.fnOf "degree" "Plane.degree" (defArgs (inClass tPlane 9)) (defBody (inClass tPlane 9)) (defScope (inClass tPlane 9)) .none kVp_degree dcp_degree pmp_degree anp_degree cdp_degree ctp_degree), slp_degree⟩)
    (cp_degree : PySem.W.codeIn K cdp_degree "Plane.degree" = true)
    (kp_degree : PySem.W.keepIn K (.ref fp_degree) = true)
    (ip_at : PySem.W.findIn K (.ref C_Plane) "at" = some (some (.ref fp_at)))
    (np_at : PySem.W.isFn K (.ref fp_at) = true)
    (lp_at : K.lookup fp_at = some ⟨ocp_at, odp_at, .func (PySem.W.fnOf "at" "Plane.at" (defArgs (inClass tPlane 10)) (defBody (inClass tPlane 10)) (defScope (inClass tPlane 10)) .none kVp_at dcp_at pmp_at anp_at cdp_at ctp_at), slp_at⟩)
    (cp_at : PySem.W.codeIn K cdp_at "Plane.at" = true)
    (kp_at : PySem.W.keepIn K (.ref fp_at) = true)
    (ip_slope_x : PySem.W.findIn K (.ref C_Plane) "slope_x" = some (some (.ref fp_slope_x)))
    (np_slope_x : PySem.W.isFn K (.ref fp_slope_x) = true)
    (lp_slope_x : K.lookup fp_slope_x = some ⟨ocp_slope_x, odp_slope_x, .func (PySem.W.fnOf "slope_x" "Plane.slope_x" (defArgs (inClass tPlane 11)) (defBody (inClass tPlane 11)) (defScope (inClass tPlane 11)) .none kVp_slope_x dcp_slope_x pmp_slope_x anp_slope_x cdp_slope_x ctp_slope_x), slp_slope_x⟩)
    (cp_slope_x : PySem.W.codeIn K cdp_slope_x "Plane.slope_x" = true)
    (kp_slope_x : PySem.W.keepIn K (.ref fp_slope_x) = true)
    (ip_slope_y : PySem.W.findIn K (.ref C_Plane) "slope_y" = some (some (.ref fp_slope_y)))
    (np_slope_y : PySem.W.isFn K (.ref fp_slope_y) = true)
    (lp_slope_y : K.lookup fp_slope_y = some ⟨ocp_slope_y, odp_slope_y, .func (PySem.W.fnOf "slope_y" "Plane.slope_y" (defArgs (inClass tPlane 12)) (defBody (inClass tPlane 12)) (defScope (inClass tPlane 12)) .none kVp_slope_y dcp_slope_y pmp_slope_y anp_slope_y cdp_slope_y ctp_slope_y), slp_slope_y⟩)
    (cp_slope_y : PySem.W.codeIn K cdp_slope_y "Plane.slope_y" = true)
    (kp_slope_y : PySem.W.keepIn K (.ref fp_slope_y) = true)
    (ip_along : PySem.W.findIn K (.ref C_Plane) "along" = some (some (.ref fp_along)))
    (np_along : PySem.W.isFn K (.ref fp_along) = true)
    (lp_along : K.lookup fp_along = some ⟨ocp_along, odp_along, .func (PySem.W.fnOf "along" "Plane.along" (defArgs (inClass tPlane 13)) (defBody (inClass tPlane 13)) (defScope (inClass tPlane 13)) .none kVp_along dcp_along pmp_along anp_along cdp_along ctp_along), slp_along⟩)
    (cp_along : PySem.W.codeIn K cdp_along "Plane.along" = true)
    (kp_along : PySem.W.keepIn K (.ref fp_along) = true)
    (ip_moved : PySem.W.findIn K (.ref C_Plane) "moved" = some (some (.ref fp_moved)))
    (np_moved : PySem.W.isFn K (.ref fp_moved) = true)
    (lp_moved : K.lookup fp_moved = some ⟨ocp_moved, odp_moved, .func (PySem.W.fnOf "moved" "Plane.moved" (defArgs (inClass tPlane 14)) (defBody (inClass tPlane 14)) (defScope (inClass tPlane 14)) .none kVp_moved dcp_moved pmp_moved anp_moved cdp_moved ctp_moved), slp_moved⟩)
    (cp_moved : PySem.W.codeIn K cdp_moved "Plane.moved" = true)
    (kp_moved : PySem.W.keepIn K (.ref fp_moved) = true)
    (p_hc : PySem.W.findIn K (.ref C_Plane) "__class__" = some (some (.builtin "object.__class__")))
    (p_hm : PySem.W.mroIn K C_Plane (.type "object") = some true)
    (p_kfint : PySem.W.kitOne K (.type "int") (.ref C_Plane) = some false)
    (p_stint : PySem.W.subIn K (.type "int") (.ref C_Plane) = some false)
    (p_kftuple : PySem.W.kitOne K (.type "tuple") (.ref C_Plane) = some false)
    (p_sttuple : PySem.W.subIn K (.type "tuple") (.ref C_Plane) = some false)
    (p_me : PySem.W.selfFirst K C_Plane = true)
    (p_kl : PySem.W.kitOne K (.ref C_Plane) (.type "list") = some false)
    (p_scint : PySem.W.subIn K (.ref C_Plane) (.type "int") = some false)
    (q_fointAdd : PySem.W.findIn K (.type "int") "__add__" = some fointAdd)
    (q_rointAdd : PySem.W.findIn K (.type "int") "__radd__" = some rointAdd)
    (q_xintAdd : ((fointAdd.isSome && !isSeqSlot fointAdd) || (rointAdd.isSome && !isSeqSlot rointAdd)) = true)
    (q_fointSub : PySem.W.findIn K (.type "int") "__sub__" = some fointSub)
    (q_rointSub : PySem.W.findIn K (.type "int") "__rsub__" = some rointSub)
    (q_xintSub : ((fointSub.isSome && !isSeqSlot fointSub) || (rointSub.isSome && !isSeqSlot rointSub)) = true)
    (q_fointMult : PySem.W.findIn K (.type "int") "__mul__" = some fointMult)
    (q_rointMult : PySem.W.findIn K (.type "int") "__rmul__" = some rointMult)
    (q_xintMult : ((fointMult.isSome && !isSeqSlot fointMult) || (rointMult.isSome && !isSeqSlot rointMult)) = true)
    (p_sctuple : PySem.W.subIn K (.ref C_Plane) (.type "tuple") = some false)
    (q_fotupleAdd : PySem.W.findIn K (.type "tuple") "__add__" = some fotupleAdd)
    (q_rotupleAdd : PySem.W.findIn K (.type "tuple") "__radd__" = some rotupleAdd)
    (q_xtupleAdd : ((fotupleAdd.isSome && !isSeqSlot fotupleAdd) || (rotupleAdd.isSome && !isSeqSlot rotupleAdd)) = false)
    (q_fotupleSub : PySem.W.findIn K (.type "tuple") "__sub__" = some fotupleSub)
    (q_rotupleSub : PySem.W.findIn K (.type "tuple") "__rsub__" = some rotupleSub)
    (q_xtupleSub : ((fotupleSub.isSome && !isSeqSlot fotupleSub) || (rotupleSub.isSome && !isSeqSlot rotupleSub)) = false)
    (q_fotupleMult : PySem.W.findIn K (.type "tuple") "__mul__" = some fotupleMult)
    (q_rotupleMult : PySem.W.findIn K (.type "tuple") "__rmul__" = some rotupleMult)
    (q_xtupleMult : ((fotupleMult.isSome && !isSeqSlot fotupleMult) || (rotupleMult.isSome && !isSeqSlot rotupleMult)) = false)
    (a_Poly : PySem.W.nsIn K mainGlobals "Poly" = some (some (.ref C_Poly)))
    (o_pg : PySem.W.plainGet K C_Poly Str.empty = true)
    (o_hd : PySem.W.hasDictIn K C_Poly = true)
    (o_po : PySem.W.plainOver K C_Poly = true)
    (o_sa : PySem.W.findIn K (.ref C_Poly) "__setattr__" = some (some (.builtin "object.__setattr__")))
    (o_mk : PySem.W.makesIn K C_Poly = true)
    (o_kp : PySem.W.keepIn K (.ref C_Poly) = true)
    (o_nonumbers : PySem.W.findIn K (.ref C_Poly) "numbers" = some none)
    (io_init : PySem.W.findIn K (.ref C_Poly) "__init__" = some (some (.ref fo_init)))
    (no_init : PySem.W.isFn K (.ref fo_init) = true)
    (lo_init : K.lookup fo_init = some ⟨oco_init, odo_init, .func (PySem.W.fnOf "__init__" "Poly.__init__" (defArgs (inClass tPoly 0)) (defBody (inClass tPoly 0)) (defScope (inClass tPoly 0)) .none kVo_init dco_init pmo_init ano_init cdo_init cto_init), slo_init⟩)
    (co_init : PySem.W.codeIn K cdo_init "Poly.__init__" = true)
    (ko_init : PySem.W.keepIn K (.ref fo_init) = true)
    (io_at : PySem.W.findIn K (.ref C_Poly) "at" = some (some (.ref fo_at)))
    (no_at : PySem.W.isFn K (.ref fo_at) = true)
    (lo_at : K.lookup fo_at = some ⟨oco_at, odo_at, .func (PySem.W.fnOf "at" "Poly.at" (defArgs (inClass tPoly 10)) (defBody (inClass tPoly 10)) (defScope (inClass tPoly 10)) .none kVo_at dco_at pmo_at ano_at cdo_at cto_at), slo_at⟩)
    (co_at : PySem.W.codeIn K cdo_at "Poly.at" = true)
    (ko_at : PySem.W.keepIn K (.ref fo_at) = true)
    (o_hc : PySem.W.findIn K (.ref C_Poly) "__class__" = some (some (.builtin "object.__class__")))
    (o_hm : PySem.W.mroIn K C_Poly (.type "object") = some true)
    (o_kfint : PySem.W.kitOne K (.type "int") (.ref C_Poly) = some false)
    (o_stint : PySem.W.subIn K (.type "int") (.ref C_Poly) = some false)
    (o_kftuple : PySem.W.kitOne K (.type "tuple") (.ref C_Poly) = some false)
    (o_sttuple : PySem.W.subIn K (.type "tuple") (.ref C_Poly) = some false)
    (o_ks : PySem.W.kitOne K (.ref C_Poly) (.ref C_Poly) = some true)
    (fin : Txt K mg → PlaneT K mg → PolyT K mg → (fDat K (fA mg "law")).code = .ref cC_law → Z) : Z := fin {
  int := PySem.W.mg_none_of X G z_int
  bool := PySem.W.mg_none_of X G z_bool
  list := PySem.W.mg_none_of X G z_list
  tuple := PySem.W.mg_none_of X G z_tuple
  len := PySem.W.mg_none_of X G z_len
  range := PySem.W.mg_none_of X G z_range
  isinstance := PySem.W.mg_none_of X G z_isinstance
  repr := PySem.W.mg_none_of X G z_repr
  abs := PySem.W.mg_none_of X G z_abs
  all := PySem.W.mg_none_of X G z_all
  max := PySem.W.mg_none_of X G z_max
  min := PySem.W.mg_none_of X G z_min
  reversed := PySem.W.mg_none_of X G z_reversed
  enumerate := PySem.W.mg_none_of X G z_enumerate
  sorted := PySem.W.mg_none_of X G z_sorted
  dict := PySem.W.mg_none_of X G z_dict
  zip := PySem.W.mg_none_of X G z_zip
  NotImplemented := PySem.W.mg_none_of X G z_NotImplemented
  gcd := PySem.W.mg_of X G g_gcd
  lcm := PySem.W.mg_of X G g_lcm
  _wall := Df.mk' X G a_wall l_wall c_wall k_wall fun _ _ _ _ _ _ us hl => match us, hl with | [_], _ => rfl
  is_ratio := Df.mk' X G a_is_ratio l_is_ratio c_is_ratio k_is_ratio fun _ _ _ _ _ _ us hl => match us, hl with | [_], _ => rfl
  told := Df.mk' X G a_told l_told c_told k_told fun _ _ _ _ _ _ us hl => match us, hl with | [_, _], _ => rfl
  plus := Df.mk' X G a_plus l_plus c_plus k_plus fun _ _ _ _ _ _ us hl => match us, hl with | [_, _], _ => rfl
  is_integer := Df.mk' X G a_is_integer l_is_integer c_is_integer k_is_integer fun _ _ _ _ _ _ us hl => match us, hl with | [_], _ => rfl
  _parts := Df.mk' X G a_parts l_parts c_parts k_parts fun _ _ _ _ _ _ us hl => match us, hl with | [_, _], _ => rfl
  _lowest := Df.mk' X G a_lowest l_lowest c_lowest k_lowest fun _ _ _ _ _ _ us hl => match us, hl with | [_, _], _ => rfl
  is_row := Df.mk' X G a_is_row l_is_row c_is_row k_is_row fun _ _ _ _ _ _ us hl => match us, hl with | [_], _ => rfl
  is_row_of := Df.mk' X G a_is_row_of l_is_row_of c_is_row_of k_is_row_of fun _ _ _ _ _ _ us hl => match us, hl with | [_, _], _ => rfl
  is_place := Df.mk' X G a_is_place l_is_place c_is_place k_is_place fun _ _ _ _ _ _ us hl => match us, hl with | [_], _ => rfl
  pair_of := Df.mk' X G a_pair_of l_pair_of c_pair_of k_pair_of fun _ _ _ _ _ _ us hl => match us, hl with | [_], _ => rfl
  place_of := Df.mk' X G a_place_of l_place_of c_place_of k_place_of fun _ _ _ _ _ _ us hl => match us, hl with | [_], _ => rfl
  is_strict_ratio := Df.mk' X G a_is_strict_ratio l_is_strict_ratio c_is_strict_ratio k_is_strict_ratio fun _ _ _ _ _ _ us hl => match us, hl with | [_], _ => rfl
  bottom_of := Df.mk' X G a_bottom_of l_bottom_of c_bottom_of k_bottom_of fun _ _ _ _ _ _ us hl => match us, hl with | [_], _ => rfl
  whole_row := Df.mk' X G a_whole_row l_whole_row c_whole_row k_whole_row fun _ _ _ _ _ _ us hl => match us, hl with | [_], _ => rfl
  whole_rows := Df.mk' X G a_whole_rows l_whole_rows c_whole_rows k_whole_rows fun _ _ _ _ _ _ us hl => match us, hl with | [_], _ => rfl
  top_power := Df.mk' X G a_top_power l_top_power c_top_power k_top_power fun _ _ _ _ _ _ us hl => match us, hl with | [_], _ => rfl
  total := Df.mk' X G a_total l_total c_total k_total fun _ _ _ _ _ _ us hl => match us, hl with | [_], _ => rfl
  _joined := Df.mk' X G a_joined l_joined c_joined k_joined fun _ _ _ _ _ _ us hl => match us, hl with | [_], _ => rfl
  row_product := Df.mk' X G a_row_product l_row_product c_row_product k_row_product fun _ _ _ _ _ _ us hl => match us, hl with | [_, _], _ => rfl
  _beside := Df.mk' X G a_beside l_beside c_beside k_beside fun _ _ _ _ _ _ us hl => match us, hl with | [_], _ => rfl
  _number := Df.mk' X G a_number l_number c_number k_number fun _ _ _ _ _ _ us hl => match us, hl with | [_, _], _ => rfl
  _sum := Df.mk' X G a_sum l_sum c_sum k_sum fun _ _ _ _ _ _ us hl => match us, hl with | [_, _], _ => rfl
  _product := Df.mk' X G a_product l_product c_product k_product fun _ _ _ _ _ _ us hl => match us, hl with | [_, _], _ => rfl
  _are_rows := Df.mk' X G a_are_rows l_are_rows c_are_rows k_are_rows fun _ _ _ _ _ _ us hl => match us, hl with | [_], _ => rfl
  _shortened := Df.mk' X G a_shortened l_shortened c_shortened k_shortened fun _ _ _ _ _ _ us hl => match us, hl with | [_], _ => rfl
  _plane_beside := Df.mk' X G a_plane_beside l_plane_beside c_plane_beside k_plane_beside fun _ _ _ _ _ _ us hl => match us, hl with | [_], _ => rfl
  _row := Df.mk' X G a_row l_row c_row k_row fun _ _ _ _ _ _ us hl => match us, hl with | [_, _], _ => rfl
  _plane_sum := Df.mk' X G a_plane_sum l_plane_sum c_plane_sum k_plane_sum fun _ _ _ _ _ _ us hl => match us, hl with | [_, _], _ => rfl
  _row_sum := Df.mk' X G a_row_sum l_row_sum c_row_sum k_row_sum fun _ _ _ _ _ _ us hl => match us, hl with | [_, _], _ => rfl
  _plane_product := Df.mk' X G a_plane_product l_plane_product c_plane_product k_plane_product fun _ _ _ _ _ _ us hl => match us, hl with | [_, _], _ => rfl
  _facing := Df.mk' X G a_facing l_facing c_facing k_facing fun _ _ _ _ _ _ us hl => match us, hl with | [_, _, _], _ => rfl
  _product_row := Df.mk' X G a_product_row l_product_row c_product_row k_product_row fun _ _ _ _ _ _ us hl => match us, hl with | [_], _ => rfl
  _crossed_pairs := Df.mk' X G a_crossed_pairs l_crossed_pairs c_crossed_pairs k_crossed_pairs fun _ _ _ _ _ _ us hl => match us, hl with | [_, _], _ => rfl
  _value_at := Df.mk' X G a_value_at l_value_at c_value_at k_value_at fun _ _ _ _ _ _ us hl => match us, hl with | [_, _, _], _ => rfl
  _scaled := Df.mk' X G a_scaled l_scaled c_scaled k_scaled fun _ _ _ _ _ _ us hl => match us, hl with | [_, _, _], _ => rfl
  moved_whole := Df.mk' X G a_moved_whole l_moved_whole c_moved_whole k_moved_whole fun _ _ _ _ _ _ us hl => match us, hl with | [_, _, _, _, _], _ => rfl
  _times_line := Df.mk' X G a_times_line l_times_line c_times_line k_times_line fun _ _ _ _ _ _ us hl => match us, hl with | [_, _], _ => rfl
  _plane_of_numbers := Df.mk' X G a_plane_of_numbers l_plane_of_numbers c_plane_of_numbers k_plane_of_numbers fun _ _ _ _ _ _ us hl => match us, hl with | [_, _], _ => rfl
  _law_pen := Df.mk' X G a_law_pen l_law_pen c_law_pen k_law_pen fun _ _ _ _ _ _ us hl => match us, hl with | [_], _ => rfl
  _law_draw := Df.mk' X G a_law_draw l_law_draw c_law_draw k_law_draw fun _ _ _ _ _ _ us hl => match us, hl with | [_, _], _ => rfl
  _law_pick := Df.mk' X G a_law_pick l_law_pick c_law_pick k_law_pick fun _ _ _ _ _ _ us hl => match us, hl with | [_, _], _ => rfl
  _law_gcd := Df.mk' X G a_law_gcd l_law_gcd c_law_gcd k_law_gcd fun _ _ _ _ _ _ us hl => match us, hl with | [_, _], _ => rfl
  _law_q := Df.mk' X G a_law_q l_law_q c_law_q k_law_q fun _ _ _ _ _ _ us hl => match us, hl with | [_, _], _ => rfl
  _law_plus := Df.mk' X G a_law_plus l_law_plus c_law_plus k_law_plus fun _ _ _ _ _ _ us hl => match us, hl with | [_, _], _ => rfl
  _law_times := Df.mk' X G a_law_times l_law_times c_law_times k_law_times fun _ _ _ _ _ _ us hl => match us, hl with | [_, _], _ => rfl
  _law_passed := Df.mk' X G a_law_passed l_law_passed c_law_passed k_law_passed fun _ _ _ _ _ _ us hl => match us, hl with | [_, _], _ => rfl
  _law_ratio := Df.mk' X G a_law_ratio l_law_ratio c_law_ratio k_law_ratio fun _ _ _ _ _ _ us hl => match us, hl with | [_, _], _ => rfl
  _law_poly := Df.mk' X G a_law_poly l_law_poly c_law_poly k_law_poly fun _ _ _ _ _ _ us hl => match us, hl with | [_], _ => rfl
  _law_p_plus := Df.mk' X G a_law_p_plus l_law_p_plus c_law_p_plus k_law_p_plus fun _ _ _ _ _ _ us hl => match us, hl with | [_, _], _ => rfl
  _law_p_times := Df.mk' X G a_law_p_times l_law_p_times c_law_p_times k_law_p_times fun _ _ _ _ _ _ us hl => match us, hl with | [_, _], _ => rfl
  _law_v_plain := Df.mk' X G a_law_v_plain l_law_v_plain c_law_v_plain k_law_v_plain fun _ _ _ _ _ _ us hl => match us, hl with | [_], _ => rfl
  _law_v_plus := Df.mk' X G a_law_v_plus l_law_v_plus c_law_v_plus k_law_v_plus fun _ _ _ _ _ _ us hl => match us, hl with | [_, _], _ => rfl
  _law_v_scaled := Df.mk' X G a_law_v_scaled l_law_v_scaled c_law_v_scaled k_law_v_scaled fun _ _ _ _ _ _ us hl => match us, hl with | [_, _], _ => rfl
  _law_v_times := Df.mk' X G a_law_v_times l_law_v_times c_law_v_times k_law_v_times fun _ _ _ _ _ _ us hl => match us, hl with | [_, _], _ => rfl
  _law_v_power := Df.mk' X G a_law_v_power l_law_v_power c_law_v_power k_law_v_power fun _ _ _ _ _ _ us hl => match us, hl with | [_, _], _ => rfl
  _law_v_along := Df.mk' X G a_law_v_along l_law_v_along c_law_v_along k_law_v_along fun _ _ _ _ _ _ us hl => match us, hl with | [_, _, _], _ => rfl
  _law_v_put := Df.mk' X G a_law_v_put l_law_v_put c_law_v_put k_law_v_put fun _ _ _ _ _ _ us hl => match us, hl with | [_, _], _ => rfl
  _law_v_of := Df.mk' X G a_law_v_of l_law_v_of c_law_v_of k_law_v_of fun _ _ _ _ _ _ us hl => match us, hl with | [_], _ => rfl
  _law_v_rows := Df.mk' X G a_law_v_rows l_law_v_rows c_law_v_rows k_law_v_rows fun _ _ _ _ _ _ us hl => match us, hl with | [_], _ => rfl
  _law_made_plane := Df.mk' X G a_law_made_plane l_law_made_plane c_law_made_plane k_law_made_plane fun _ _ _ _ _ _ us hl => match us, hl with | [_, _], _ => rfl
  _law_v_drawn := Df.mk' X G a_law_v_drawn l_law_v_drawn c_law_v_drawn k_law_v_drawn fun _ _ _ _ _ _ us hl => match us, hl with | [_, _, _], _ => rfl
  _law_place := Df.mk' X G a_law_place l_law_place c_law_place k_law_place fun _ _ _ _ _ _ us hl => match us, hl with | [_, _], _ => rfl
  _law_why := Df.mk' X G a_law_why l_law_why c_law_why k_law_why fun _ _ _ _ _ _ us hl => match us, hl with | [_], _ => rfl
  _law_any := Df.mk' X G a_law_any l_law_any c_law_any k_law_any fun _ _ _ _ _ _ us hl => match us, hl with | [_], _ => rfl
  _law_shown := Df.mk' X G a_law_shown l_law_shown c_law_shown k_law_shown fun _ _ _ _ _ _ us hl => match us, hl with | [_, _], _ => rfl
  _law_matrix := Df.mk' X G a_law_matrix l_law_matrix c_law_matrix k_law_matrix fun _ _ _ _ _ _ us hl => match us, hl with | [_, _], _ => rfl
  _law_flow_at := Df.mk' X G a_law_flow_at l_law_flow_at c_law_flow_at k_law_flow_at fun _ _ _ _ _ _ us hl => match us, hl with | [_, _, _], _ => rfl
  law := Df.mk' X G a_law l_law c_law k_law fun _ _ _ _ _ _ us hl => match us, hl with | [_], _ => rfl
  BadText := ClI.mk' X G a_BadText ⟨ga_BadText, gg_BadText, sb_BadText, hd_BadText, ca_BadText, hn_, ht_, mo_BadText⟩ ⟨⟨_, _, _, _, _, _, _, _, _, _, _, _, _, _, _, xL_BadText, rb_BadText⟩, sa_BadText, sb_BadText, ty_BadText, kp_BadText⟩ i_BadText t_BadText lI_BadText cI_BadText kI_BadText (fun _ _ _ _ _ _ us hl => match us, hl with | [_, _], _ => rfl) (List.forall_mem_cons.mpr ⟨n_BadText_column, List.forall_mem_nil _⟩)
  BadNumber := ClI.mk' X G a_BadNumber ⟨ga_BadNumber, gg_BadNumber, sb_BadNumber, hd_BadNumber, ca_BadNumber, hn_, ht_, mo_BadNumber⟩ ⟨⟨_, _, _, _, _, _, _, _, _, _, _, _, _, _, _, xL_BadNumber, rb_BadNumber⟩, sa_BadNumber, sb_BadNumber, ty_BadNumber, kp_BadNumber⟩ i_BadNumber t_BadNumber lI_BadNumber cI_BadNumber kI_BadNumber (fun _ _ _ _ _ _ us hl => match us, hl with | [_, _, _], _ => rfl) (List.forall_mem_cons.mpr ⟨n_BadNumber_what, List.forall_mem_cons.mpr ⟨n_BadNumber_number, List.forall_mem_nil _⟩⟩)
  BadRow := ClI.mk' X G a_BadRow ⟨ga_BadRow, gg_BadRow, sb_BadRow, hd_BadRow, ca_BadRow, hn_, ht_, mo_BadRow⟩ ⟨⟨_, _, _, _, _, _, _, _, _, _, _, _, _, _, _, xL_BadRow, rb_BadRow⟩, sa_BadRow, sb_BadRow, ty_BadRow, kp_BadRow⟩ i_BadRow t_BadRow lI_BadRow cI_BadRow kI_BadRow (fun _ _ _ _ _ _ us hl => match us, hl with | [_, _], _ => rfl) (List.forall_mem_cons.mpr ⟨n_BadRow_row, List.forall_mem_nil _⟩)
  xBadNumberBadText := by rw [fA_of (PySem.W.mg_of X G a_BadNumber), fA_of (PySem.W.mg_of X G a_BadText)]; exact e_xBadNumberBadText
  xBadNumberBadNumber := by rw [fA_of (PySem.W.mg_of X G a_BadNumber)]; exact e_xBadNumberBadNumber
  xBadRowBadText := by rw [fA_of (PySem.W.mg_of X G a_BadRow), fA_of (PySem.W.mg_of X G a_BadText)]; exact e_xBadRowBadText
  xBadRowBadNumber := by rw [fA_of (PySem.W.mg_of X G a_BadRow), fA_of (PySem.W.mg_of X G a_BadNumber)]; exact e_xBadRowBadNumber
  xBadRowBadRow := by rw [fA_of (PySem.W.mg_of X G a_BadRow)]; exact e_xBadRowBadRow
  lb := fun s u => by rw [fA_of (PySem.W.mg_of X G a_law), fDat_of l_law]; exact .of_eq rfl } (planeT_of (PySem.W.mg_of X G a_Plane) ⟨p_pg, p_hd, p_po, p_sa⟩ ⟨p_mk, ip_init, np_init, p_kp⟩ p_norows (Me.mk' ip_init np_init lp_init cp_init kp_init (fun _ _ _ _ _ _ us hl => match us, hl with | [_, _], _ => rfl)) (Me.mk' ip_eq np_eq lp_eq cp_eq kp_eq (fun _ _ _ _ _ _ us hl => match us, hl with | [_, _], _ => rfl)) (Me.mk' ip_add np_add lp_add cp_add kp_add (fun _ _ _ _ _ _ us hl => match us, hl with | [_, _], _ => rfl)) (Me.mk' ip_radd np_radd lp_radd cp_radd kp_radd (fun _ _ _ _ _ _ us hl => match us, hl with | [_, _], _ => rfl)) (Me.mk' ip_sub np_sub lp_sub cp_sub kp_sub (fun _ _ _ _ _ _ us hl => match us, hl with | [_, _], _ => rfl)) (Me.mk' ip_rsub np_rsub lp_rsub cp_rsub kp_rsub (fun _ _ _ _ _ _ us hl => match us, hl with | [_, _], _ => rfl)) (Me.mk' ip_mul np_mul lp_mul cp_mul kp_mul (fun _ _ _ _ _ _ us hl => match us, hl with | [_, _], _ => rfl)) (Me.mk' ip_rmul np_rmul lp_rmul cp_rmul kp_rmul (fun _ _ _ _ _ _ us hl => match us, hl with | [_, _], _ => rfl)) (Me.mk' ip_neg np_neg lp_neg cp_neg kp_neg (fun _ _ _ _ _ _ us hl => match us, hl with | [_], _ => rfl)) (Me.mk' ip_degree np_degree lp_degree cp_degree kp_degree (fun _ _ _ _ _ _ us hl => match us, hl with | [_], _ => rfl)) (Me.mk' ip_at np_at lp_at cp_at kp_at (fun _ _ _ _ _ _ us hl => match us, hl with | [_, _], _ => rfl)) (Me.mk' ip_slope_x np_slope_x lp_slope_x cp_slope_x kp_slope_x (fun _ _ _ _ _ _ us hl => match us, hl with | [_], _ => rfl)) (Me.mk' ip_slope_y np_slope_y lp_slope_y cp_slope_y kp_slope_y (fun _ _ _ _ _ _ us hl => match us, hl with | [_], _ => rfl)) (Me.mk' ip_along np_along lp_along cp_along kp_along (fun _ _ _ _ _ _ us hl => match us, hl with | [_, _, _], _ => rfl)) (Me.mk' ip_moved np_moved lp_moved cp_moved kp_moved (fun _ _ _ _ _ _ us hl => match us, hl with | [_, _, _], _ => rfl)) p_me p_hc hn_ ht_ p_hm (fun T h => by (rcases h with rfl | rfl; exact p_kfint; exact p_kftuple)) (fun T h => by (rcases h with rfl | rfl; exact p_stint; exact p_sttuple)) p_kl (fun T h => by (rcases h with rfl | rfl; exact p_scint; exact p_sctuple)) (fun op ho => by (rcases ho with rfl | rfl | rfl; (rw [dn_add, dr_add]; exact ⟨⟨_, _, q_fointAdd, q_rointAdd, q_xintAdd⟩, _, _, q_fotupleAdd, q_rotupleAdd, q_xtupleAdd⟩); (rw [dn_sub, dr_sub]; exact ⟨⟨_, _, q_fointSub, q_rointSub, q_xintSub⟩, _, _, q_fotupleSub, q_rotupleSub, q_xtupleSub⟩); (rw [dn_mul, dr_mul]; exact ⟨⟨_, _, q_fointMult, q_rointMult, q_xintMult⟩, _, _, q_fotupleMult, q_rotupleMult, q_xtupleMult⟩)))) (polyT_of (PySem.W.mg_of X G a_Poly) ⟨o_pg, o_hd, o_po, o_sa⟩ ⟨o_mk, io_init, no_init, o_kp⟩ o_nonumbers (Me.mk' io_init no_init lo_init co_init ko_init (fun _ _ _ _ _ _ us hl => match us, hl with | [_, _], _ => rfl)) (Me.mk' io_at no_at lo_at co_at ko_at (fun _ _ _ _ _ _ us hl => match us, hl with | [_, _], _ => rfl)) o_hc hn_ ht_ o_hm o_ks (fun T h => by (rcases h with rfl | rfl; exact o_kfint; exact o_kftuple)) (fun T h => by (rcases h with rfl | rfl; exact o_stint; exact o_sttuple))) (by rw [fA_of (PySem.W.mg_of X G a_law), fDat_of l_law])
end LW
open PySem PySem.W PyProof.Rows
set_option maxRecDepth 100000 in
set_option maxHeartbeats 0 in
theorem PySem.Challenge.cw_flowpapers_k05_whole_lines_and_moved_pol_holds : PySem.Challenge.rw_flowpapers_k05_whole_lines_and_moved_pol.Holds := by
  w_on; o_law; k_head; (case hw => w_witness2)
  k_fill
  refine GL.walk_GT (l := PySem.Challenge.rw_flowpapers_k05_whole_lines_and_moved_pol) (n := 63) (k := 20) (x := "_law_script") rfl (by decide) rfl ⟨rfl, by decide, by decide⟩ (fun w h Y => PySem.W.km_in_of Y) ?F
  case F =>
    intro w mg fa h Y KX G hmg
    have hT8 := PySem.W.km_tabs_of Y
    refine' LW.facts KX G ?z_int ?z_bool ?z_list ?z_tuple ?z_len ?z_range ?z_isinstance ?z_repr ?z_abs ?z_all ?z_max ?z_min ?z_reversed ?z_enumerate ?z_sorted ?z_dict ?z_zip ?z_NotImplemented ?g_gcd ?g_lcm ?a_wall ?l_wall ?c_wall ?k_wall ?a_is_ratio ?l_is_ratio ?c_is_ratio ?k_is_ratio ?a_told ?l_told ?c_told ?k_told ?a_plus ?l_plus ?c_plus ?k_plus ?a_is_integer ?l_is_integer ?c_is_integer ?k_is_integer ?a_parts ?l_parts ?c_parts ?k_parts ?a_lowest ?l_lowest ?c_lowest ?k_lowest ?a_is_row ?l_is_row ?c_is_row ?k_is_row ?a_is_row_of ?l_is_row_of ?c_is_row_of ?k_is_row_of ?a_is_place ?l_is_place ?c_is_place ?k_is_place ?a_pair_of ?l_pair_of ?c_pair_of ?k_pair_of ?a_place_of ?l_place_of ?c_place_of ?k_place_of ?a_is_strict_ratio ?l_is_strict_ratio ?c_is_strict_ratio ?k_is_strict_ratio ?a_bottom_of ?l_bottom_of ?c_bottom_of ?k_bottom_of ?a_whole_row ?l_whole_row ?c_whole_row ?k_whole_row ?a_whole_rows ?l_whole_rows ?c_whole_rows ?k_whole_rows ?a_top_power ?l_top_power ?c_top_power ?k_top_power ?a_total ?l_total ?c_total ?k_total ?a_joined ?l_joined ?c_joined ?k_joined ?a_row_product ?l_row_product ?c_row_product ?k_row_product ?a_beside ?l_beside ?c_beside ?k_beside ?a_number ?l_number ?c_number ?k_number ?a_sum ?l_sum ?c_sum ?k_sum ?a_product ?l_product ?c_product ?k_product ?a_are_rows ?l_are_rows ?c_are_rows ?k_are_rows ?a_shortened ?l_shortened ?c_shortened ?k_shortened ?a_plane_beside ?l_plane_beside ?c_plane_beside ?k_plane_beside ?a_row ?l_row ?c_row ?k_row ?a_plane_sum ?l_plane_sum ?c_plane_sum ?k_plane_sum ?a_row_sum ?l_row_sum ?c_row_sum ?k_row_sum ?a_plane_product ?l_plane_product ?c_plane_product ?k_plane_product ?a_facing ?l_facing ?c_facing ?k_facing ?a_product_row ?l_product_row ?c_product_row ?k_product_row ?a_crossed_pairs ?l_crossed_pairs ?c_crossed_pairs ?k_crossed_pairs ?a_value_at ?l_value_at ?c_value_at ?k_value_at ?a_scaled ?l_scaled ?c_scaled ?k_scaled ?a_moved_whole ?l_moved_whole ?c_moved_whole ?k_moved_whole ?a_times_line ?l_times_line ?c_times_line ?k_times_line ?a_plane_of_numbers ?l_plane_of_numbers ?c_plane_of_numbers ?k_plane_of_numbers ?a_law_pen ?l_law_pen ?c_law_pen ?k_law_pen ?a_law_draw ?l_law_draw ?c_law_draw ?k_law_draw ?a_law_pick ?l_law_pick ?c_law_pick ?k_law_pick ?a_law_gcd ?l_law_gcd ?c_law_gcd ?k_law_gcd ?a_law_q ?l_law_q ?c_law_q ?k_law_q ?a_law_plus ?l_law_plus ?c_law_plus ?k_law_plus ?a_law_times ?l_law_times ?c_law_times ?k_law_times ?a_law_passed ?l_law_passed ?c_law_passed ?k_law_passed ?a_law_ratio ?l_law_ratio ?c_law_ratio ?k_law_ratio ?a_law_poly ?l_law_poly ?c_law_poly ?k_law_poly ?a_law_p_plus ?l_law_p_plus ?c_law_p_plus ?k_law_p_plus ?a_law_p_times ?l_law_p_times ?c_law_p_times ?k_law_p_times ?a_law_v_plain ?l_law_v_plain ?c_law_v_plain ?k_law_v_plain ?a_law_v_plus ?l_law_v_plus ?c_law_v_plus ?k_law_v_plus ?a_law_v_scaled ?l_law_v_scaled ?c_law_v_scaled ?k_law_v_scaled ?a_law_v_times ?l_law_v_times ?c_law_v_times ?k_law_v_times ?a_law_v_power ?l_law_v_power ?c_law_v_power ?k_law_v_power ?a_law_v_along ?l_law_v_along ?c_law_v_along ?k_law_v_along ?a_law_v_put ?l_law_v_put ?c_law_v_put ?k_law_v_put ?a_law_v_of ?l_law_v_of ?c_law_v_of ?k_law_v_of ?a_law_v_rows ?l_law_v_rows ?c_law_v_rows ?k_law_v_rows ?a_law_made_plane ?l_law_made_plane ?c_law_made_plane ?k_law_made_plane ?a_law_v_drawn ?l_law_v_drawn ?c_law_v_drawn ?k_law_v_drawn ?a_law_place ?l_law_place ?c_law_place ?k_law_place ?a_law_why ?l_law_why ?c_law_why ?k_law_why ?a_law_any ?l_law_any ?c_law_any ?k_law_any ?a_law_shown ?l_law_shown ?c_law_shown ?k_law_shown ?a_law_matrix ?l_law_matrix ?c_law_matrix ?k_law_matrix ?a_law_flow_at ?l_law_flow_at ?c_law_flow_at ?k_law_flow_at ?a_law ?l_law ?c_law ?k_law ?hn_ ?ht_ ?a_BadText ?ga_BadText ?gg_BadText ?sb_BadText ?hd_BadText ?ca_BadText ?mo_BadText ?kp_BadText ?xL_BadText ?rb_BadText ?sa_BadText ?ty_BadText ?i_BadText ?t_BadText ?lI_BadText ?cI_BadText ?kI_BadText ?n_BadText_column ?a_BadNumber ?ga_BadNumber ?gg_BadNumber ?sb_BadNumber ?hd_BadNumber ?ca_BadNumber ?mo_BadNumber ?kp_BadNumber ?xL_BadNumber ?rb_BadNumber ?sa_BadNumber ?ty_BadNumber ?i_BadNumber ?t_BadNumber ?lI_BadNumber ?cI_BadNumber ?kI_BadNumber ?n_BadNumber_what ?n_BadNumber_number ?a_BadRow ?ga_BadRow ?gg_BadRow ?sb_BadRow ?hd_BadRow ?ca_BadRow ?mo_BadRow ?kp_BadRow ?xL_BadRow ?rb_BadRow ?sa_BadRow ?ty_BadRow ?i_BadRow ?t_BadRow ?lI_BadRow ?cI_BadRow ?kI_BadRow ?n_BadRow_row ?e_xBadNumberBadText ?e_xBadNumberBadNumber ?e_xBadRowBadText ?e_xBadRowBadNumber ?e_xBadRowBadRow ?a_Plane ?p_pg ?p_hd ?p_po ?p_sa ?p_mk ?p_kp ?p_norows ?ip_init ?np_init ?lp_init ?cp_init ?kp_init ?ip_eq ?np_eq ?lp_eq ?cp_eq ?kp_eq ?ip_add ?np_add ?lp_add ?cp_add ?kp_add ?ip_radd ?np_radd ?lp_radd ?cp_radd ?kp_radd ?ip_sub ?np_sub ?lp_sub ?cp_sub ?kp_sub ?ip_rsub ?np_rsub ?lp_rsub ?cp_rsub ?kp_rsub ?ip_mul ?np_mul ?lp_mul ?cp_mul ?kp_mul ?ip_rmul ?np_rmul ?lp_rmul ?cp_rmul ?kp_rmul ?ip_neg ?np_neg ?lp_neg ?cp_neg ?kp_neg ?ip_degree ?np_degree ?lp_degree ?cp_degree ?kp_degree ?ip_at ?np_at ?lp_at ?cp_at ?kp_at ?ip_slope_x ?np_slope_x ?lp_slope_x ?cp_slope_x ?kp_slope_x ?ip_slope_y ?np_slope_y ?lp_slope_y ?cp_slope_y ?kp_slope_y ?ip_along ?np_along ?lp_along ?cp_along ?kp_along ?ip_moved ?np_moved ?lp_moved ?cp_moved ?kp_moved ?p_hc ?p_hm ?p_kfint ?p_stint ?p_kftuple ?p_sttuple ?p_me ?p_kl ?p_scint ?q_fointAdd ?q_rointAdd ?q_xintAdd ?q_fointSub ?q_rointSub ?q_xintSub ?q_fointMult ?q_rointMult ?q_xintMult ?p_sctuple ?q_fotupleAdd ?q_rotupleAdd ?q_xtupleAdd ?q_fotupleSub ?q_rotupleSub ?q_xtupleSub ?q_fotupleMult ?q_rotupleMult ?q_xtupleMult ?a_Poly ?o_pg ?o_hd ?o_po ?o_sa ?o_mk ?o_kp ?o_nonumbers ?io_init ?no_init ?lo_init ?co_init ?ko_init ?io_at ?no_at ?lo_at ?co_at ?ko_at ?o_hc ?o_hm ?o_kfint ?o_stint ?o_kftuple ?o_sttuple ?o_ks ?fin
    (case z_int => k_is); (case z_bool => k_is); (case z_list => k_is); (case z_tuple => k_is); (case z_len => k_is); (case z_range => k_is); (case z_isinstance => k_is); (case z_repr => k_is); (case z_abs => k_is); (case z_all => k_is); (case z_max => k_is); (case z_min => k_is); (case z_reversed => k_is); (case z_enumerate => k_is); (case z_sorted => k_is); (case z_dict => k_is); (case z_zip => k_is); (case z_NotImplemented => k_is); (case g_gcd => k_is); (case g_lcm => k_is); (case a_wall => k_is); (case l_wall => k_is); (case c_wall => k_is); (case k_wall => k_is); (case a_is_ratio => k_is); (case l_is_ratio => k_is); (case c_is_ratio => k_is); (case k_is_ratio => k_is); (case a_told => k_is); (case l_told => k_is); (case c_told => k_is); (case k_told => k_is); (case a_plus => k_is); (case l_plus => k_is); (case c_plus => k_is); (case k_plus => k_is); (case a_is_integer => k_is); (case l_is_integer => k_is); (case c_is_integer => k_is); (case k_is_integer => k_is); (case a_parts => k_is); (case l_parts => k_is); (case c_parts => k_is); (case k_parts => k_is); (case a_lowest => k_is); (case l_lowest => k_is); (case c_lowest => k_is); (case k_lowest => k_is); (case a_is_row => k_is); (case l_is_row => k_is); (case c_is_row => k_is); (case k_is_row => k_is); (case a_is_row_of => k_is); (case l_is_row_of => k_is); (case c_is_row_of => k_is); (case k_is_row_of => k_is); (case a_is_place => k_is); (case l_is_place => k_is); (case c_is_place => k_is); (case k_is_place => k_is); (case a_pair_of => k_is); (case l_pair_of => k_is); (case c_pair_of => k_is); (case k_pair_of => k_is); (case a_place_of => k_is); (case l_place_of => k_is); (case c_place_of => k_is); (case k_place_of => k_is); (case a_is_strict_ratio => k_is); (case l_is_strict_ratio => k_is); (case c_is_strict_ratio => k_is); (case k_is_strict_ratio => k_is); (case a_bottom_of => k_is); (case l_bottom_of => k_is); (case c_bottom_of => k_is); (case k_bottom_of => k_is); (case a_whole_row => k_is); (case l_whole_row => k_is); (case c_whole_row => k_is); (case k_whole_row => k_is); (case a_whole_rows => k_is); (case l_whole_rows => k_is); (case c_whole_rows => k_is); (case k_whole_rows => k_is); (case a_top_power => k_is); (case l_top_power => k_is); (case c_top_power => k_is); (case k_top_power => k_is); (case a_total => k_is); (case l_total => k_is); (case c_total => k_is); (case k_total => k_is); (case a_joined => k_is); (case l_joined => k_is); (case c_joined => k_is); (case k_joined => k_is); (case a_row_product => k_is); (case l_row_product => k_is); (case c_row_product => k_is); (case k_row_product => k_is); (case a_beside => k_is); (case l_beside => k_is); (case c_beside => k_is); (case k_beside => k_is); (case a_number => k_is); (case l_number => k_is); (case c_number => k_is); (case k_number => k_is); (case a_sum => k_is); (case l_sum => k_is); (case c_sum => k_is); (case k_sum => k_is); (case a_product => k_is); (case l_product => k_is); (case c_product => k_is); (case k_product => k_is); (case a_are_rows => k_is); (case l_are_rows => k_is); (case c_are_rows => k_is); (case k_are_rows => k_is); (case a_shortened => k_is); (case l_shortened => k_is); (case c_shortened => k_is); (case k_shortened => k_is); (case a_plane_beside => k_is); (case l_plane_beside => k_is); (case c_plane_beside => k_is); (case k_plane_beside => k_is); (case a_row => k_is); (case l_row => k_is); (case c_row => k_is); (case k_row => k_is); (case a_plane_sum => k_is); (case l_plane_sum => k_is); (case c_plane_sum => k_is); (case k_plane_sum => k_is); (case a_row_sum => k_is); (case l_row_sum => k_is); (case c_row_sum => k_is); (case k_row_sum => k_is); (case a_plane_product => k_is); (case l_plane_product => k_is); (case c_plane_product => k_is); (case k_plane_product => k_is); (case a_facing => k_is); (case l_facing => k_is); (case c_facing => k_is); (case k_facing => k_is); (case a_product_row => k_is); (case l_product_row => k_is); (case c_product_row => k_is); (case k_product_row => k_is); (case a_crossed_pairs => k_is); (case l_crossed_pairs => k_is); (case c_crossed_pairs => k_is); (case k_crossed_pairs => k_is); (case a_value_at => k_is); (case l_value_at => k_is); (case c_value_at => k_is); (case k_value_at => k_is); (case a_scaled => k_is); (case l_scaled => k_is); (case c_scaled => k_is); (case k_scaled => k_is); (case a_moved_whole => k_is); (case l_moved_whole => k_is); (case c_moved_whole => k_is); (case k_moved_whole => k_is); (case a_times_line => k_is); (case l_times_line => k_is); (case c_times_line => k_is); (case k_times_line => k_is); (case a_plane_of_numbers => k_is); (case l_plane_of_numbers => k_is); (case c_plane_of_numbers => k_is); (case k_plane_of_numbers => k_is); (case a_law_pen => k_is); (case l_law_pen => k_is); (case c_law_pen => k_is); (case k_law_pen => k_is); (case a_law_draw => k_is); (case l_law_draw => k_is); (case c_law_draw => k_is); (case k_law_draw => k_is); (case a_law_pick => k_is); (case l_law_pick => k_is); (case c_law_pick => k_is); (case k_law_pick => k_is); (case a_law_gcd => k_is); (case l_law_gcd => k_is); (case c_law_gcd => k_is); (case k_law_gcd => k_is); (case a_law_q => k_is); (case l_law_q => k_is); (case c_law_q => k_is); (case k_law_q => k_is); (case a_law_plus => k_is); (case l_law_plus => k_is); (case c_law_plus => k_is); (case k_law_plus => k_is); (case a_law_times => k_is); (case l_law_times => k_is); (case c_law_times => k_is); (case k_law_times => k_is); (case a_law_passed => k_is); (case l_law_passed => k_is); (case c_law_passed => k_is); (case k_law_passed => k_is); (case a_law_ratio => k_is); (case l_law_ratio => k_is); (case c_law_ratio => k_is); (case k_law_ratio => k_is); (case a_law_poly => k_is); (case l_law_poly => k_is); (case c_law_poly => k_is); (case k_law_poly => k_is); (case a_law_p_plus => k_is); (case l_law_p_plus => k_is); (case c_law_p_plus => k_is); (case k_law_p_plus => k_is); (case a_law_p_times => k_is); (case l_law_p_times => k_is); (case c_law_p_times => k_is); (case k_law_p_times => k_is); (case a_law_v_plain => k_is); (case l_law_v_plain => k_is); (case c_law_v_plain => k_is); (case k_law_v_plain => k_is); (case a_law_v_plus => k_is); (case l_law_v_plus => k_is); (case c_law_v_plus => k_is); (case k_law_v_plus => k_is); (case a_law_v_scaled => k_is); (case l_law_v_scaled => k_is); (case c_law_v_scaled => k_is); (case k_law_v_scaled => k_is); (case a_law_v_times => k_is); (case l_law_v_times => k_is); (case c_law_v_times => k_is); (case k_law_v_times => k_is); (case a_law_v_power => k_is); (case l_law_v_power => k_is); (case c_law_v_power => k_is); (case k_law_v_power => k_is); (case a_law_v_along => k_is); (case l_law_v_along => k_is); (case c_law_v_along => k_is); (case k_law_v_along => k_is); (case a_law_v_put => k_is); (case l_law_v_put => k_is); (case c_law_v_put => k_is); (case k_law_v_put => k_is); (case a_law_v_of => k_is); (case l_law_v_of => k_is); (case c_law_v_of => k_is); (case k_law_v_of => k_is); (case a_law_v_rows => k_is); (case l_law_v_rows => k_is); (case c_law_v_rows => k_is); (case k_law_v_rows => k_is); (case a_law_made_plane => k_is); (case l_law_made_plane => k_is); (case c_law_made_plane => k_is); (case k_law_made_plane => k_is); (case a_law_v_drawn => k_is); (case l_law_v_drawn => k_is); (case c_law_v_drawn => k_is); (case k_law_v_drawn => k_is); (case a_law_place => k_is); (case l_law_place => k_is); (case c_law_place => k_is); (case k_law_place => k_is); (case a_law_why => k_is); (case l_law_why => k_is); (case c_law_why => k_is); (case k_law_why => k_is); (case a_law_any => k_is); (case l_law_any => k_is); (case c_law_any => k_is); (case k_law_any => k_is); (case a_law_shown => k_is); (case l_law_shown => k_is); (case c_law_shown => k_is); (case k_law_shown => k_is); (case a_law_matrix => k_is); (case l_law_matrix => k_is); (case c_law_matrix => k_is); (case k_law_matrix => k_is); (case a_law_flow_at => k_is); (case l_law_flow_at => k_is); (case c_law_flow_at => k_is); (case k_law_flow_at => k_is); (case a_law => k_is); (case l_law => k_is); (case c_law => k_is); (case k_law => k_is); (case hn_ => k_is); (case ht_ => k_is); (case a_BadText => k_is); (case ga_BadText => k_is); (case gg_BadText => k_is); (case sb_BadText => k_is); (case hd_BadText => k_is); (case ca_BadText => k_is); (case mo_BadText => k_is); (case kp_BadText => k_is); (case xL_BadText => k_is); (case rb_BadText => decide +kernel); (case sa_BadText => k_is); (case ty_BadText => k_is); (case i_BadText => k_is); (case t_BadText => k_is); (case lI_BadText => k_is); (case cI_BadText => k_is); (case kI_BadText => k_is); (case n_BadText_column => k_is); (case a_BadNumber => k_is); (case ga_BadNumber => k_is); (case gg_BadNumber => k_is); (case sb_BadNumber => k_is); (case hd_BadNumber => k_is); (case ca_BadNumber => k_is); (case mo_BadNumber => k_is); (case kp_BadNumber => k_is); (case xL_BadNumber => k_is); (case rb_BadNumber => decide +kernel); (case sa_BadNumber => k_is); (case ty_BadNumber => k_is); (case i_BadNumber => k_is); (case t_BadNumber => k_is); (case lI_BadNumber => k_is); (case cI_BadNumber => k_is); (case kI_BadNumber => k_is); (case n_BadNumber_what => k_is); (case n_BadNumber_number => k_is); (case a_BadRow => k_is); (case ga_BadRow => k_is); (case gg_BadRow => k_is); (case sb_BadRow => k_is); (case hd_BadRow => k_is); (case ca_BadRow => k_is); (case mo_BadRow => k_is); (case kp_BadRow => k_is); (case xL_BadRow => k_is); (case rb_BadRow => decide +kernel); (case sa_BadRow => k_is); (case ty_BadRow => k_is); (case i_BadRow => k_is); (case t_BadRow => k_is); (case lI_BadRow => k_is); (case cI_BadRow => k_is); (case kI_BadRow => k_is); (case n_BadRow_row => k_is); (case e_xBadNumberBadText => kernel_rfl); (case e_xBadNumberBadNumber => kernel_rfl); (case e_xBadRowBadText => kernel_rfl); (case e_xBadRowBadNumber => kernel_rfl); (case e_xBadRowBadRow => kernel_rfl); (case a_Plane => k_is); (case p_pg => (first | k_is | kernel_rfl)); (case p_hd => (first | k_is | kernel_rfl)); (case p_po => (first | k_is | kernel_rfl)); (case p_sa => k_is); (case p_mk => (first | k_is | kernel_rfl)); (case p_kp => (first | k_is | kernel_rfl)); (case p_norows => (first | k_is | kernel_rfl)); (case ip_init => k_is); (case np_init => (first | k_is | kernel_rfl)); (case lp_init => k_is); (case cp_init => k_is); (case kp_init => k_is); (case ip_eq => k_is); (case np_eq => (first | k_is | kernel_rfl)); (case lp_eq => k_is); (case cp_eq => k_is); (case kp_eq => k_is); (case ip_add => k_is); (case np_add => (first | k_is | kernel_rfl)); (case lp_add => k_is); (case cp_add => k_is); (case kp_add => k_is); (case ip_radd => k_is); (case np_radd => (first | k_is | kernel_rfl)); (case lp_radd => k_is); (case cp_radd => k_is); (case kp_radd => k_is); (case ip_sub => k_is); (case np_sub => (first | k_is | kernel_rfl)); (case lp_sub => k_is); (case cp_sub => k_is); (case kp_sub => k_is); (case ip_rsub => k_is); (case np_rsub => (first | k_is | kernel_rfl)); (case lp_rsub => k_is); (case cp_rsub => k_is); (case kp_rsub => k_is); (case ip_mul => k_is); (case np_mul => (first | k_is | kernel_rfl)); (case lp_mul => k_is); (case cp_mul => k_is); (case kp_mul => k_is); (case ip_rmul => k_is); (case np_rmul => (first | k_is | kernel_rfl)); (case lp_rmul => k_is); (case cp_rmul => k_is); (case kp_rmul => k_is); (case ip_neg => k_is); (case np_neg => (first | k_is | kernel_rfl)); (case lp_neg => k_is); (case cp_neg => k_is); (case kp_neg => k_is); (case ip_degree => k_is); (case np_degree => (first | k_is | kernel_rfl)); (case lp_degree => k_is); (case cp_degree => k_is); (case kp_degree => k_is); (case ip_at => k_is); (case np_at => (first | k_is | kernel_rfl)); (case lp_at => k_is); (case cp_at => k_is); (case kp_at => k_is); (case ip_slope_x => k_is); (case np_slope_x => (first | k_is | kernel_rfl)); (case lp_slope_x => k_is); (case cp_slope_x => k_is); (case kp_slope_x => k_is); (case ip_slope_y => k_is); (case np_slope_y => (first | k_is | kernel_rfl)); (case lp_slope_y => k_is); (case cp_slope_y => k_is); (case kp_slope_y => k_is); (case ip_along => k_is); (case np_along => (first | k_is | kernel_rfl)); (case lp_along => k_is); (case cp_along => k_is); (case kp_along => k_is); (case ip_moved => k_is); (case np_moved => (first | k_is | kernel_rfl)); (case lp_moved => k_is); (case cp_moved => k_is); (case kp_moved => k_is); (case p_hc => k_is); (case p_hm => (first | k_is | kernel_rfl)); (case p_kfint => (first | k_is | kernel_rfl)); (case p_stint => (first | k_is | kernel_rfl)); (case p_kftuple => (first | k_is | kernel_rfl)); (case p_sttuple => (first | k_is | kernel_rfl)); (case p_me => (first | k_is | kernel_rfl)); (case p_kl => (first | k_is | kernel_rfl)); (case p_scint => (first | k_is | kernel_rfl)); (case q_fointAdd => k_is); (case q_rointAdd => k_is); (case q_xintAdd => (first | k_is | kernel_rfl)); (case q_fointSub => k_is); (case q_rointSub => k_is); (case q_xintSub => (first | k_is | kernel_rfl)); (case q_fointMult => k_is); (case q_rointMult => k_is); (case q_xintMult => (first | k_is | kernel_rfl)); (case p_sctuple => (first | k_is | kernel_rfl)); (case q_fotupleAdd => k_is); (case q_rotupleAdd => k_is); (case q_xtupleAdd => (first | k_is | kernel_rfl)); (case q_fotupleSub => k_is); (case q_rotupleSub => k_is); (case q_xtupleSub => (first | k_is | kernel_rfl)); (case q_fotupleMult => k_is); (case q_rotupleMult => k_is); (case q_xtupleMult => (first | k_is | kernel_rfl)); (case a_Poly => k_is); (case o_pg => (first | k_is | kernel_rfl)); (case o_hd => (first | k_is | kernel_rfl)); (case o_po => (first | k_is | kernel_rfl)); (case o_sa => k_is); (case o_mk => (first | k_is | kernel_rfl)); (case o_kp => (first | k_is | kernel_rfl)); (case o_nonumbers => (first | k_is | kernel_rfl)); (case io_init => k_is); (case no_init => (first | k_is | kernel_rfl)); (case lo_init => k_is); (case co_init => k_is); (case ko_init => k_is); (case io_at => k_is); (case no_at => (first | k_is | kernel_rfl)); (case lo_at => k_is); (case co_at => k_is); (case ko_at => k_is); (case o_hc => k_is); (case o_hm => (first | k_is | kernel_rfl)); (case o_kfint => (first | k_is | kernel_rfl)); (case o_stint => (first | k_is | kernel_rfl)); (case o_kftuple => (first | k_is | kernel_rfl)); (case o_sttuple => (first | k_is | kernel_rfl)); (case o_ks => (first | k_is | kernel_rfl))
    case fin =>
      intro T TP TPoly h1
      have e : fa = GL.fA mg "law" := by
        have q := hmg.symm.trans T.law.g
        exact Value.ref.inj (Option.some.inj q)
      subst e
      have t1 := hT8 _ (List.mem_cons_self ..)
      exact LW.fin_law T TP TPoly h1 t1 (Option.isNone_iff_eq_none.mp (by kernel_rfl)) (by kernel_rfl)
