import PyProof.Rows.All
import Wide.All
import OpenK.AllK
import Wide.FinOn
import HandS.ForMost
import HandS.Exc
import HandS.WordsExc
import HandS.ExcInit
import HandS.ExcIs
import HandS.ExcField
import HandS.Gcd
import HandS.Wide
import HandS.More
import HandS.IsInst
import HandS.Codes
import HandS.EndBits
import HandS.TupAny
import HandS.Evl
import HandS.Zip
import KE.KExcIs
import HandS.ExcOwn
import HandS.CallSlots
import PySem.Challenge.RW_textworths_k01_numbers
set_option Elab.async false
set_option linter.all false
set_option maxRecDepth 100000
set_option maxHeartbeats 4000000
namespace TW
open PySem PySem.Spec PyProof.Rows L2
/-! ### defs of the text, and calls of them -/
/-- the def st of the top, called x, stands under its name -/
structure DefAt (K : PySem.W.Frag) (mg : Str → Option Value) (x : Str) (st : Stmt) (ps : List Str) : Prop where
  ex : ∃ (f : Addr) (fd : FuncData), mg x = some (.ref f) ∧ Fun K x x st f fd ∧ Binds K fd ps []
/-- .. and keeps a promise -/
structure FnAt (P : Program) (w : World) (K : PySem.W.Frag) (mg : Str → Option Value) (base : Heap) (CX : CXT) (k : Nat) (x : Str) (st : Stmt) (ps : List Str) (sp : Sp) : Prop where
  ex : ∃ (f : Addr) (fd : FuncData), FnOk P w K mg base CX k f fd ps sp ∧ mg x = some (.ref f) ∧ Fun K x x st f fd ∧ Binds K fd ps []
/-- how keywords bind: those of ks, in their order, behind the positional ones -/
structure KB (st : Stmt) (ps ks : List Str) (g : List Value → List Value → List Value) (gV : List V → List V → List V) : Prop where
  to : ∀ (x qual : Str) (kV doc pm : Value) (an : Option Addr) (cdv ct : Value) (us ws : List Value), (g us ws).length = ps.length →
    bindArgs (PySem.W.fnOf x qual (defArgs st) (defBody st) (defScope st) .none kV doc pm an cdv ct) ⟨us, ks.zip ws⟩ = pure (ps.zip (g us ws))
  rel : ∀ {vs : List V} {us : List Value} {zs : List V} {ws : List Value}, Vals vs us → Vals zs ws → Vals (gV vs zs) (g us ws)
section
variable {P : Program} {w : World} {K : PySem.W.Frag} {mg : Str → Option Value} {base : Heap}
theorem mkFn {x : Str} {st : Stmt} {N ps : List Str} {k : Nat} {sp : Sp} (D : DefAt K mg x st ps) (S : FnScope N ps (defScope st)) (len : ∀ vs H Q E, sp vs H Q E → vs.length = ps.length)
    (hbody : ∀ (f : Addr) (cdv : Value) (A : Around) (outer : List Env) (s : Shared) (H : Hp) (vs : List V) (Q : VK) (E : XK), Room k (A.deeper (envOfC x (defScope st) s.heap.objs.size f cdv)) → sp vs H Q E →
      ∃ t, PSs (cxOf CX0 P w K mg base N x (defScope st) f cdv A outer s H E).nox (defBody st) t ∧ t { nx := fun _ H' => Q .non H', rt := Q } (start N vs) H) : FnAt P w K mg base CX0 (k + 1) x st ps sp := by
  obtain ⟨f, fd, h1, h2, h3⟩ := D.ex
  exact ⟨f, fd, h2.ok S len (hbody f), h1, h2, h3⟩
theorem mkFnX {x : Str} {st : Stmt} {N ps : List Str} {k : Nat} {sp : Sp} (D : DefAt K mg x st ps) (S : FnScope N ps (defScope st)) (len : ∀ vs H Q E, sp vs H Q E → vs.length = ps.length)
    (hbody : ∀ (f : Addr) (cdv : Value) (A : Around) (outer : List Env) (s : Shared) (H : Hp) (vs : List V) (Q : VK) (E : XK), Room k (A.deeper (envOfC x (defScope st) s.heap.objs.size f cdv)) → sp vs H Q E →
      ∃ t, PSs (cxOf (L2.CX P w) P w K mg base N x (defScope st) f cdv A outer s H E) (defBody st) t ∧ t { nx := fun _ H' => Q .non H', rt := Q } (start N vs) H) : FnAt P w K mg base (L2.CX P w) (k + 1) x st ps sp := by
  obtain ⟨f, fd, h1, h2, h3⟩ := D.ex
  exact ⟨f, fd, h2.okX S len (hbody f), h1, h2, h3⟩
theorem FnAt.mono {CX : CXT} {j k : Nat} {x : Str} {st : Stmt} {ps : List Str} {sp : Sp} (F : FnAt P w K mg base CX j x st ps sp) (h : j ≤ k) : FnAt P w K mg base CX k x st ps sp := by
  obtain ⟨f, fd, h0, h1⟩ := F.ex
  exact ⟨f, fd, h0.mono h, h1⟩
theorem FnAt.imp {CX : CXT} {k : Nat} {x : Str} {st : Stmt} {ps : List Str} {sp sp' : Sp} (F : FnAt P w K mg base CX k x st ps sp) (h : ∀ vs H Q E, sp' vs H Q E → sp vs H Q E) : FnAt P w K mg base CX k x st ps sp' := by
  obtain ⟨f, fd, h0, h1⟩ := F.ex
  exact ⟨f, fd, h0.imp h, h1⟩
theorem Fun.kb {x qual : Str} {st : Stmt} {f : Addr} {fd : FuncData} {ps ks : List Str} {g : List Value → List Value → List Value} {gV : List V → List V → List V} (F : Fun K x qual st f fd) (h : KB st ps ks g gV) : KBinds K fd ps ks g gV := by
  obtain ⟨oc, od, kV, doc, pm, an, cdv, ct, osl, rfl, lk, hcd⟩ := F.ex
  exact ⟨fun s us ws _ hl => .of_eq (h.to _ _ _ _ _ _ _ _ us ws hl), h.rel⟩
end
section
variable {X : Cx} {CX : CXT} {k j : Nat} {x : Str} {sp : Sp} {st : Stmt} {ps ks : List Str} {p pos : Pos} {e : Expr} {es : List Expr} {kws : List Keyword} {t tk : TA} {g : List Value → List Value → List Value} {gV : List V → List V → List V}
theorem pe_c (c : FnAt X.prog X.w X.K X.mg X.base CX0 k x st ps sp) (hr : Room j X.A) (hk : k ≤ j) (hg : Gl X x) (ha : PA X (e :: es) t)
    (hdb : (x == ("__debug__" : Str)) = false := by decide) (he : starEach (e :: es) X.env = (false, eval e X.env) :: starEach es X.env := by rfl) (hpl : (backTo pos (starEach es X.env)).any (·.1) = false := by rfl) :
    PE X (.Call (.Name x p) (e :: es) [] pos) (tCall sp [] E0 t) := by
  obtain ⟨f, fd, F, hm, fn, b⟩ := c.ex
  exact pe_call F (hr.mono hk) hg hm fn.kp b .nil pass0 ha hdb he hpl
/-- f(k = v, ..) -/
theorem pe_ck (c : FnAt X.prog X.w X.K X.mg X.base CX0 k x st ps sp) (kb : KB st ps ks g gV) (hr : Room j X.A) (hk : k ≤ j) (hg : Gl X x) (hkw : PK X kws tk)
    (hall : (backToKw pos (keywordEach kws X.env)).all (·.1.isSome) = true := by rfl) (hks : (backToKw pos (keywordEach kws X.env)).filterMap (·.1) = ks := by rfl) (hdb : (x == ("__debug__" : Str)) = false := by decide)
    (hpl : ((backTo pos (starEach [] X.env)).any (·.1) || (backToKw pos (keywordEach kws X.env)).any (·.1.isNone)) = false := by rfl) :
    PE X (.Call (.Name x p) [] kws pos) (tCallK sp gV E0 tNil tk) := by
  obtain ⟨f, fd, F, hm, fn, b⟩ := c.ex
  refine ⟨fun pins s σ H Q I h => ?_⟩
  refine wpAny_Call_Name_kw (ld_glob I hg hm ?_ hdb)
  refine PySem.W.callWith_KW0 (h₀ := X.base) I.ok.mod.kin fn.kp hall ?_ hpl
  refine thn (hkw.run pos pins s σ H _ I h) fun ws s2 ⟨zs, H2, I2, rz, q2⟩ => ⟨I2.kIn, ?_⟩
  rw [hks]
  exact run_fnk F (hr.mono hk) (Fun.kb fn kb) pass0 I2 .nil rz q2
/-- f(e, .., k = v, ..) -/
theorem pe_ckp (c : FnAt X.prog X.w X.K X.mg X.base CX0 k x st ps sp) (kb : KB st ps ks g gV) (hr : Room j X.A) (hk : k ≤ j) (hg : Gl X x) (ha : PA X (e :: es) t) (hkw : PK X kws tk)
    (hall : (backToKw pos (keywordEach kws X.env)).all (·.1.isSome) = true := by rfl) (hks : (backToKw pos (keywordEach kws X.env)).filterMap (·.1) = ks := by rfl) (hdb : (x == ("__debug__" : Str)) = false := by decide)
    (he : starEach (e :: es) X.env = (false, eval e X.env) :: starEach es X.env := by rfl)
    (hpl : ((backTo pos (starEach (e :: es) X.env)).any (·.1) || (backToKw pos (keywordEach kws X.env)).any (·.1.isNone)) = false := by rfl) :
    PE X (.Call (.Name x p) (e :: es) kws pos) (tCallK sp gV E0 t tk) := by
  obtain ⟨f, fd, F, hm, fn, b⟩ := c.ex
  exact pe_callK F (hr.mono hk) hg hm fn.kp (Fun.kb fn kb) pass0 ha hkw hall hks hdb he hpl
end
end TW

namespace TW
open PySem PySem.Spec PyProof.Rows L2
/-! ### readings, one step at a time -/
section
variable {K : PySem.W.Frag} {σ : L2.St} {H : Hp} {Q : VK} {i j : Nat} {x y v z : V} {ta tb te tc : TE} {t u : TS} {c d : TT} {g : TG} {nx bk ct : L2.St → Hp → Prop} {rt : VK} {xs ys : List V} {a b p : Addr} {m n : Int}
theorem x_seq (h : t ⟨u ⟨nx, rt, bk, ct⟩, rt, bk, ct⟩ σ H) : tSeq t u ⟨nx, rt, bk, ct⟩ σ H := h
theorem x_cut (Mid : L2.St → Hp → Prop) (h : t ⟨Mid, rt, bk, ct⟩ σ H) (h2 : ∀ σ' H', Mid σ' H' → u ⟨nx, rt, bk, ct⟩ σ' H') : Evl.tCut t u ⟨nx, rt, bk, ct⟩ σ H := ⟨Mid, h, h2⟩
theorem x_next (h : nx σ H) : tNext ⟨nx, rt, bk, ct⟩ σ H := h
theorem x_brk (h : bk σ H) : tBreak ⟨nx, rt, bk, ct⟩ σ H := h
theorem x_ct (h : ct σ H) : tCont ⟨nx, rt, bk, ct⟩ σ H := h
theorem x_asg (h : te σ H fun x H1 => g x σ H1 nx) : tAsg te g ⟨nx, rt, bk, ct⟩ σ H := h
theorem x_ret (h : te σ H rt) : tRet te ⟨nx, rt, bk, ct⟩ σ H := h
theorem x_retN (h : rt .non H) : tRetN ⟨nx, rt, bk, ct⟩ σ H := h
theorem x_drop (h : te σ H fun _ H1 => nx σ H1) : tDrop te ⟨nx, rt, bk, ct⟩ σ H := h
theorem x_ifs (h : c σ H fun b H1 => if b = true then t ⟨nx, rt, bk, ct⟩ σ H1 else u ⟨nx, rt, bk, ct⟩ σ H1) : tIfS c t u ⟨nx, rt, bk, ct⟩ σ H := h
theorem x_par {ta : TA} (h : ta σ H fun vs H1 => ∃ v w, vs = [v, w] ∧ nx ((σ.set i (some v)).set j (some w)) H1) : tPar i j ta ⟨nx, rt, bk, ct⟩ σ H := h
theorem x_par2 {r : V → V → Prop} (h : r v z) : ∃ v' w', [v, z] = [v', w'] ∧ r v' w' := ⟨v, z, rfl, h⟩
theorem x_while (W : Nat → L2.St → Hp → Prop) (m0 : Nat) (h0 : W m0 σ H) (hs : ∀ m σ H, W m σ H → c σ H fun b H1 => if b = true then t ⟨fun σ' H' => ∃ m', m' < m ∧ W m' σ' H', rt, nx, fun σ' H' => ∃ m', m' < m ∧ W m' σ' H'⟩ σ H1 else nx σ H1)
    (mono : ∀ σ H (Q Q' : Bool → Hp → Prop), (∀ b H1, Q b H1 → Q' b H1) → c σ H Q → c σ H Q') : tWhile c t ⟨nx, rt, bk, ct⟩ σ H :=
  ⟨W, ⟨m0, h0⟩, fun m σ H w => mono σ H _ _ (fun b H1 q => by
    cases b with
    | true => exact ⟨_, fun _ _ n => n, q⟩
    | false => exact q) (hs m σ H w)⟩
theorem x_for {wi : TI} (h : wi σ H fun J H1 => ∃ W : Nat → Nat → L2.St → Hp → Prop, (∃ m, W 0 m σ H1) ∧ ∀ i m σ H, W i m σ H →
  (J.stop i H ∧ nx σ H) ∨ (J.go i H ∧ ∃ N : L2.St → Hp → Prop, (∀ σ' H', N σ' H' → ∃ m', m' < m ∧ W (i + 1) m' σ' H') ∧ ∀ x H', J.yld i H x H' → g x σ H' fun σ2 H2 => t ⟨N, rt, nx, N⟩ σ2 H2)) : tFor wi g t ⟨nx, rt, bk, ct⟩ σ H := h
theorem x_iL {R : It → Hp → Prop} (h : ta σ H fun x H1 => ∃ a, x = .ref a ∧ (∃ xs, SqL K H1 a xs) ∧ R (Itl K a) H1) : iList K ta σ H R := h
theorem x_iT {R : It → Hp → Prop} (h : ta σ H fun x H1 => ∃ a, x = .ref a ∧ (∃ xs, SqT K H1 a xs) ∧ R (Itt K a) H1) : iTup K ta σ H R := h
theorem x_iR {R : It → Hp → Prop} {u : TA} (h : u σ H fun vs H1 => ∃ j : Int, vs = [.int j] ∧ -(2 ^ 62) ≤ j ∧ j < 2 ^ 62 ∧ R (Itr 0 j.toNat) H1) : iRng1 u σ H R := h
theorem x_iZ {R : It → Hp → Prop} {u : TA} (h : u σ H fun vs H1 => ∃ a b xs ys, vs = [.ref a, .ref b] ∧ SqL K H1 a xs ∧ SqL K H1 b ys ∧ R (Itz K a b) H1) : iZip K u σ H R := h
/-- for x in a list that the body leaves -/
theorem x_forL (s : SqL K H a xs) (Pv : Nat → L2.St → Hp → Prop) (h0 : Pv 0 σ H) (hl : ∀ i σ H, i ≤ xs.length → Pv i σ H → SqL K H a xs)
    (hs : ∀ i x σ H, xs[i]? = some x → Pv i σ H → g x σ H fun σ2 H2 => t ⟨Pv (i + 1), rt, nx, Pv (i + 1)⟩ σ2 H2) (hd : ∀ σ H, Pv xs.length σ H → nx σ H) :
    ∃ a', V.ref a = .ref a' ∧ (∃ xs, SqL K H a' xs) ∧ ∃ W : Nat → Nat → L2.St → Hp → Prop, (∃ m, W 0 m σ H) ∧ ∀ i m σ H, W i m σ H →
  ((Itl K a').stop i H ∧ nx σ H) ∨ ((Itl K a').go i H ∧ ∃ N : L2.St → Hp → Prop, (∀ σ' H', N σ' H' → ∃ m', m' < m ∧ W (i + 1) m' σ' H') ∧ ∀ x H', (Itl K a').yld i H x H' → g x σ H' fun σ2 H2 => t ⟨N, rt, nx, N⟩ σ2 H2) :=
  ⟨a, rfl, ⟨xs, s⟩, for_list (K := K) (a := a) (xs := xs) (D := ⟨nx, rt, fun _ _ => False, fun _ _ => False⟩) Pv h0 hl hs hd⟩
theorem x_forT (s : SqT K H a xs) (Pv : Nat → L2.St → Hp → Prop) (h0 : Pv 0 σ H) (hl : ∀ i σ H, i ≤ xs.length → Pv i σ H → SqT K H a xs)
    (hs : ∀ i x σ H, xs[i]? = some x → Pv i σ H → g x σ H fun σ2 H2 => t ⟨Pv (i + 1), rt, nx, Pv (i + 1)⟩ σ2 H2) (hd : ∀ σ H, Pv xs.length σ H → nx σ H) :
    ∃ a', V.ref a = .ref a' ∧ (∃ xs, SqT K H a' xs) ∧ ∃ W : Nat → Nat → L2.St → Hp → Prop, (∃ m, W 0 m σ H) ∧ ∀ i m σ H, W i m σ H →
  ((Itt K a').stop i H ∧ nx σ H) ∨ ((Itt K a').go i H ∧ ∃ N : L2.St → Hp → Prop, (∀ σ' H', N σ' H' → ∃ m', m' < m ∧ W (i + 1) m' σ' H') ∧ ∀ x H', (Itt K a').yld i H x H' → g x σ H' fun σ2 H2 => t ⟨N, rt, nx, N⟩ σ2 H2) :=
  ⟨a, rfl, ⟨xs, s⟩, for_tup (K := K) (a := a) (xs := xs) (D := ⟨nx, rt, fun _ _ => False, fun _ _ => False⟩) Pv h0 hl hs hd⟩
theorem x_forR {k : Nat} (hm : m = (k : Int)) (hk : k ≤ 1000000) (Pv : Nat → L2.St → Hp → Prop) (h0 : Pv 0 σ H)
    (hs : ∀ i σ H, i < k → Pv i σ H → g (.int (i : Int)) σ H fun σ2 H2 => t ⟨Pv (i + 1), rt, nx, Pv (i + 1)⟩ σ2 H2) (hd : ∀ σ H, Pv k σ H → nx σ H) :
    ∃ j : Int, [V.int m] = [.int j] ∧ -(2 ^ 62) ≤ j ∧ j < 2 ^ 62 ∧ ∃ W : Nat → Nat → L2.St → Hp → Prop, (∃ m, W 0 m σ H) ∧ ∀ i m σ H, W i m σ H →
  ((Itr 0 j.toNat).stop i H ∧ nx σ H) ∨ ((Itr 0 j.toNat).go i H ∧ ∃ N : L2.St → Hp → Prop, (∀ σ' H', N σ' H' → ∃ m', m' < m ∧ W (i + 1) m' σ' H') ∧ ∀ x H', (Itr 0 j.toNat).yld i H x H' → g x σ H' fun σ2 H2 => t ⟨N, rt, nx, N⟩ σ2 H2) := by
  subst hm
  refine ⟨_, rfl, by omega, by omega, ?_⟩
  have e : ((k : Int)).toNat = k := by omega
  rw [e]
  refine for_range (lo := 0) (n := k) (D := ⟨nx, rt, fun _ _ => False, fun _ _ => False⟩) Pv h0 (fun i σ H hi p => ?_) hd
  have e0 : (0 : Int) + (i : Int) = (i : Int) := Int.zero_add _
  rw [e0]
  exact hs i σ H hi p
theorem x_iZA {R : It → Hp → Prop} {u : TA} (h : u σ H fun vs H1 => ∃ a b xs ys, vs = [.ref a, .ref b] ∧ ((SqL K H1 a xs ∧ SqL K H1 b ys ∧ R (Itz K a b) H1) ∨ (SqT K H1 a xs ∧ SqT K H1 b ys ∧ R (RZ.ItzT K a b) H1))) : RZ.iZipA K u σ H R := h
/-- for x, y in zip(two lists | two tuples of one length) -/
theorem x_forZT (s1 : SqT K H a xs) (s2 : SqT K H b ys) (hl : xs.length = ys.length) (Pv : Nat → L2.St → Hp → Prop) (h0 : Pv 0 σ H) (hq : ∀ i σ H, Pv i σ H → SqT K H a xs ∧ SqT K H b ys)
    (hs : ∀ (i : Nat) (x y : V) (T : Addr) (σ : L2.St) (H : Hp), xs[i]? = some x → ys[i]? = some y → Pv i σ H → H T = none → g (.ref T) σ (upd H T (.tup [x, y])) fun σ2 H2 => t ⟨Pv (i + 1), rt, nx, Pv (i + 1)⟩ σ2 H2) (hd : ∀ σ H, Pv xs.length σ H → nx σ H) :
    ∃ a' b' xs' ys', [V.ref a, V.ref b] = [.ref a', .ref b'] ∧ ((SqL K H a' xs' ∧ SqL K H b' ys' ∧ ∃ W : Nat → Nat → L2.St → Hp → Prop, (∃ m, W 0 m σ H) ∧ ∀ i m σ H, W i m σ H →
  ((Itz K a' b').stop i H ∧ nx σ H) ∨ ((Itz K a' b').go i H ∧ ∃ N : L2.St → Hp → Prop, (∀ σ' H', N σ' H' → ∃ m', m' < m ∧ W (i + 1) m' σ' H') ∧ ∀ x H', (Itz K a' b').yld i H x H' → g x σ H' fun σ2 H2 => t ⟨N, rt, nx, N⟩ σ2 H2)) ∨
   (SqT K H a' xs' ∧ SqT K H b' ys' ∧ ∃ W : Nat → Nat → L2.St → Hp → Prop, (∃ m, W 0 m σ H) ∧ ∀ i m σ H, W i m σ H →
  ((RZ.ItzT K a' b').stop i H ∧ nx σ H) ∨ ((RZ.ItzT K a' b').go i H ∧ ∃ N : L2.St → Hp → Prop, (∀ σ' H', N σ' H' → ∃ m', m' < m ∧ W (i + 1) m' σ' H') ∧ ∀ x H', (RZ.ItzT K a' b').yld i H x H' → g x σ H' fun σ2 H2 => t ⟨N, rt, nx, N⟩ σ2 H2))) :=
  ⟨a, b, xs, ys, rfl, .inr ⟨s1, s2, RZ.for_zipT (K := K) (D := ⟨nx, rt, fun _ _ => False, fun _ _ => False⟩) hl Pv h0 hq hs hd⟩⟩
theorem x_forZL (s1 : SqL K H a xs) (s2 : SqL K H b ys) (hl : xs.length = ys.length) (Pv : Nat → L2.St → Hp → Prop) (h0 : Pv 0 σ H) (hq : ∀ i σ H, Pv i σ H → SqL K H a xs ∧ SqL K H b ys)
    (hs : ∀ (i : Nat) (x y : V) (T : Addr) (σ : L2.St) (H : Hp), xs[i]? = some x → ys[i]? = some y → Pv i σ H → H T = none → g (.ref T) σ (upd H T (.tup [x, y])) fun σ2 H2 => t ⟨Pv (i + 1), rt, nx, Pv (i + 1)⟩ σ2 H2) (hd : ∀ σ H, Pv xs.length σ H → nx σ H) :
    ∃ a' b' xs' ys', [V.ref a, V.ref b] = [.ref a', .ref b'] ∧ ((SqL K H a' xs' ∧ SqL K H b' ys' ∧ ∃ W : Nat → Nat → L2.St → Hp → Prop, (∃ m, W 0 m σ H) ∧ ∀ i m σ H, W i m σ H →
  ((Itz K a' b').stop i H ∧ nx σ H) ∨ ((Itz K a' b').go i H ∧ ∃ N : L2.St → Hp → Prop, (∀ σ' H', N σ' H' → ∃ m', m' < m ∧ W (i + 1) m' σ' H') ∧ ∀ x H', (Itz K a' b').yld i H x H' → g x σ H' fun σ2 H2 => t ⟨N, rt, nx, N⟩ σ2 H2)) ∨
   (SqT K H a' xs' ∧ SqT K H b' ys' ∧ ∃ W : Nat → Nat → L2.St → Hp → Prop, (∃ m, W 0 m σ H) ∧ ∀ i m σ H, W i m σ H →
  ((RZ.ItzT K a' b').stop i H ∧ nx σ H) ∨ ((RZ.ItzT K a' b').go i H ∧ ∃ N : L2.St → Hp → Prop, (∀ σ' H', N σ' H' → ∃ m', m' < m ∧ W (i + 1) m' σ' H') ∧ ∀ x H', (RZ.ItzT K a' b').yld i H x H' → g x σ H' fun σ2 H2 => t ⟨N, rt, nx, N⟩ σ2 H2))) :=
  ⟨a, b, xs, ys, rfl, .inl ⟨s1, s2, RZ.for_zipL (K := K) (D := ⟨nx, rt, fun _ _ => False, fun _ _ => False⟩) hl Pv h0 hq hs hd⟩⟩
/-- a, b = t -/
theorem x_gtup {R : L2.St → Hp → Prop} {u : TGs} {k : Nat} (s : SqT K H a xs) (e : xs.length = k) (h : u xs σ H R) : gTup K k u (.ref a) σ H R := ⟨a, xs, rfl, s, e, h⟩
theorem x_gcons {R : L2.St → Hp → Prop} {u : TGs} {vs : List V} (h : g v σ H fun σ' H' => u vs σ' H' R) : gCons g u (v :: vs) σ H R := ⟨v, vs, rfl, h⟩
theorem x_gnil {R : L2.St → Hp → Prop} (h : R σ H) : gNil [] σ H R := ⟨rfl, h⟩
theorem x_gname {R : L2.St → Hp → Prop} (h : R (σ.set i (some v)) H) : gName i v σ H R := h
theorem x_gsub {R : L2.St → Hp → Prop} {s : TSet} (h : ta σ H fun o H1 => tb σ H1 fun i H2 => s o i v H2 fun H3 => R σ H3) : gSub ta tb s v σ H R := h
theorem x_var (e : σ[i]? = some (some v)) (h : Q v H) : tVar i σ H Q := ⟨v, e, h⟩
theorem x_c (h : Q v H) : tC v σ H Q := h
theorem x_op {r : R2} (h : ta σ H fun x H1 => tb σ H1 fun y H2 => r x y H2 Q) : tOp r ta tb σ H Q := h
theorem x_un {r : V → Hp → VK → Prop} (h : ta σ H fun x H1 => r x H1 Q) : tUn r ta σ H Q := h
theorem x_rI0 {g : Int → Int → V} (h : Q (g m n) H) : rI0 g (.int m) (.int n) H Q := ⟨m, n, rfl, rfl, h⟩
theorem x_rI {C : Int → Int → Prop} {g : Int → Int → V} (c : C m n) (h : Q (g m n) H) : rI C g (.int m) (.int n) H Q := ⟨m, n, rfl, rfl, c, h⟩
theorem x_rU {g : Int → V} (h : Q (g m) H) : rU g (.int m) H Q := ⟨m, rfl, h⟩
theorem dec_v {m n : Int} : decide (V.int m = V.int n) = decide (m = n) := by
  rw [Bool.eq_iff_iff]
  simp
theorem dec_s {m n : Str} : decide (V.str m = V.str n) = decide (m = n) := by
  rw [Bool.eq_iff_iff]
  simp
theorem x_rEqI (h : Q (.bl (decide (m = n))) H) : rEq (.int m) (.int n) H Q := ⟨rfl, by rw [dec_v]; exact h⟩
theorem x_rNeI (h : Q (.bl (!decide (m = n))) H) : rNe (.int m) (.int n) H Q := ⟨rfl, by rw [dec_v]; exact h⟩
theorem x_rEqS {m n : Str} (h : Q (.bl (decide (m = n))) H) : rEq (.str m) (.str n) H Q := ⟨rfl, by rw [dec_s]; exact h⟩
theorem x_rNeS {m n : Str} (h : Q (.bl (!decide (m = n))) H) : rNe (.str m) (.str n) H Q := ⟨rfl, by rw [dec_s]; exact h⟩
theorem x_rEqB {m n : Bool} (h : Q (.bl (decide (m = n))) H) : rEq (.bl m) (.bl n) H Q := ⟨rfl, by rw [show decide (V.bl m = V.bl n) = decide (m = n) by rw [Bool.eq_iff_iff]; simp]; exact h⟩
theorem x_rNeB {m n : Bool} (h : Q (.bl (!decide (m = n))) H) : rNe (.bl m) (.bl n) H Q := ⟨rfl, by rw [show decide (V.bl m = V.bl n) = decide (m = n) by rw [Bool.eq_iff_iff]; simp]; exact h⟩
theorem x_rEqIe (h : Q (.bl true) H) : rEq (.int m) (.int m) H Q := ⟨rfl, by rw [decide_eq_true rfl]; exact h⟩
theorem x_rNeIe (h : Q (.bl false) H) : rNe (.int m) (.int m) H Q := ⟨rfl, by rw [decide_eq_true rfl]; exact h⟩
theorem x_rEqSe {m : Str} (h : Q (.bl true) H) : rEq (.str m) (.str m) H Q := ⟨rfl, by rw [decide_eq_true rfl]; exact h⟩
theorem x_rNeSe {m : Str} (h : Q (.bl false) H) : rNe (.str m) (.str m) H Q := ⟨rfl, by rw [decide_eq_true rfl]; exact h⟩
theorem x_rEqBe {m : Bool} (h : Q (.bl true) H) : rEq (.bl m) (.bl m) H Q := ⟨rfl, by rw [decide_eq_true rfl]; exact h⟩
theorem x_rNeBe {m : Bool} (h : Q (.bl false) H) : rNe (.bl m) (.bl m) H Q := ⟨rfl, by rw [decide_eq_true rfl]; exact h⟩
theorem x_test {R : Bool → Hp → Prop} (h : te σ H fun x H' => ∃ k, x = .bl k ∧ R k H') : tTest te σ H R := h
theorem x_B {R : Bool → Hp → Prop} (h : te σ H fun x H' => ∃ k, x = .bl k ∧ R k H') : tB te σ H R := h
theorem x_bl {k : Bool} {R : Bool → Prop} (h : R k) : ∃ k', V.bl k = .bl k' ∧ R k' := ⟨k, rfl, h⟩
theorem x_ite {c A B : Prop} {inst : Decidable c} (h1 : c → A) (h2 : ¬ c → B) : if decide c = true then A else B := by
  by_cases h : c
  · rw [decide_eq_true h, if_pos rfl]
    exact h1 h
  · rw [decide_eq_false h, if_neg Bool.false_ne_true]
    exact h2 h
theorem x_iteT {c A B : Prop} {inst : Decidable c} (h : c) (h1 : A) : if decide c = true then A else B := x_ite (fun _ => h1) fun z => absurd h z
theorem x_iteF {c A B : Prop} {inst : Decidable c} (h : ¬ c) (h2 : B) : if decide c = true then A else B := x_ite (fun z => absurd z h) fun _ => h2
theorem x_iteN {c A B : Prop} {inst : Decidable c} (h1 : ¬ c → A) (h2 : c → B) : if (!decide c) = true then A else B := by
  by_cases h : c
  · rw [decide_eq_true h]
    exact h2 h
  · rw [decide_eq_false h]
    exact h1 h
theorem x_iteNT {c A B : Prop} {inst : Decidable c} (h : ¬ c) (h1 : A) : if (!decide c) = true then A else B := x_iteN (fun _ => h1) fun z => absurd z h
theorem x_iteNF {c A B : Prop} {inst : Decidable c} (h : c) (h2 : B) : if (!decide c) = true then A else B := x_iteN (fun z => absurd h z) fun _ => h2
theorem x_ite0 {k : Bool} {A B : Prop} (h1 : k = true → A) (h2 : k = false → B) : if k = true then A else B := by
  cases k with
  | true => exact h1 rfl
  | false => exact h2 rfl
theorem x_nT {A B : Prop} (h : B) : if (!true) = true then A else B := iteF h
theorem x_nF {A B : Prop} (h : A) : if (!false) = true then A else B := iteT h
theorem x_and {R : Bool → Hp → Prop} (h : c σ H fun k H1 => if k = true then d σ H1 R else R false H1) : tAnd c d σ H R := h
theorem x_or {R : Bool → Hp → Prop} (h : c σ H fun k H1 => if k = true then R true H1 else d σ H1 R) : tOr c d σ H R := h
theorem x_not {R : Bool → Hp → Prop} (h : c σ H fun k H1 => R (!k) H1) : tNot c σ H R := h
theorem x_andV (h : ta σ H fun x H1 => ∃ k, x = .bl k ∧ if k = true then tb σ H1 Q else Q (.bl false) H1) : tAndV ta tb σ H Q := h
theorem x_orV (h : ta σ H fun x H1 => ∃ k, x = .bl k ∧ if k = true then Q (.bl true) H1 else tb σ H1 Q) : tOrV ta tb σ H Q := h
theorem x_notV (h : ta σ H fun x H1 => ∃ k, x = .bl k ∧ Q (.bl (!k)) H1) : tNotV ta σ H Q := h
theorem x_ifE (h : c σ H fun k H1 => if k = true then ta σ H1 Q else tb σ H1 Q) : tIf c ta tb σ H Q := h
theorem x_nil {R : List V → Hp → Prop} (h : R [] H) : tNil σ H R := h
theorem x_cons {R : List V → Hp → Prop} {tr : TA} (h : ta σ H fun x H1 => tr σ H1 fun xs H2 => R (x :: xs) H2) : tCons ta tr σ H R := h
theorem x_call {sp : Sp} {E : XK} {t : TA} (h : t σ H fun vs H1 => sp vs H1 Q E) : tCall sp [] E t σ H Q := by
  show t σ H fun vs H1 => sp (vs ++ []) H1 Q E
  simp only [List.append_nil]
  exact h
theorem x_callK {sp : Sp} {gV : List V → List V → List V} {E : XK} {t tk : TA} (h : t σ H fun vs H1 => tk σ H1 fun zs H2 => sp (gV vs zs) H2 Q E) : tCallK sp gV E t tk σ H Q := h
theorem x_CB {r : List V → Hp → VK → Prop} {t : TA} (h : t σ H fun vs H1 => r vs H1 Q) : tCB r t σ H Q := h
theorem x_tup {t : TA} (h : t σ H fun xs H1 => xs.length ≤ sizeLine ∧ ∀ p, H1 p = none → Q (.ref p) (upd H1 p (.tup xs))) : tTup t σ H Q := h
theorem x_lst {t : TA} (h : t σ H fun xs H1 => xs.length ≤ sizeLine ∧ ∀ p, H1 p = none → Q (.ref p) (upd H1 p (.lst xs))) : tLst t σ H Q := h
theorem x_ixL {k : Int} (s : SqL K H p xs) (e : atI xs k = some v) (h : Q v H) : rIxL K (.ref p) (.int k) H Q := ⟨p, xs, k, v, rfl, rfl, s, e, h⟩
theorem x_ixT {k : Int} (s : SqT K H p xs) (e : atI xs k = some v) (h : Q v H) : rIxT K (.ref p) (.int k) H Q := ⟨p, xs, k, v, rfl, rfl, s, e, h⟩
theorem x_setL {k : Int} {q : Nat} {R : Hp → Prop} (s : H p = some (.lst xs)) (e : ixN xs.length k = some q) (h : R (upd H p (.lst (xs.set q v)))) : rSetL (.ref p) (.int k) v H R := ⟨p, xs, k, q, rfl, rfl, s, e, h⟩
/-- xs.pop(), the list not empty -/
theorem x_pop0 (s : H p = some (.lst xs)) (e : xs.getLast? = some v) (h : Q v (upd H p (.lst xs.dropLast))) : tyV K "list" (.ref p) H ∧ rPop (.ref p) [] H Q :=
  ⟨.inl ⟨rfl, _, SqL.of s⟩, p, xs, v, rfl, rfl, s, by rw [← e, List.getLast?_eq_getElem?], h⟩
theorem x_BM0 {T : String} {r : V → List V → Hp → VK → Prop} (h : ta σ H fun x H1 => tyV K T x H1 ∧ r x [] H1 Q) : tBM0 K T r ta σ H Q := h
theorem x_BM {T : String} {r : V → List V → Hp → VK → Prop} {t : TA} (h : ta σ H fun x H1 => tyV K T x H1 ∧ t σ H1 fun xs H2 => r x xs H2 Q) : tBM K T r ta t σ H Q := h
end
/-! ### readings with a name -/
/-- // by any divisor but 0, below 2 ^ 9000 -/
def CDivWN (_ j : Int) : Prop := j ≠ 0 ∧ j.natAbs.log2 < 9000
def rIntC : List V → Hp → VK → Prop := fun xs H Q => (∃ i, xs = [.int i] ∧ Q (.int i) H) ∨ ∃ k, xs = [.bl k] ∧ Q (.int (if k then 1 else 0)) H
def rAbsC : List V → Hp → VK → Prop := fun xs H Q => ∃ i, xs = [.int i] ∧ Q (.int (if i < 0 then -i else i)) H
def rLenC (K : PySem.W.Frag) : List V → Hp → VK → Prop := fun xs H Q => ∃ p ys, xs = [.ref p] ∧ (SqL K H p ys ∨ SqT K H p ys) ∧ Q (.int ys.length) H
def rLenSC : List V → Hp → VK → Prop := fun xs H Q => ∃ z, xs = [.str z] ∧ z.length ≤ sizeLine ∧ Q (.int z.length) H
def rListC (K : PySem.W.Frag) : List V → Hp → VK → Prop := fun xs H Q => ∃ p ys, xs = [.ref p] ∧ (SqL K H p ys ∨ SqT K H p ys) ∧ ∀ l, H l = none → Q (.ref l) (upd H l (.lst ys))
def rTupleC (K : PySem.W.Frag) : List V → Hp → VK → Prop := fun xs H Q => ∃ p ys, xs = [.ref p] ∧ ((SqL K H p ys ∧ ∀ l, H l = none → Q (.ref l) (upd H l (.tup ys))) ∨ (SqT K H p ys ∧ Q (.ref p) H))
def rMin2C : List V → Hp → VK → Prop := fun xs H Q => ∃ i j, xs = [.int i, .int j] ∧ Q (.int (if j < i then j else i)) H
def rMax2C : List V → Hp → VK → Prop := fun xs H Q => ∃ i j, xs = [.int i, .int j] ∧ Q (.int (if j > i then j else i)) H
def rIsNC : R2 := fun x y H Q => y = .non ∧ Q (.bl (decide (x = .non))) H
def rNotNC : R2 := fun x y H Q => y = .non ∧ Q (.bl (!decide (x = .non))) H
def rLtSC : R2 := fun x y H Q => ∃ i j, x = .str i ∧ y = .str j ∧ Q (.bl (decide (i.cps.toList < j.cps.toList))) H
def rLeSC : R2 := fun x y H Q => ∃ i j, x = .str i ∧ y = .str j ∧ Q (.bl (!decide (j.cps.toList < i.cps.toList))) H
def rInSC : R2 := fun x y H Q => ∃ (c : Nat) (z : Str), x = .str ⟨#[c]⟩ ∧ y = .str z ∧ Q (.bl (decide (c ∈ z.cps.toList))) H
def rNotInSC : R2 := fun x y H Q => ∃ (c : Nat) (z : Str), x = .str ⟨#[c]⟩ ∧ y = .str z ∧ Q (.bl (!decide (c ∈ z.cps.toList))) H
def rInsertC : V → List V → Hp → VK → Prop := fun x vs H Q => ∃ (l : Addr) (xs : List V) (i : Int) (y : V), x = .ref l ∧ vs = [.int i, y] ∧ H l = some (.lst xs) ∧ xs.length < sizeLine ∧ 0 ≤ i ∧ i < 2 ^ 63 ∧ Q .non (upd H l (.lst (xs.take i.toNat ++ [y] ++ xs.drop i.toNat)))
section
variable {X : Cx}
theorem op_isNC : OpR X (compareOp .Is) rIsNC := op_isN
theorem op_notNC : OpR X (compareOp .IsNot) rNotNC := op_notN
theorem op_ltSC : OpR X (compareOp .Lt) rLtSC := op_lt_str
theorem op_leSC : OpR X (compareOp .LtE) rLeSC := op_le_str
theorem op_inSC : OpR X (compareOp .In) rInSC := op_in_sign
theorem op_notInSC : OpR X (compareOp .NotIn) rNotInSC := op_notIn_sign
theorem call_int : CallR X (.type "int") rIntC := call_int1
theorem call_absC : CallR X (.builtin "abs") rAbsC := call_abs
theorem call_len_seqC : CallR X (.builtin "len") (rLenC X.K) := call_len_seq
theorem call_len_strC : CallR X (.builtin "len") rLenSC := call_len_str
theorem call_listC : CallR X (.type "list") (rListC X.K) := call_list_of
theorem call_tupleC : CallR X (.type "tuple") (rTupleC X.K) := call_tuple_of
theorem call_min2C (hc : X.calm = true) : CallR X (.builtin "min") rMin2C := call_min2 hc
theorem call_max2C (hc : X.calm = true) : CallR X (.builtin "max") rMax2C := call_max2 hc
theorem op_fdivWN : OpR X (binaryOp .FloorDiv) (rI CDivWN fun i j => .int (i.fdiv j)) := opI fun i j _ _ _ _ _ hc q => floordiv_int hc.1 q (.inl (PyProof.noPylong_of_log2 hc.2))
theorem mt_insertC : MtR X "list.insert" rInsertC := mt_insert
end
section
variable {K : PySem.W.Frag} {H : Hp} {Q : VK} {p : Addr} {m n : Int} {xs : List V} {k : Bool}
theorem x_isN0 (h : Q (.bl true) H) : rIsNC .non .non H Q := ⟨rfl, h⟩
theorem x_isNi (h : Q (.bl false) H) : rIsNC (.int m) .non H Q := ⟨rfl, by rw [show decide (V.int m = V.non) = false from decide_eq_false (by intro z; cases z)]; exact h⟩
theorem x_isNb (h : Q (.bl false) H) : rIsNC (.bl k) .non H Q := ⟨rfl, by rw [show decide (V.bl k = V.non) = false from decide_eq_false (by intro z; cases z)]; exact h⟩
theorem x_isNs {z : Str} (h : Q (.bl false) H) : rIsNC (.str z) .non H Q := ⟨rfl, by rw [show decide (V.str z = V.non) = false from decide_eq_false (by intro z; cases z)]; exact h⟩
theorem x_isNr (h : Q (.bl false) H) : rIsNC (.ref p) .non H Q := ⟨rfl, by rw [show decide (V.ref p = V.non) = false from decide_eq_false (by intro z; cases z)]; exact h⟩
theorem x_ltS {i j : Str} (h : Q (.bl (decide (i.cps.toList < j.cps.toList))) H) : rLtSC (.str i) (.str j) H Q := ⟨i, j, rfl, rfl, h⟩
theorem x_leS {i j : Str} (h : Q (.bl (!decide (j.cps.toList < i.cps.toList))) H) : rLeSC (.str i) (.str j) H Q := ⟨i, j, rfl, rfl, h⟩
theorem x_int1 (h : Q (.int m) H) : rIntC [.int m] H Q := .inl ⟨m, rfl, h⟩
theorem x_intB (h : Q (.int (if k then 1 else 0)) H) : rIntC [.bl k] H Q := .inr ⟨k, rfl, h⟩
theorem x_abs (h : Q (.int (m.natAbs : Int)) H) : rAbsC [.int m] H Q := ⟨m, rfl, by
  have e : (if m < 0 then -m else m) = (m.natAbs : Int) := by split <;> omega
  rw [e]
  exact h⟩
theorem x_lenL (s : SqL K H p xs) (h : Q (.int xs.length) H) : rLenC K [.ref p] H Q := ⟨p, xs, rfl, .inl s, h⟩
theorem x_lenT (s : SqT K H p xs) (h : Q (.int xs.length) H) : rLenC K [.ref p] H Q := ⟨p, xs, rfl, .inr s, h⟩
theorem x_lenS {z : Str} (s : z.length ≤ sizeLine) (h : Q (.int z.length) H) : rLenSC [.str z] H Q := ⟨z, rfl, s, h⟩
theorem x_listL (s : SqL K H p xs) (h : ∀ l, H l = none → Q (.ref l) (upd H l (.lst xs))) : rListC K [.ref p] H Q := ⟨p, xs, rfl, .inl s, h⟩
theorem x_listT (s : SqT K H p xs) (h : ∀ l, H l = none → Q (.ref l) (upd H l (.lst xs))) : rListC K [.ref p] H Q := ⟨p, xs, rfl, .inr s, h⟩
theorem x_min2 (h : Q (.int (if n < m then n else m)) H) : rMin2C [.int m, .int n] H Q := ⟨m, n, rfl, h⟩
theorem x_max2 (h : Q (.int (if n > m then n else m)) H) : rMax2C [.int m, .int n] H Q := ⟨m, n, rfl, h⟩
theorem x_gcd (h : Q (.int ((Nat.gcd m.natAbs n.natAbs : Nat) : Int)) H) : rGcd [.int m, .int n] H Q := ⟨m, n, rfl, h⟩
theorem x_ins0 {v : V} (s : H p = some (.lst xs)) (z : xs.length ≤ 1000) (h : Q .non (upd H p (.lst (v :: xs)))) : rInsertC (.ref p) [.int 0, v] H Q :=
  ⟨p, xs, 0, v, rfl, rfl, s, Nat.lt_of_le_of_lt z (by decide), by decide, by decide, h⟩
theorem x_app {v : V} (s : H p = some (.lst xs)) (z : xs.length ≤ 100000) (h : Q .non (upd H p (.lst (xs ++ [v])))) : rAppend (.ref p) [v] H Q := ⟨p, xs, v, rfl, rfl, s, Nat.lt_of_le_of_lt z (by decide), h⟩
theorem x_ty {R : Prop} (s : SqL K H p xs) (h : R) : tyV K "list" (.ref p) H ∧ R := ⟨.inl ⟨rfl, _, s⟩, h⟩
theorem cmulL (h1 : -18446744073709551616 < m) (h2 : m < 18446744073709551616) : CMul m n := .inl ⟨by omega, by omega⟩
theorem cmulR (h1 : -18446744073709551616 < n) (h2 : n < 18446744073709551616) : CMul m n := .inr ⟨by omega, by omega⟩
theorem cpow (h0 : 0 ≤ n) (h1 : n ≤ 1000000) (h2 : -18446744073709551616 < m) (h3 : m < 18446744073709551616) : CPow m n := ⟨h0, h1, by omega⟩
theorem cdivWN (h0 : n ≠ 0) (h1 : n.natAbs < 2 ^ 8999) : CDivWN m n := ⟨h0, Nat.lt_of_lt_of_le (PySem.Flt.log2_lt_of (by decide) h1) (by decide)⟩
theorem cdivW (h0 : 0 < n) (h1 : n.natAbs < 2 ^ 8999) : CDivW m n := wide_div h0 h1 (by decide) (by decide)
end
/-! ### isinstance of built-in types -/
theorem kI_NoneType_bool : kitB "NoneType" "bool" = some false := by decide +kernel
theorem kI_NoneType_int : kitB "NoneType" "int" = some false := by decide +kernel
theorem kI_NoneType_str : kitB "NoneType" "str" = some false := by decide +kernel
theorem kI_NoneType_list : kitB "NoneType" "list" = some false := by decide +kernel
theorem kI_NoneType_tuple : kitB "NoneType" "tuple" = some false := by decide +kernel
theorem kI_NoneType_dict : kitB "NoneType" "dict" = some false := by decide +kernel
theorem kI_bool_bool : kitB "bool" "bool" = some true := by decide +kernel
theorem kI_bool_int : kitB "bool" "int" = some true := by decide +kernel
theorem kI_bool_str : kitB "bool" "str" = some false := by decide +kernel
theorem kI_bool_list : kitB "bool" "list" = some false := by decide +kernel
theorem kI_bool_tuple : kitB "bool" "tuple" = some false := by decide +kernel
theorem kI_bool_dict : kitB "bool" "dict" = some false := by decide +kernel
theorem kI_int_bool : kitB "int" "bool" = some false := by decide +kernel
theorem kI_int_int : kitB "int" "int" = some true := by decide +kernel
theorem kI_int_str : kitB "int" "str" = some false := by decide +kernel
theorem kI_int_list : kitB "int" "list" = some false := by decide +kernel
theorem kI_int_tuple : kitB "int" "tuple" = some false := by decide +kernel
theorem kI_int_dict : kitB "int" "dict" = some false := by decide +kernel
theorem kI_str_bool : kitB "str" "bool" = some false := by decide +kernel
theorem kI_str_int : kitB "str" "int" = some false := by decide +kernel
theorem kI_str_str : kitB "str" "str" = some true := by decide +kernel
theorem kI_str_list : kitB "str" "list" = some false := by decide +kernel
theorem kI_str_tuple : kitB "str" "tuple" = some false := by decide +kernel
theorem kI_str_dict : kitB "str" "dict" = some false := by decide +kernel
theorem kI_list_bool : kitB "list" "bool" = some false := by decide +kernel
theorem kI_list_int : kitB "list" "int" = some false := by decide +kernel
theorem kI_list_str : kitB "list" "str" = some false := by decide +kernel
theorem kI_list_list : kitB "list" "list" = some true := by decide +kernel
theorem kI_list_tuple : kitB "list" "tuple" = some false := by decide +kernel
theorem kI_list_dict : kitB "list" "dict" = some false := by decide +kernel
theorem kI_tuple_bool : kitB "tuple" "bool" = some false := by decide +kernel
theorem kI_tuple_int : kitB "tuple" "int" = some false := by decide +kernel
theorem kI_tuple_str : kitB "tuple" "str" = some false := by decide +kernel
theorem kI_tuple_list : kitB "tuple" "list" = some false := by decide +kernel
theorem kI_tuple_tuple : kitB "tuple" "tuple" = some true := by decide +kernel
theorem kI_tuple_dict : kitB "tuple" "dict" = some false := by decide +kernel
theorem kI_dict_bool : kitB "dict" "bool" = some false := by decide +kernel
theorem kI_dict_int : kitB "dict" "int" = some false := by decide +kernel
theorem kI_dict_str : kitB "dict" "str" = some false := by decide +kernel
theorem kI_dict_list : kitB "dict" "list" = some false := by decide +kernel
theorem kI_dict_tuple : kitB "dict" "tuple" = some false := by decide +kernel
theorem kI_dict_dict : kitB "dict" "dict" = some true := by decide +kernel
end TW

namespace TW
open PySem PySem.Spec PyProof.Rows L2
/-! ### exceptions that are caught and kept -/
/-- what a class of errors must say of itself -/
structure ErrC (K : PySem.W.Frag) (D : Addr) : Prop where
  cl : (PySem.W.clsIn K D).isSome = true
  ga : PySem.W.findIn K (.ref D) "__getattribute__" = some (some (.builtin "BaseException.__getattribute__"))
  gt : PySem.W.findIn K (.ref D) "__getattr__" = some none
  sb : PySem.W.subIn K (.ref D) (.type "BaseException") = some true
  hd : PySem.W.hasDictIn K D = true
  kl : PySem.W.findIn K (.ref D) "__class__" = some (some (.builtin "object.__class__"))
  gs : PySem.W.specialIn K (.builtin "object.__class__") "__get__" = some (some (.builtin "getset_descriptor.__get__"))
  tk : PySem.W.takesIn K (.builtin "object.__class__") = some true
  mo : PySem.W.mroIn K D (.type "object") = some true
  no : PySem.W.findIn K (.ref D) "value" = some none
  ex : OexC K D
  me : PySem.W.subIn K (.ref D) (.ref D) = some true
  ve : PySem.W.subIn K (.ref D) (.type "ValueError") = some true
/-- at a: a caught exception of the class cls, its own dict at d -/
def exk (a : Addr) (cls : Value) (d : Option Addr) : HO := .ext fun h => ∃ (oe : Obj) (vs : Array Value), h.get? a = some oe ∧ oe.cls = cls ∧ oe.dict = d ∧ oe.data = .fields vs
theorem exk_ok {P : Program} {w : World} {H : Hp} {h : Heap} {a : Addr} {cls : Value} {d : Option Addr} {oe : Obj} {vs : Array Value} (e : h.get? a = some oe) (c : oe.cls = cls) (k : oe.dict = d) (f : oe.data = .fields vs) : ObjOk P w H h a (exk a cls d) :=
  ⟨⟨oe, vs, e, c, k, f⟩, ⟨oe, e⟩, fun _ _ ⟨o, v, q, r⟩ m => ⟨o, v, m o q, r⟩⟩
theorem exk_at {P : Program} {w : World} {H : Hp} {h : Heap} {a : Addr} {cls : Value} {d : Option Addr} (x : HOk P w H h) (e : H a = some (exk a cls d)) : ∃ (oe : Obj) (vs : Array Value), h.get? a = some oe ∧ oe.cls = cls ∧ oe.dict = d ∧ oe.data = .fields vs := by
  have y : ObjOk P w H h a (exk a cls d) := x a _ e
  exact y.1
section
variable {X : Cx} {pins : List (Addr × Obj)} {σ : L2.St} {H : Hp} {s : Shared}
/-- an exception at a stands as an instance, its dict as a namespace -/
theorem inst_of {a D d : Addr} {fs : List (Str × V)} (I : Inv X pins σ H s) (e : H a = some (exk a (.ref D) (some d))) (k : H d = some (.xd fs)) :
    ∃ (oe od : Obj) (mA : Str → Option Value), PySem.W.InstAt s.heap a oe D (some od) ∧ (∀ name, PySem.W.lookIn name od = some (mA name)) ∧ ∀ f, RelO (fs.lookup f) (mA f) := by
  obtain ⟨oe, vs, h1, h2, h3, h4⟩ := exk_at I.hok e
  have y : ObjOk X.prog X.w H s.heap d (.xd fs) := I.hok d _ k
  obtain ⟨mA, hns, hr⟩ := y
  obtain ⟨od, ho, hl⟩ := lookIn_ns hns
  exact ⟨oe, od, mA, ⟨h1, h2, by unfold PySem.W.notCls; rw [h4] <;> rfl, by rw [h3]; exact ho⟩, hl, hr⟩
/-- isinstance(e, c), e a caught exception that is kept -/
def rIsX (K : PySem.W.Frag) : List V → Hp → VK → Prop := fun xs H Q => ∃ (a D d : Addr) (fs : List (Str × V)) (c : V) (u : Value) (b : Bool), xs = [.ref a, c] ∧ ErrC K D ∧ H a = some (exk a (.ref D) (some d)) ∧ H d = some (.xd fs) ∧ ClsV c u ∧ PySem.W.kitOne K (.ref D) u = some b ∧ Q (.bl b) H
theorem call_isX : CallR X (.builtin "isinstance") (rIsX X.K) := by
  intro pins s σ H xs us Q I r h
  obtain ⟨a, D, d, fs, c, u, b, rfl, C, e, k, hc, z, q⟩ := h
  obtain ⟨u1, u2, rfl, r1, r2⟩ := vals2 r
  obtain rfl : u2 = u := hc.eq r2
  obtain rfl : u1 = Value.ref a := r1
  obtain ⟨oe, od, mA, J, _⟩ := inst_of I e k
  exact PySem.W.kia_one (PySem.W.kitx_exc (x := a) (ox := oe) (od := some od) C.cl C.ga C.gt C.sb C.kl C.gs C.tk C.mo) I.kIn J z (fun z => nomatch z) fun tk => ⟨.bl b, H, I.tok tk, rfl, q⟩
/-- isinstance(e, (c1, c2, ..)) -/
def rIsXT (K : PySem.W.Frag) : List V → Hp → VK → Prop := fun xs H Q => ∃ (a D d tp : Addr) (fs : List (Str × V)) (cs : List V) (us : List Value) (b : Bool), xs = [.ref a, .ref tp] ∧ ErrC K D ∧ H a = some (exk a (.ref D) (some d)) ∧ H d = some (.xd fs) ∧
  H tp = some (.tup cs) ∧ Paired ClsV cs us ∧ PySem.W.kitAny K (.ref D) us = some b ∧ Q (.bl b) H
theorem call_isXT : CallR X (.builtin "isinstance") (rIsXT X.K) := by
  intro pins s σ H xs us Q I r h
  obtain ⟨a, D, d, tp, fs, cs, ws, b, rfl, C, e, k, ht, hc, z, q⟩ := h
  obtain ⟨u1, u2, rfl, r1, r2⟩ := vals2 r
  obtain rfl : u2 = Value.ref tp := r2
  obtain rfl : u1 = Value.ref a := r1
  obtain ⟨oe, od, mA, J, _⟩ := inst_of I e k
  have y : ObjOk X.prog X.w H s.heap tp (.tup cs) := I.hok tp _ ht
  obtain ⟨_, its, rv, o, h1, h2, n, h3⟩ := y
  have e3 := ClsV.all hc rv
  subst e3
  obtain ⟨oc, odd, dt, sl⟩ := o
  simp only at h2 h3
  subst h2 h3
  exact PySem.W.kia_tup (PySem.W.kitx_exc (x := a) (ox := oe) (od := some od) C.cl C.ga C.gt C.sb C.kl C.gs C.tk C.mo) I.kIn J h1 z (fun z => nomatch z) fun tk => ⟨.bl b, H, I.tok tk, rfl, q⟩
/-- e.value of a caught exception that is kept -/
def tXv (K : PySem.W.Frag) (te : TE) : TE := fun σ H Q => te σ H fun x H1 => ∃ (a D d : Addr) (fs : List (Str × V)) (v : V), x = .ref a ∧ ErrC K D ∧ H1 a = some (exk a (.ref D) (some d)) ∧ H1 d = some (.xd fs) ∧ fs.lookup ("value" : Str) = some v ∧ Q v H1
theorem pe_xv {e : Expr} {te : TE} {pos : Pos} (he : PE X e te) (hb : attributeBase e "value" X.env (eval e X.env) = eval e X.env := by rfl) : PE X (.Attribute e "value" pos) (tXv X.K te) := by
  refine ⟨fun pins s σ H Q I h => attr_of hb (thn (he.run pins s σ H _ I h) fun u s1 hh => ?_)⟩
  obtain ⟨x, H1, I1, rx, a, D, d, fs, v, rfl, C, e1, k, l, q⟩ := hh
  obtain rfl : u = Value.ref a := rx
  obtain ⟨oe, od, mA, J, hl, hr⟩ := inst_of I1 e1 k
  obtain ⟨u, hu, ru⟩ := RelO.some_of (v := v) (o := mA "value") (by rw [← l]; exact hr ("value" : Str))
  exact HandSPX.exc_get I1.kIn J C.ga C.gt C.sb (PySem.W.findObj_own C.hd C.no rfl (by rw [hl, hu])) (handed_of ru) ⟨v, H1, I1.tok _, ru, q⟩
/-- an object that is there and not tracked is tracked -/
theorem track {a : Addr} {o : HO} {oe : Obj} {vs : Array Value} (I : Inv X pins σ H s) (he : s.heap.get? a = some oe) (hd : oe.data = .fields vs) (n0 : X.s_0.heap.get? a = none) (na : H a = none) (nl : a ≠ X.env.locals)
    (np : ∀ p ∈ X.pn ++ pins, p.1 ≠ a) (new : ObjOk X.prog X.w (upd H a o) s.heap a o) : Inv X pins σ (upd H a o) s := by
  have cell : ∀ y c, X.env.cells.lookup y = some c → c ≠ a := fun y c q z => by
    obtain ⟨v, o', e1, e2⟩ := I.cell y c q
    rw [z, he] at e1
    cases e1
    rw [hd] at e2
    cases e2
  have nb : ∀ {b : Addr} {u : Obj}, X.s_0.heap.get? b = some u → b ≠ a := fun {b u} q z => by
    rw [z, n0] at q
    cases q
  exact {
    ok := I.ok, os := I.os, bare := I.bare, loc := I.loc, cell := I.cell, len := I.len
    base := { keep := I.base.keep, slot := I.base.slot, there := I.base.there
              free := fun b u q n x => by rw [upd_ne (nb q)]; exact I.base.free b u q n x
              tups := fun b xs q => by have z := I.base.tups b xs q; rw [upd_ne (ne_of_none z na)]; exact z
              frzs := fun b u v q => by have z := I.base.frzs b u v q; rw [upd_ne (ne_of_none z na)]; exact z
              tbls := fun b ps q => by
                obtain ⟨more, z⟩ := I.base.tbls b ps q
                exact ⟨more, by rw [upd_ne (ne_of_none z na)]; exact z⟩ }
    free := by rw [upd_ne (Ne.symm nl)]; exact I.free
    freeC := fun y c q => by rw [upd_ne (cell y c q)]; exact I.freeC y c q
    pin := fun p hp => by
      obtain ⟨h1, h2, h3⟩ := I.pin p hp
      exact ⟨h1, by rw [upd_ne (np p hp)]; exact h2, h3⟩
    hok := fun b u q => by
      by_cases hb : b = a
      · subst hb
        rw [upd_same] at q
        cases q
        exact new
      · rw [upd_ne hb] at q
        exact (I.hok b u q).stay (fun _ _ _ z => z) (fun c z => by rw [upd_ne (ne_of_none z na)]; exact z) fun c xs z => by rw [upd_ne (ne_of_none z na)]; exact z }
end
/-- what «except x as n: suite» wishes: behind the suite the exception stays, tracked at a -/
def wKeep (K : PySem.W.Frag) (c : Value) (i : Nat) (ts : Addr → Value → Option Addr → TS) (D : Ends) : WX := fun cls d σ H =>
  PySem.W.exmOne K cls c = some true ∧ ∀ a, H a = none → ts a cls d { nx := fun σ' H' => D.nx (σ'.set i none) (upd H' a (exk a cls d)), rt := fun _ _ => False } (σ.set i (some (.ref a))) H
section
variable {X : Cx} {x n : Str} {c : Value} {i : Nat} {body suite : List Stmt} {b₀ : Stmt} {np pos pos' : Pos} {tb : WX → TS} {ts : Addr → Value → Option Addr → TS}
theorem ps_try_keep (hs : X.stack = X.env :: X.outer) (hf : X.env.frame = some X.env.locals) (hex : X.ex = []) (nodup : X.N.Nodup) (hi : X.N[i]? = some n) (isloc : X.env.kindOf n = some .local) (nm : Names X x c)
    (hb : ∀ (W : WX) (pn : List (Addr × Obj)) (xe : Value → Shared → Prop), Takes (X.tr pn xe) W → PassesOwn (model X.prog X.w) X.A X.env xe → PSs (X.tr pn xe) body (tb W))
    (hsu : ∀ (a : Addr) (oe : Obj) (cls : Value) (d : Option Addr) (pn : List (Addr × Obj)), Zc cls d oe → (∃ vs, oe.data = .fields vs) → PSs (X.suite a ((a, oe) :: pn)) (b₀ :: suite) (ts a cls d)) :
    PS X (.Try body [.ExceptHandler (some (.Name x np)) (some n) (b₀ :: suite) pos'] [] [] pos) (fun D σ H => tb (wKeep X.K c i ts D) D σ H) := by
  refine ⟨fun pins s σ H D I h => wpAny_Try_except ?_⟩
  have ok := I.ok
  have fr : X.A.frames = some (X.env :: X.outer) := ok.frames.trans (by rw [hs])
  let clause : List ExceptHandler := [.ExceptHandler (some (.Name x np)) (some n) (b₀ :: suite) pos']
  refine wpAny_mono ((hb (wKeep X.K c i ts D) (X.pn ++ pins) (fun e s₁ => wpAny (model X.prog X.w) X.A (noteFrame e X.env) (fun _ s₂ => wpAny (model X.prog X.w) X.A (setFlight e none) (fun _ s₃ =>
    wpAny (model X.prog X.w) X.A (handleBy e X.env clause) (SP X pins D) X.xe s₃) X.xe s₂) X.xe s₁) (fun u s' xx => ?_) PassesOwn.looking).run [] s σ H D (I.toTry _) h) (fun f s1 hsp => ?_) (fun e s1 he => he)
  · obtain ⟨a, B, sI, pins', σ', H', cls, d, rfl, J', nb, up, sky, na, os, ag, hm, hyes⟩ := xx
    have J : Inv X pins σ' H' sI := J'.ofTry ok
    have sky' : Sky B (X.env :: X.outer) a (Zc cls d) X.env.locals s'.heap := hs ▸ sky
    show wpAny (model X.prog X.w) X.A (noteFrame (.ref a) X.env) _ _ _
    refine Sky.land Zc.steady fr hf sky' fun h3 fl3 up3 => ?_
    have J3 : Inv X pins σ' H' { s' with heap := h3 } := J.landed nb fl3.1 (up.trans up3) os ag
    obtain ⟨oe3, vs3, he3, hz3, hd3⟩ := fl3.there
    have apart : ∀ {h : Heap} {o : Obj} {vs : Array Value}, h.FunFrames B (X.env :: X.outer) → h.get? a = some o → o.data = .fields vs → a ∉ frs (X.env :: X.outer) := fun {h o vs} ff e dd hm => by
      obtain ⟨_, o', e', hnf⟩ := ff.mem hm
      cases e.symm.trans e'
      exact hnf _ dd
    have nfr := apart fl3.2.2.1 he3 hd3
    have nL : a ≠ X.env.locals := fun z => nfr (List.mem_filterMap.mpr ⟨X.env, List.mem_cons_self, hf.trans (congrArg some z.symm)⟩)
    have nF : a ∉ X.fs := fun q => by
      obtain ⟨e, he, r⟩ := List.mem_filterMap.mp q
      exact nfr (List.mem_filterMap.mpr ⟨e, List.mem_cons_of_mem _ he, r⟩)
    -- nothing of before stands at a: the ground has no object there
    have ground : ∀ {b : Addr} {o : Obj}, sI.heap.get? b = some o → b = a → False := fun {b o} q z => by
      subst z
      have y := nb b o q (by rw [hs]; exact nfr)
      have g : B.get? b = none := fl3.2.1
      rw [g] at y
      cases y
    have n0 : X.s_0.heap.get? a = none := by
      cases q : X.s_0.heap.get? a with
      | none => rfl
      | some o =>
        obtain ⟨o', q'⟩ := J.base.there a o q (by rw [hex]; simp)
        exact (ground q' rfl).elim
    have npin : ∀ p ∈ X.pn ++ pins, p.1 ≠ a := fun p hp z => ground (J.pin p hp).1 z
    have S3 := J3.suite he3 hd3 na nL nF
    refine wpAny_handleBy_cons (codeAny_handlers_test ?_) (by intro q; cases q)
    have isc : PySem.W.Looks (model X.prog X.w) h3 (typeOf (.ref a)) cls := fun A Q E s k q => wpAny_typeOf_ref (k _ _ he3) (by rw [hz3.1]; exact q)
    have named : ∀ {Q : Value → Shared → Prop} {E : Value → Shared → Prop}, Q c { s' with heap := h3 } → wpAny (model X.prog X.w) (X.A.mark (some (.ref a))) (eval (.Name x np) X.env) Q E { s' with heap := h3 } := fun {Q E} q => by
      rcases nm with ⟨hg, hdbg, hmm | ⟨hmm, hv, hnn⟩⟩
      · exact ld_glob (X := X.suite a ((a, oe3) :: (X.pn ++ pins))) S3 hg hmm q hdbg
      · exact ld_blt (X := X.suite a ((a, oe3) :: (X.pn ++ pins))) S3 hg hmm hv q hnn hdbg
    refine named ((PySem.W.exm_one (M := model X.prog X.w) J3.kIn isc hm).here (codeAny_handlers_suite_as (HandSPX.lands_againZ fl3 fun h4 fl4 up4 => ?_)))
    have J4 : Inv X pins σ' H' { s' with heap := h4 } := J.landed nb fl4.1 ((up.trans up3).trans up4) os ag
    obtain ⟨oe4, vs4, he4, hz4, hd4⟩ := fl4.there
    refine store_ok (X := X.suite a ((a, oe4) :: (X.pn ++ pins))) (v := .ref a) (J4.suite he4 hd4 na nL nF) nodup hi (.inl isloc) rfl (fun s5 S5 => ?_) (.inr isloc)
    refine wpAny_mono ((hsu a oe4 cls d (X.pn ++ pins) hz4 ⟨_, hd4⟩).run [] s5 _ H' _ S5 (hyes a na)) (fun f s6 hsp => ?_) (fun _ _ z => False.elim z)
    cases f with
    | next =>
      obtain ⟨σ6, H6, S6, q6⟩ := hsp
      refine gone_ok (X := X.suite a ((a, oe4) :: (X.pn ++ pins))) S6 nodup hi isloc fun s7 S7 => ?_
      obtain ⟨p1, p2, _⟩ := S7.pin (a, oe4) (List.mem_append_left _ List.mem_cons_self)
      exact ⟨_, _, track (S7.unsuite ok) p1 hd4 n0 p2 nL npin (exk_ok p1 hz4.1 hz4.2 hd4), q6⟩
    | brk =>
      obtain ⟨_, _, _, z⟩ := hsp
      exact z.elim
    | cont =>
      obtain ⟨_, _, _, z⟩ := hsp
      exact z.elim
    | ret u =>
      obtain ⟨_, _, _, _, _, z⟩ := hsp
      exact z.elim
  · cases f with
    | next =>
      obtain ⟨σ', H', K', q⟩ := hsp
      exact wpAny_execs_nil ⟨σ', H', K'.ofTry ok, q⟩
    | brk =>
      obtain ⟨σ', H', K', q⟩ := hsp
      exact ⟨σ', H', K'.ofTry ok, q⟩
    | cont =>
      obtain ⟨σ', H', K', q⟩ := hsp
      exact ⟨σ', H', K'.ofTry ok, q⟩
    | ret u =>
      obtain ⟨v, σ', H', K', r, q⟩ := hsp
      exact ⟨v, σ', H', K'.ofTry ok, r, q⟩
end
/-! ### which class is under which -/
section
variable {K : PySem.W.Frag} {A B : Addr} {b : Bool}
theorem kit_ref (hB : ErrC K B) (h : PySem.W.subIn K (.ref A) (.ref B) = some b) : PySem.W.kitOne K (.ref A) (.ref B) = some b := by
  unfold PySem.W.kitOne
  by_cases e : A = B
  · subst e
    have q : b = true := Option.some.inj (h.symm.trans hB.me)
    rw [q, beq_self_eq_true, if_pos rfl]
  · rw [show (Value.ref A == Value.ref B) = false from beq_eq_false_iff_ne.mpr (fun z => e (Value.ref.inj z)), if_neg Bool.false_ne_true]
    show (if ((PySem.W.clsIn K B).isSome && PySem.W.typeIn K (.ref B) == some (.type "type")) = true then PySem.W.subIn K (.ref A) (.ref B) else none) = some b
    rw [hB.cl, hB.ex.tyC, h]
    rfl
theorem kit_VE (hA : ErrC K A) : PySem.W.kitOne K (.ref A) (.type "ValueError") = some true := by
  unfold PySem.W.kitOne
  rw [show (Value.ref A == Value.type "ValueError") = false from beq_eq_false_iff_ne.mpr (fun z => nomatch z), if_neg Bool.false_ne_true]
  show (if PySem.W.kitMeta "ValueError" = true then PySem.W.subIn K (.ref A) (.type "ValueError") else none) = some true
  rw [show PySem.W.kitMeta "ValueError" = true by decide +kernel, if_pos rfl, hA.ve]
theorem exm_of2 (hB : ErrC K B) (h : PySem.W.subIn K (.ref A) (.ref B) = some b) : PySem.W.exmOne K (.ref A) (.ref B) = some b := PySem.W.exm_ref hB.sb hB.hd hB.ex.tyC h
end
/-! ### an error is raised -/
/-- __init__ of the errors: self.value = value -/
def sp_err (K : PySem.W.Frag) : Sp := fun vs H Q _ => ∃ (a C : Addr) (y : V), vs = [.ref a, y] ∧ OexC K C ∧ PySem.W.findIn K (.ref C) "value" = some none ∧ H a = some (exo a C none) ∧
  ∀ dx, H dx = none → dx ≠ a → Q .non (upd (upd H dx (exd dx [(("value" : Str), y)])) a (exo a C (some dx)))
/-- the class at C, called x, is made by this __init__ -/
structure ErrAt (P : Program) (w : World) (K : PySem.W.Frag) (mg : Str → Option Value) (base : Heap) (x : Str) (C : Addr) : Prop where
  ex : ∃ (fI : Addr) (fd : FuncData), ErrC K C ∧ PySem.W.findIn K (.ref C) "__init__" = some (some (.ref fI)) ∧ PySem.W.typeIn K (.ref fI) = some (.type "function") ∧ FnOk P w K mg base CX0 1 fI fd ["self", "value"] (sp_err K) ∧ Binds K fd ["self", "value"] [] ∧ mg x = some (.ref C)
theorem ok_err {P : Program} {w : World} {K : PySem.W.Frag} {mg : Str → Option Value} {base : Heap} {q : Str} {st : Stmt} {f : Addr} {fd : FuncData} (F : Fun K "__init__" q st f fd) (S : FnScope ["self", "value"] ["self", "value"] (defScope st))
    (body : ∀ (cdv : Value) (A : Around) (outer : List Env) (s : Shared) (H : Hp) (E : XK), PSs (cxOf CX0 P w K mg base ["self", "value"] q (defScope st) f cdv A outer s H E).nox (defBody st) (tOst K "value" (tVar 0) (tVar 1))) : FnOk P w K mg base CX0 1 f fd ["self", "value"] (sp_err K) := by
  refine F.ok S (fun vs H Q E h => ?_) (fun cdv A outer s H vs Q E hr h => ?_)
  · obtain ⟨a, C, y, rfl, _⟩ := h
    rfl
  · obtain ⟨a, C, y, rfl, T, no, ha, k⟩ := h
    exact ⟨_, body cdv A outer s H E, y, rfl, _, rfl, a, C, rfl, T, no, .inl ⟨ha, fun dx n ne => k dx n ne⟩⟩
theorem pe_err {X : Cx} {x : Str} {C : Addr} {k : Nat} {e : Expr} {es : List Expr} {ta : TA} {p pos : Pos} (c : ErrAt X.prog X.w X.K X.mg X.base x C) (hr : Room k X.A) (hk : 2 ≤ k) (hg : Gl X x) (ha : PA X (e :: es) ta) (hdb : (x == ("__debug__" : Str)) = false := by decide)
    (he : starEach (e :: es) X.env = (false, eval e X.env) :: starEach es X.env := by rfl) (hpl : (backTo pos (starEach es X.env)).any (·.1) = false := by rfl) : PMk X (.Call (.Name x p) (e :: es) [] pos) (tMkO C (sp_err X.K) [] ta) := by
  obtain ⟨fI, fd, E, i, t, F, b, m⟩ := c.ex
  exact pmk_oex E.ex i t F (hr.mono hk) b .nil pass0 hg m ha hdb he hpl
/-- raise X(e) -/
theorem ps_err {X : Cx} {W : WX} {x : Str} {C : Addr} {k : Nat} {e : Expr} {es : List Expr} {ta : TA} {p pos pos' : Pos} (hc : X.calm = true) (tk : Takes X W) (c : ErrAt X.prog X.w X.K X.mg X.base x C) (hr : Room k X.A) (hk : 2 ≤ k) (hg : Gl X x) (ha : PA X (e :: es) ta)
    (hdb : (x == ("__debug__" : Str)) = false := by decide) (he : starEach (e :: es) X.env = (false, eval e X.env) :: starEach es X.env := by rfl) (hpl : (backTo pos (starEach es X.env)).any (·.1) = false := by rfl) :
    PS X (.Raise (some (.Call (.Name x p) (e :: es) [] pos)) none pos') (fun _ σ H => tMkO C (sp_err X.K) [] ta σ H fun cls d H' => W cls d σ H') := ps_raise hc tk (pe_err c hr hk hg ha hdb he hpl)
theorem x_mk {σ : L2.St} {H : Hp} {K : PySem.W.Frag} {C : Addr} {ta : TA} {Q : XK} (h : ta σ H fun vs H1 => vs.length ≤ 1000 ∧ ∀ a, H1 a = none → sp_err K (.ref a :: (vs ++ [])) (upd H1 a (exo a C none))
  (fun v H2 => v = .non ∧ ∃ (d : Addr) (fs : List (Str × V)), H2 a = some (exo a C (some d)) ∧ H2 d = some (exd d fs) ∧ H1 d = none ∧ Q (.ref C) (some d) (upd (del H2 a) d (.xd fs))) (fun _ _ _ => False)) : tMkO C (sp_err K) [] ta σ H Q := h
/-- the error's own dict is new; nothing else is told -/
theorem x_err {H : Hp} {K : PySem.W.Frag} {C : Addr} {y : V} {Q : XK} (c : ErrC K C) (h : ∀ d, H d = none → Q (.ref C) (some d) (upd H d (.xd [(("value" : Str), y)]))) : [y].length ≤ 1000 ∧ ∀ a, H a = none → sp_err K (.ref a :: ([y] ++ [])) (upd H a (exo a C none))
  (fun v H2 => v = .non ∧ ∃ (d : Addr) (fs : List (Str × V)), H2 a = some (exo a C (some d)) ∧ H2 d = some (exd d fs) ∧ H d = none ∧ Q (.ref C) (some d) (upd (del H2 a) d (.xd fs))) (fun _ _ _ => False) := by
  refine ⟨by simp, fun a ha => ⟨a, C, y, rfl, c.ex, c.no, upd_same, fun dx hd ne => ⟨rfl, dx, _, upd_same, by rw [upd_ne ne, upd_same], ?_, ?_⟩⟩⟩
  · rw [upd_ne ne] at hd
    exact hd
  · have hd' : H dx = none := by
      rw [upd_ne ne] at hd
      exact hd
    have e : upd (del (upd (upd (upd H a (exo a C none)) dx (exd dx [(("value" : Str), y)])) a (exo a C (some dx))) a) dx (.xd [(("value" : Str), y)]) = upd H dx (.xd [(("value" : Str), y)]) := by
      funext b
      by_cases hb : b = dx
      · rw [hb, upd_same, upd_same]
      · rw [upd_ne hb, upd_ne hb]
        by_cases hz : b = a
        · rw [hz, del_same, ha]
        · rw [del_ne hz, upd_ne hz, upd_ne hb, upd_ne hz]
    rw [e]
    exact h dx hd'
/-- f(e, ..) that may raise, in a try -/
theorem pe_cs {X : Cx} {k j : Nat} {x : Str} {sp : Sp} {st : Stmt} {ps : List Str} {p pos : Pos} {e : Expr} {es : List Expr} {t : TA} {W : WX} (c : FnAt X.prog X.w X.K X.mg X.base (L2.CX X.prog X.w) k x st ps sp) (hr : Room j X.A) (hk : k ≤ j) (hg : Gl X x) (tk : Takes X W) (ha : PA X (e :: es) t)
    (hdb : (x == ("__debug__" : Str)) = false := by decide) (he : starEach (e :: es) X.env = (false, eval e X.env) :: starEach es X.env := by rfl) (hpl : (backTo pos (starEach es X.env)).any (·.1) = false := by rfl) :
    PE X (.Call (.Name x p) (e :: es) [] pos) (tCallSD sp [] (WE W) t) := by
  obtain ⟨f, fd, F, hm, fn, b⟩ := c.ex
  exact pe_callSD F (hr.mono hk) hg hm fn.kp b .nil (fun σ => passAt tk σ) ha hdb he hpl
theorem x_callSD {sp : Sp} {E : L2.St → XK} {t : TA} {σ : L2.St} {H : Hp} {Q : VK} (h : t σ H fun vs H1 => sp vs H1 Q (E σ)) : tCallSD sp [] E t σ H Q := by
  show t σ H fun vs H1 => sp (vs ++ []) H1 Q (E σ)
  simp only [List.append_nil]
  exact h
/-- a def called from a def that lets its errors out -/
theorem pe_cx {X : Cx} {k j : Nat} {x : Str} {sp : Sp} {st : Stmt} {ps : List Str} {p pos : Pos} {e : Expr} {es : List Expr} {t : TA} {E : XK} (c : FnAt X.prog X.w X.K X.mg X.base (L2.CX X.prog X.w) k x st ps sp) (hr : Room j X.A) (hk : k ≤ j) (hg : Gl X x) (tk : Takes X (fun cls d _ H => E cls d H)) (ha : PA X (e :: es) t)
    (hdb : (x == ("__debug__" : Str)) = false := by decide) (he : starEach (e :: es) X.env = (false, eval e X.env) :: starEach es X.env := by rfl) (hpl : (backTo pos (starEach es X.env)).any (·.1) = false := by rfl) :
    PE X (.Call (.Name x p) (e :: es) [] pos) (tCall sp [] E t) := by
  obtain ⟨f, fd, F, hm, fn, b⟩ := c.ex
  exact pe_call F (hr.mono hk) hg hm fn.kp b .nil (fun pins σ H s e s' I q => passes_call tk (fun _ _ _ _ z => z) pins σ H s e s' I q) ha hdb he hpl
section
variable {K : PySem.W.Frag} {H : Hp} {Q : VK} {a D C d p : Addr} {fs : List (Str × V)} {b : Bool}
/-- a caught error of the class at D, that holds v, stands at a -/
structure Caught (K : PySem.W.Frag) (H : Hp) (a D : Addr) (v : V) : Prop where
  c : ErrC K D
  at_ : ∃ d, H a = some (exk a (.ref D) (some d)) ∧ H d = some (.xd [(("value" : Str), v)])
theorem x_isX {v : V} (h : Caught K H a D v) (c : ErrC K C) (e : PySem.W.subIn K (.ref D) (.ref C) = some b) (q : Q (.bl b) H) : rIsX K [.ref a, .ref C] H Q := by
  obtain ⟨d, h1, h2⟩ := h.at_
  exact ⟨a, D, d, _, .ref C, .ref C, b, rfl, h.c, h1, h2, .own C, kit_ref c e, q⟩
theorem x_isVE {v : V} (h : Caught K H a D v) (q : Q (.bl true) H) : rIsX K [.ref a, .ty "ValueError"] H Q := by
  obtain ⟨d, h1, h2⟩ := h.at_
  exact ⟨a, D, d, _, .ty "ValueError", .type "ValueError", true, rfl, h.c, h1, h2, .ty "ValueError", kit_VE h.c, q⟩
/-- none of several classes -/
theorem kit_none : ∀ {cs : List Addr}, (∀ c ∈ cs, ErrC K c ∧ PySem.W.subIn K (.ref D) (.ref c) = some false) → PySem.W.kitAny K (.ref D) (cs.map Value.ref) = some false
  | [], _ => rfl
  | c :: cs, h => by
    obtain ⟨h1, h2⟩ := h c List.mem_cons_self
    exact kitAny_cons (kit_ref h1 h2) (fun _ => kit_none fun x hx => h x (List.mem_cons_of_mem _ hx)) (fun z => by cases z)
theorem paired_own : ∀ cs : List Addr, Paired ClsV (cs.map V.ref) (cs.map Value.ref)
  | [] => .nil
  | c :: cs => .cons (.own c) (paired_own cs)
theorem x_isXn {v : V} (cs : List Addr) (h : Caught K H a D v) (hp : H p = some (.tup (cs.map V.ref))) (hc : ∀ c ∈ cs, ErrC K c ∧ PySem.W.subIn K (.ref D) (.ref c) = some false) (q : Q (.bl false) H) : rIsXT K [.ref a, .ref p] H Q := by
  obtain ⟨d, h1, h2⟩ := h.at_
  exact ⟨a, D, d, p, _, cs.map V.ref, cs.map Value.ref, false, rfl, h.c, h1, h2, hp, paired_own cs, kit_none hc, q⟩
theorem x_xv {te : TE} {σ : L2.St} (h : te σ H fun x H1 => ∃ (a D d : Addr) (fs : List (Str × V)) (v : V), x = .ref a ∧ ErrC K D ∧ H1 a = some (exk a (.ref D) (some d)) ∧ H1 d = some (.xd fs) ∧ fs.lookup ("value" : Str) = some v ∧ Q v H1) : tXv K te σ H Q := h
theorem x_xv1 {v : V} {R : V → Prop} (h : Caught K H a D v) (q : R v) :
    ∃ (a' D d : Addr) (fs : List (Str × V)) (v : V), V.ref a = .ref a' ∧ ErrC K D ∧ H a' = some (exk a' (.ref D) (some d)) ∧ H d = some (.xd fs) ∧ fs.lookup ("value" : Str) = some v ∧ R v := by
  obtain ⟨d, h1, h2⟩ := h.at_
  exact ⟨a, D, d, _, v, rfl, h.c, h1, h2, by simp [List.lookup], q⟩
/-- behind the try -/
theorem caught_mk {v : V} (c : ErrC K D) (hd : H d = none) (ha : upd H d (.xd [(("value" : Str), v)]) a = none) : Caught K (upd (upd H d (.xd [(("value" : Str), v)])) a (exk a (.ref D) (some d))) a D v := by
  have ne : d ≠ a := fun z => by
    rw [z, upd_same] at ha
    cases ha
  exact ⟨c, d, upd_same, by rw [upd_ne ne, upd_same]⟩
theorem Caught.keep {H' : Hp} {v : V} (h : Caught K H a D v) (k : ∀ b o, H b = some o → H' b = some o) : Caught K H' a D v := by
  obtain ⟨d, h1, h2⟩ := h.at_
  exact ⟨h.c, d, k _ _ h1, k _ _ h2⟩
end
/-! ### calls by keywords, in a try -/
def tCallKS (sp : Sp) (gV : List V → List V → List V) (E : L2.St → XK) (t tk : TA) : TE := fun σ H Q => t σ H fun vs H1 => tk σ H1 fun zs H2 => sp (gV vs zs) H2 Q (E σ)
theorem x_callKS {sp : Sp} {gV : List V → List V → List V} {E : L2.St → XK} {t tk : TA} {σ : L2.St} {H : Hp} {Q : VK} (h : t σ H fun vs H1 => tk σ H1 fun zs H2 => sp (gV vs zs) H2 Q (E σ)) : tCallKS sp gV E t tk σ H Q := h
theorem pe_cks {X : Cx} {k j : Nat} {x : Str} {sp : Sp} {st : Stmt} {ps ks : List Str} {g : List Value → List Value → List Value} {gV : List V → List V → List V} {p pos : Pos} {kws : List Keyword} {t : TA} {W : WX}
    (c : FnAt X.prog X.w X.K X.mg X.base (L2.CX X.prog X.w) k x st ps sp) (kb : KB st ps ks g gV) (hr : Room j X.A) (hk : k ≤ j) (hg : Gl X x) (tk : Takes X W) (hkw : PK X kws t)
    (hall : (backToKw pos (keywordEach kws X.env)).all (·.1.isSome) = true := by rfl) (hks : (backToKw pos (keywordEach kws X.env)).filterMap (·.1) = ks := by rfl) (hdb : (x == ("__debug__" : Str)) = false := by decide)
    (hpl : ((backTo pos (starEach [] X.env)).any (·.1) || (backToKw pos (keywordEach kws X.env)).any (·.1.isNone)) = false := by rfl) :
    PE X (.Call (.Name x p) [] kws pos) (tCallKS sp gV (WE W) tNil t) := by
  obtain ⟨f, fd, F, hm, fn, b⟩ := c.ex
  refine ⟨fun pins s σ H Q I h => wpAny_Call_Name_kw (ld_glob I hg hm ?_ hdb)⟩
  refine PySem.W.callWith_KW0 (h₀ := X.base) I.ok.mod.kin fn.kp hall (thn (hkw.run pos pins s σ H _ I h) fun ws s2 ⟨zs, H2, I2, rz, q2⟩ => ⟨I2.kIn, ?_⟩) hpl
  rw [hks]
  have K := Fun.kb fn kb
  have r2 := K.rel (vs := []) (us := []) .nil rz
  have hl : (g [] ws).length = ps.length := (r2.length).symm.trans (F.len _ _ _ _ q2)
  refine wpAny_call (codeAny_mono (F.run X.A X.stack s2 H2 ⟨[], ks.zip ws⟩ (g [] ws) (gV [] zs) Q (WE W σ) (hr.mono hk) I2.env0 (K.to s2 [] ws I2.kIn hl) r2 q2) fun r s' hq => ?_)
  rcases r with e | (_ | _ | _ | u)
  · exact passAt tk σ pins H2 s2 e s' I2 hq
  · exact False.elim hq
  · exact False.elim hq
  · exact False.elim hq
  · exact I2.after hq
/-! ### what the head says -/
/-- a def of the text stands at f -/
abbrev DefL (K : PySem.W.Frag) (x q : Str) (st : Stmt) (f : Addr) : Prop := ∃ (oc : Value) (od an : Option Addr) (sl : Array (Option Value)) (kV dc pm cd ct : Value),
  K.lookup f = some ⟨oc, od, .func (PySem.W.fnOf x q (defArgs st) (defBody st) (defScope st) .none kV dc pm an cd ct), sl⟩ ∧ PySem.W.codeIn K cd q = true ∧ PySem.W.keepIn K (.ref f) = true
/-- a class of errors stands at C -/
abbrev ErrL (K : PySem.W.Frag) (C : Addr) (bm : List Value) : Prop := ∃ (nm q : Str) (N : Addr) (bs : List Value) (sn : List Str) (sub : List Value) (ab : Bool) (col : Option Bool) (dd : Option Addr) (k0 k1 k2 k3 k5 : Option Value),
  K.lookup C = some (PySem.excClassObj nm q C N bs bm true sn sub ab col dd k0 k1 k2 k3 k5 "ValueError.__new__")
section
variable {K : PySem.W.Frag} {mg : Str → Option Value} {h : Heap}
theorem mkDef {x : Str} {st : Stmt} {f : Addr} {ps : List Str} (X : K.In h) (G : h.Ns mainGlobals mg) (a : PySem.W.nsIn K mainGlobals x = some (some (.ref f))) (l : DefL K x x st f)
    (b : ∀ (kV doc pm : Value) (an : Option Addr) (cdv ct : Value) (us : List Value), us.length = ps.length → bindArgs (PySem.W.fnOf x x (defArgs st) (defBody st) (defScope st) .none kV doc pm an cdv ct) ⟨us, []⟩ = pure (ps.zip us)) : DefAt K mg x st ps := by
  obtain ⟨oc, od, an, sl, kV, dc, pm, cd, ct, l, c, k⟩ := l
  have F := fun_mk (st := st) l c k
  exact ⟨f, _, PySem.W.mg_of X G a, F, F.binds b⟩
theorem mkFun {x q : Str} {st : Stmt} {f : Addr} {ps : List Str} (l : DefL K x q st f)
    (b : ∀ (kV doc pm : Value) (an : Option Addr) (cdv ct : Value) (us : List Value), us.length = ps.length → bindArgs (PySem.W.fnOf x q (defArgs st) (defBody st) (defScope st) .none kV doc pm an cdv ct) ⟨us, []⟩ = pure (ps.zip us)) : ∃ fd : FuncData, Fun K x q st f fd ∧ Binds K fd ps [] := by
  obtain ⟨oc, od, an, sl, kV, dc, pm, cd, ct, l, c, k⟩ := l
  have F := fun_mk (st := st) l c k
  exact ⟨_, F, F.binds b⟩
theorem mkErr {C : Addr} {bm : List Value} (l : ErrL K C bm) (rf : PySem.HandSPX.refsVE bm = true) (sa : PySem.W.findIn K (.ref C) "__setattr__" = some (some (.builtin "object.__setattr__")))
    (ga : PySem.W.findIn K (.ref C) "__getattribute__" = some (some (.builtin "BaseException.__getattribute__"))) (gt : PySem.W.findIn K (.ref C) "__getattr__" = some none)
    (sb : PySem.W.subIn K (.ref C) (.type "BaseException") = some true) (ty : PySem.W.typeIn K (.ref C) = some (.type "type")) (kp : PySem.W.keepIn K (.ref C) = true) (hd : PySem.W.hasDictIn K C = true) (cl : PySem.W.isClsIn K C = true)
    (kl : PySem.W.findIn K (.ref C) "__class__" = some (some (.builtin "object.__class__"))) (gs : PySem.W.specialIn K (.builtin "object.__class__") "__get__" = some (some (.builtin "getset_descriptor.__get__")))
    (tk : PySem.W.takesIn K (.builtin "object.__class__") = some true) (mo : PySem.W.mroIn K C (.type "object") = some true) (no : PySem.W.findIn K (.ref C) "value" = some none)
    (me : PySem.W.subIn K (.ref C) (.ref C) = some true) (ve : PySem.W.subIn K (.ref C) (.type "ValueError") = some true) : ErrC K C := by
  obtain ⟨nm, q, N, bs, sn, sub, ab, col, dd, k0, k1, k2, k3, k5, l⟩ := l
  exact ⟨cl, ga, gt, sb, hd, kl, gs, tk, mo, no, ⟨⟨nm, q, N, bs, bm, sn, sub, ab, col, dd, k0, k1, k2, k3, k5, l, rf⟩, sa, sb, ty, kp⟩, me, ve⟩
end
end TW

local macro_rules | `(tactic| walk_at "ne") => `(tactic| first | with_reducible assumption | (with_reducible refine Ne.symm ?_; with_reducible assumption) | (with_reducible refine' L2.ne_of_none ?h1 ?h2; (case h2 => with_reducible assumption); (case h1 => with_reducible assumption)) | (with_reducible refine' Ne.symm (L2.ne_of_none ?h1 ?h2); (case h2 => with_reducible assumption); (case h1 => with_reducible assumption)))
local macro_rules | `(tactic| walk_at "hp") => `(tactic| first
  | with_reducible assumption | with_reducible exact L2.upd_same
  | ((with_reducible refine' Eq.trans (L2.upd_ne ?n) ?r); (case n => walk_at "ne"); (case r => walk_at "hp")))
local macro_rules | `(tactic| walk_at "heap") => `(tactic| first
  | with_reducible assumption | ((with_reducible refine' L2.SqL.of ?h); (case h => walk_at "hp")) | ((with_reducible refine' L2.SqT.of ?h); (case h => walk_at "hp")) | walk_at "hp")
local macro_rules | `(tactic| walk_at "lit") => `(tactic| first | with_unfolding_all rfl | with_unfolding_all decide)
local macro_rules | `(tactic| walk_at "size") => `(tactic| first | with_unfolding_all decide | ((simp only [List.length_cons, List.length_nil, Nat.zero_add, Nat.reduceAdd]); with_unfolding_all decide))
local macro_rules | `(tactic| walk_at "cond") => `(tactic| first
  | with_reducible assumption | ((with_reducible show (_ : Int) < _); omega) | ((with_reducible show (_ : Int) ≠ _); omega) | exact TW.cmulL (by omega) (by omega) | exact TW.cmulR (by omega) (by omega) | exact TW.cpow (by omega) (by omega) (by omega) (by omega)
  | ((with_reducible show L2.CDivW _ _); exact TW.cdivW (by omega) (by decide +kernel)) | (with_unfolding_all decide) | omega)
local macro_rules | `(tactic| walk_at "one") => `(tactic| first
  | (with_reducible first
  | refine TW.x_seq ?_ | refine TW.x_asg ?_ | refine TW.x_ifs ?_ | refine TW.x_ret ?_ | refine TW.x_drop ?_ | refine TW.x_next ?_ | refine TW.x_par ?_ | refine TW.x_for ?_ | refine TW.x_iL ?_ | refine TW.x_iT ?_ | refine TW.x_iR ?_ | refine TW.x_iZ ?_ | refine TW.x_iZA ?_ | refine TW.x_gcons ?_ | refine TW.x_gnil ?_ | refine TW.x_par2 ?_
  | refine TW.x_var rfl ?_ | refine TW.x_c ?_ | refine TW.x_op ?_ | refine TW.x_un ?_ | refine TW.x_rI0 ?_ | refine TW.x_rU ?_
  | refine TW.x_rEqIe ?_ | refine TW.x_rNeIe ?_ | refine TW.x_rEqSe ?_ | refine TW.x_rNeSe ?_ | refine TW.x_rEqBe ?_ | refine TW.x_rNeBe ?_ | refine TW.x_rEqI ?_ | refine TW.x_rNeI ?_ | refine TW.x_rEqS ?_ | refine TW.x_rNeS ?_ | refine TW.x_rEqB ?_ | refine TW.x_rNeB ?_
  | refine TW.x_test ?_ | refine TW.x_B ?_ | refine TW.x_bl ?_
  | refine TW.x_and ?_ | refine TW.x_or ?_ | refine TW.x_not ?_ | refine TW.x_andV ?_ | refine TW.x_orV ?_ | refine TW.x_notV ?_ | refine TW.x_ifE ?_
  | refine TW.x_cons ?_ | refine TW.x_nil ?_ | refine TW.x_call ?_ | refine TW.x_callK ?_ | refine TW.x_callKS ?_ | refine TW.x_callSD ?_ | refine TW.x_mk ?_ | refine TW.x_xv ?_ | refine TW.x_CB ?_ | refine TW.x_BM0 ?_ | refine TW.x_BM ?_ | refine TW.x_tup ?_ | refine TW.x_lst ?_ | refine TW.x_gname ?_ | refine TW.x_gsub ?_
  | refine TW.x_isN0 ?_ | refine TW.x_isNi ?_ | refine TW.x_isNb ?_ | refine TW.x_isNs ?_ | refine TW.x_isNr ?_ | refine TW.x_int1 ?_ | refine TW.x_intB ?_ | refine TW.x_abs ?_ | refine TW.x_min2 ?_ | refine TW.x_max2 ?_ | refine TW.x_gcd ?_ | refine L2.iteF ?_ | refine L2.iteT ?_ | refine TW.x_nT ?_ | refine TW.x_nF ?_)
  | ((with_reducible refine' TW.x_ixL ?s ?e ?_); (case s => walk_at "heap"); (case e => walk_at "lit"))
  | ((with_reducible refine' TW.x_setL ?s ?e ?_); (case s => walk_at "heap"); (case e => walk_at "lit"))
  | ((with_reducible refine' TW.x_pop0 ?s ?e ?_); (case s => walk_at "heap"); (case e => assumption))
  | ((with_reducible refine' TW.x_lenL ?s ?_); (case s => walk_at "heap"))
  | ((with_reducible refine' TW.x_lenT ?s ?_); (case s => walk_at "heap"))
  | ((with_reducible refine' TW.x_ixT ?s ?e ?_); (case s => walk_at "heap"); (case e => walk_at "lit"))
  | ((with_reducible refine' TW.x_gtup ?s ?e ?_); (case s => walk_at "heap"); (case e => walk_at "lit"))
  | ((with_reducible refine TW.x_rI ?c ?_); (case c => walk_at "cond"))
  | ((with_reducible refine ⟨?c, fun p hp => ?_⟩); (case c => (with_reducible show _ ≤ PySem.sizeLine); walk_at "size")))
local macro_rules | `(tactic| walk_at "s") => `(tactic| repeat walk_at "one")
local macro_rules | `(tactic| walk_at "K") => `(tactic| try dsimp only [L2.cxOf, L2.Cx.nox, L2.Cx.wish])
local macro_rules | `(tactic| walk_at "tell") => `(tactic| repeat (first | walk_at "one" | refine TW.x_iteT (by decide) ?_ | refine TW.x_iteF (by decide) ?_))

namespace TW
open PySem PySem.Spec PyProof.Rows L2
/-! ### data in the heap; what stays -/
/-- what stands at an address that is ok stands behind as it stood, and so does each tuple; nothing is let go -/
structure Fr (ok : Addr → Prop) (H H' : Hp) : Prop where
  keep : ∀ b o, ok b → H b = some o → H' b = some o
  tups : ∀ b xs, H b = some (.tup xs) → H' b = some (.tup xs)
  back : ∀ b, H' b = none → H b = none
section
variable {ok ok' : Addr → Prop} {H H' H1 H2 : Hp} {p a b : Addr} {o o' : HO} {xs ys : List V} {K : PySem.W.Frag}
theorem Fr.refl : Fr ok H H := ⟨fun _ _ _ e => e, fun _ _ e => e, fun _ e => e⟩
theorem Fr.trans (h : Fr ok H H1) (k : Fr ok H1 H2) : Fr ok H H2 := ⟨fun b o q e => k.keep b o q (h.keep b o q e), fun b xs e => k.tups b xs (h.tups b xs e), fun b e => h.back b (k.back b e)⟩
theorem Fr.mono (h : Fr ok' H H') (m : ∀ b, ok b → ok' b) : Fr ok H H' := ⟨fun b o q e => h.keep b o (m b q) e, h.tups, h.back⟩
theorem Fr.new (h : H p = none) : Fr ok H (upd H p o) :=
  ⟨fun b u _ e => by rw [upd_ne (ne_of_none e h)]; exact e, fun b xs e => by rw [upd_ne (ne_of_none e h)]; exact e, fun b e => by
    by_cases q : b = p
    · rw [q, upd_same] at e
      cases e
    · rw [upd_ne q] at e
      exact e⟩
/-- a list that is not ok is changed -/
theorem Fr.set (n : ¬ ok p) (h : H p = some (.lst xs)) : Fr ok H (upd H p (.lst ys)) :=
  ⟨fun b u q e => by rw [upd_ne (fun z => by rw [z] at q; exact n q)]; exact e, fun b zs e => by
    rw [upd_ne (fun z => by rw [z, h] at e; cases e)]
    exact e, fun b e => by
    by_cases q : b = p
    · rw [q, upd_same] at e
      cases e
    · rw [upd_ne q] at e
      exact e⟩
/-- an object that H does not know is changed -/
theorem Fr.mut (h : Fr ok H H1) (hn : H p = none) : Fr ok H (upd H1 p o) :=
  ⟨fun b u q e => by rw [upd_ne (ne_of_none e hn)]; exact h.keep b u q e, fun b xs e => by rw [upd_ne (ne_of_none e hn)]; exact h.tups b xs e, fun b e => by
    by_cases q : b = p
    · rw [q, upd_same] at e
      cases e
    · rw [upd_ne q] at e
      exact h.back b e⟩
theorem Fr.alloc (h : Fr ok H H1) (hn : H1 p = none) : Fr ok H (upd H1 p o) := h.mut (h.back p hn)
theorem Fr.sqL (f : Fr ok H H') (q : ok a) (h : SqL K H a xs) : SqL K H' a xs := by
  rcases h with (h | ⟨o, h⟩) | h
  · exact .inl (.inl (f.keep _ _ q h))
  · exact .inl (.inr ⟨o, f.keep _ _ q h⟩)
  · exact .inr h
theorem Fr.same (f : Fr (fun _ => True) H H') : Same H H' := fun b o e => f.keep b o trivial e
theorem ne_lst {q : Addr} (h : H p = some (.lst xs)) (k : H q = some (.tup ys)) : q ≠ p := fun z => by rw [z, h] at k; cases k
end
end TW

namespace TW
open PySem PySem.Spec PyProof.Rows L2
/-! ### data: what a value stands for; its lists are at addresses that are ok -/
mutual
inductive Rep (ok : Addr → Prop) (H : Hp) : V → PyData → Prop
  | non : Rep ok H .non .none
  | bl (b : Bool) : Rep ok H (.bl b) (.bool b)
  | int (i : Int) : Rep ok H (.int i) (.int i)
  | str (x : Str) : Rep ok H (.str x) (.str x)
  | lst {a : Addr} {xs : List V} {ds : List PyData} (q : ok a) (e : H a = some (.lst xs)) (r : RepAll ok H xs ds) : Rep ok H (.ref a) (.list ds)
  | tup {a : Addr} {xs : List V} {ds : List PyData} (e : H a = some (.tup xs)) (r : RepAll ok H xs ds) : Rep ok H (.ref a) (.tuple ds)
inductive RepAll (ok : Addr → Prop) (H : Hp) : List V → List PyData → Prop
  | nil : RepAll ok H [] []
  | cons {v : V} {vs : List V} {d : PyData} {ds : List PyData} (h : Rep ok H v d) (t : RepAll ok H vs ds) : RepAll ok H (v :: vs) (d :: ds)
end
section
variable {ok ok' : Addr → Prop} {H H' : Hp} {v : V} {d : PyData} {vs : List V} {ds : List PyData}
mutual
theorem Rep.fr (f : Fr ok H H') : ∀ {d : PyData} {v : V}, Rep ok H v d → Rep ok H' v d
  | _, _, .non => .non
  | _, _, .bl b => .bl b
  | _, _, .int i => .int i
  | _, _, .str x => .str x
  | _, _, .lst q e r => .lst q (f.keep _ _ q e) (RepAll.fr f r)
  | _, _, .tup e r => .tup (f.tups _ _ e) (RepAll.fr f r)
theorem RepAll.fr (f : Fr ok H H') : ∀ {ds : List PyData} {vs : List V}, RepAll ok H vs ds → RepAll ok H' vs ds
  | _, _, .nil => .nil
  | _, _, .cons h t => .cons (Rep.fr f h) (RepAll.fr f t)
end
mutual
theorem Rep.mono (m : ∀ a, ok a → ok' a) : ∀ {d : PyData} {v : V}, Rep ok H v d → Rep ok' H v d
  | _, _, .non => .non
  | _, _, .bl b => .bl b
  | _, _, .int i => .int i
  | _, _, .str x => .str x
  | _, _, .lst q e r => .lst (m _ q) e (RepAll.mono m r)
  | _, _, .tup e r => .tup e (RepAll.mono m r)
theorem RepAll.mono (m : ∀ a, ok a → ok' a) : ∀ {ds : List PyData} {vs : List V}, RepAll ok H vs ds → RepAll ok' H vs ds
  | _, _, .nil => .nil
  | _, _, .cons h t => .cons (Rep.mono m h) (RepAll.mono m t)
end
theorem RepAll.len : ∀ {vs : List V} {ds : List PyData}, RepAll ok H vs ds → vs.length = ds.length
  | _, _, .nil => rfl
  | _, _, .cons _ t => by rw [List.length_cons, List.length_cons, RepAll.len t]
theorem RepAll.get : ∀ {vs : List V} {ds : List PyData} {i : Nat} {v : V}, RepAll ok H vs ds → vs[i]? = some v → ∃ d, ds[i]? = some d ∧ Rep ok H v d
  | _, _, _, _, .nil, e => by simp at e
  | _, _, 0, _, .cons h t, e => by
    have e' := Option.some.inj e
    subst e'
    exact ⟨_, rfl, h⟩
  | _, _, i + 1, _, .cons h t, e => RepAll.get (i := i) t e
theorem RepAll.at : ∀ {vs : List V} {ds : List PyData} {i : Nat} {d : PyData}, RepAll ok H vs ds → ds[i]? = some d → ∃ v, vs[i]? = some v ∧ Rep ok H v d
  | _, _, _, _, .nil, e => by simp at e
  | _, _, 0, _, .cons h t, e => by
    have e' := Option.some.inj e
    subst e'
    exact ⟨_, rfl, h⟩
  | _, _, i + 1, _, .cons h t, e => RepAll.at (i := i) t e
theorem RepAll.app : ∀ {vs : List V} {ds : List PyData}, RepAll ok H vs ds → Rep ok H v d → RepAll ok H (vs ++ [v]) (ds ++ [d])
  | _, _, .nil, h => .cons h .nil
  | _, _, .cons g t, h => .cons g (RepAll.app t h)
/-- the name of a datum's type -/
def tyN : PyData → String
  | .none => "NoneType" | .bool _ => "bool" | .int _ => "int" | .str _ => "str" | .list _ => "list" | .tuple _ => "tuple" | .dict _ => "dict"
theorem Rep.ty {K : PySem.W.Frag} (h : Rep ok H v d) : TyX K H v (.type (tyN d)) := by
  cases h with
  | non => exact .base .non
  | bl b => exact .base (.bl b)
  | int i => exact .base (.int i)
  | str x => exact .base (.str x)
  | lst q e r => exact .base (.lst e)
  | tup e r => exact .base (.tup e)
/-- isinstance(x, T), x a datum -/
theorem x_isi {K : PySem.W.Frag} {T : String} {b : Bool} {Q : VK} (h : Rep ok H v d) (e : kitB (tyN d) T = some b) (q : Q (.bl b) H) : rIsi K [v, .ty T] H Q := ⟨v, .ty T, _, _, b, rfl, .ty T, h.ty, kit_ty e, q⟩
/-- isinstance(x, (S, T)) -/
theorem x_isi2 {K : PySem.W.Frag} {S T : String} {b c r : Bool} {p : Addr} {Q : VK} (h : Rep ok H v d) (hp : H p = some (.tup [.ty S, .ty T])) (e : kitB (tyN d) S = some b) (e2 : kitB (tyN d) T = some c) (er : (b || c) = r) (q : Q (.bl r) H) : rIsiT K [v, .ref p] H Q := by
  subst er
  refine ⟨v, p, _, _, [.type S, .type T], b || c, rfl, hp, .cons (.ty S) (.cons (.ty T) .nil), h.ty, ?_, q⟩
  refine kitAny_cons (kit_ty e) (fun hb => ?_) (fun hb => by rw [hb]; rfl)
  refine kitAny_cons (kit_ty e2) (fun hc => ?_) (fun hc => by rw [hc, hb]; rfl)
  rw [hb, hc]
  exact kitAny_nil
end
end TW
namespace TW
open PySem PySem.Spec PyProof.Rows L2
/-- an item of a written list, at a drawn place -/
theorem pick {r : Int} (l : List Int) (h0 : 0 ≤ r) (h1 : r < (l.length : Int)) : ∃ x, x ∈ l ∧ atI (l.map V.int) r = some (.int x) := by
  have hr : r.toNat < l.length := by omega
  refine ⟨l[r.toNat], List.getElem_mem hr, at_of (j := r.toNat) (by omega) ?_⟩
  rw [List.getElem?_map, List.getElem?_eq_getElem hr]
  rfl
end TW

namespace K
open PySem PySem.Spec PyProof.Rows L2 TW
def topS (i : Nat) : Stmt := PySem.Challenge.pw_textworths_k01_numbers.main.body.getD i (.Pass ⟨0, 0, 0, 0⟩)
abbrev s_WorthError___init__ : Stmt := inClass (topS 2) 0
abbrev n_WorthError___init__ : List Str := ["self", "value"]
theorem sc_WorthError___init__ : FnScope n_WorthError___init__ ["self", "value"] (defScope s_WorthError___init__) := ⟨rfl, rfl, rfl, by decide +kernel, rfl, by decide +kernel, by decide +kernel⟩
abbrev s_number : Stmt := topS 9
abbrev n_number : List Str := ["above", "below", "common"]
theorem sc_number : FnScope n_number ["above", "below"] (defScope s_number) := ⟨rfl, rfl, rfl, by decide +kernel, rfl, by decide +kernel, by decide +kernel⟩
abbrev s__law_deck : Stmt := topS 11
abbrev n__law_deck : List Str := ["_law_script", "_law_mark", "_law_great", "_law_cell"]
theorem sc__law_deck : FnScope n__law_deck ["_law_script"] (defScope s__law_deck) := ⟨rfl, rfl, rfl, by decide +kernel, rfl, by decide +kernel, by decide +kernel⟩
abbrev s__law_draw : Stmt := topS 12
abbrev n__law_draw : List Str := ["_law_deck_here", "_law_limit", "_law_found", "_law_stir"]
theorem sc__law_draw : FnScope n__law_draw ["_law_deck_here", "_law_limit"] (defScope s__law_draw) := ⟨rfl, rfl, rfl, by decide +kernel, rfl, by decide +kernel, by decide +kernel⟩
abbrev s__law_gcd : Stmt := topS 13
abbrev n__law_gcd : List Str := ["_law_one", "_law_other"]
theorem sc__law_gcd : FnScope n__law_gcd ["_law_one", "_law_other"] (defScope s__law_gcd) := ⟨rfl, rfl, rfl, by decide +kernel, rfl, by decide +kernel, by decide +kernel⟩
abbrev s__law_pair : Stmt := topS 14
abbrev n__law_pair : List Str := ["_law_above", "_law_below", "_law_common"]
theorem sc__law_pair : FnScope n__law_pair ["_law_above", "_law_below"] (defScope s__law_pair) := ⟨rfl, rfl, rfl, by decide +kernel, rfl, by decide +kernel, by decide +kernel⟩
abbrev s__law_alike : Stmt := topS 15
abbrev n__law_alike : List Str := ["_law_found", "_law_due", "_law_one", "_law_other"]
theorem sc__law_alike : FnScope n__law_alike ["_law_found", "_law_due"] (defScope s__law_alike) := ⟨rfl, rfl, rfl, by decide +kernel, rfl, by decide +kernel, by decide +kernel⟩
abbrev s__law_signed : Stmt := topS 16
abbrev n__law_signed : List Str := ["_law_deck_here", "_law_limit", "_law_found"]
theorem sc__law_signed : FnScope n__law_signed ["_law_deck_here", "_law_limit"] (defScope s__law_signed) := ⟨rfl, rfl, rfl, by decide +kernel, rfl, by decide +kernel, by decide +kernel⟩
abbrev s__law_integers : Stmt := topS 17
abbrev n__law_integers : List Str := ["_law_deck_here", "_law_kind", "_law_great", "_law_one", "_law_other", "_law_factor"]
theorem sc__law_integers : FnScope n__law_integers ["_law_deck_here"] (defScope s__law_integers) := ⟨rfl, rfl, rfl, by decide +kernel, rfl, by decide +kernel, by decide +kernel⟩
abbrev s__law_is_refused : Stmt := topS 18
abbrev n__law_is_refused : List Str := ["_law_above", "_law_caught", "e"]
theorem sc__law_is_refused : FnScope n__law_is_refused ["_law_above"] (defScope s__law_is_refused) := ⟨rfl, rfl, rfl, by decide +kernel, rfl, by decide +kernel, by decide +kernel⟩
abbrev s_law : Stmt := topS 19
abbrev n_law : List Str := ["_law_script", "_law_deck_here", "_law_held", "_law_k", "_law_above", "_law_below", "_law_due", "_law_found"]
theorem sc_law : FnScope n_law ["_law_script"] (defScope s_law) := ⟨rfl, rfl, rfl, by decide +kernel, rfl, by decide +kernel, by decide +kernel⟩
/-- what the top has written -/
structure Txt (K : PySem.W.Frag) (mg : Str → Option Value) (C_WorthError : Addr) (C_InvalidNumber : Addr) (C_InvalidSigns : Addr) (C_UnknownSign : Addr) (C_InvalidMachine : Addr) (C_UnlikeSigns : Addr) (f_err : Addr) : Prop where
  d_number : TW.DefAt K mg "number" s_number ["above", "below"]
  d__law_deck : TW.DefAt K mg "_law_deck" s__law_deck ["_law_script"]
  d__law_draw : TW.DefAt K mg "_law_draw" s__law_draw ["_law_deck_here", "_law_limit"]
  d__law_gcd : TW.DefAt K mg "_law_gcd" s__law_gcd ["_law_one", "_law_other"]
  d__law_pair : TW.DefAt K mg "_law_pair" s__law_pair ["_law_above", "_law_below"]
  d__law_alike : TW.DefAt K mg "_law_alike" s__law_alike ["_law_found", "_law_due"]
  d__law_signed : TW.DefAt K mg "_law_signed" s__law_signed ["_law_deck_here", "_law_limit"]
  d__law_integers : TW.DefAt K mg "_law_integers" s__law_integers ["_law_deck_here"]
  d__law_is_refused : TW.DefAt K mg "_law_is_refused" s__law_is_refused ["_law_above"]
  d_law : TW.DefAt K mg "law" s_law ["_law_script"]
  mg_gcd : mg "gcd" = some (.builtin "math.gcd")
  no_ValueError : mg "ValueError" = none
  no_abs : mg "abs" = none
  no_bool : mg "bool" = none
  no_int : mg "int" = none
  no_isinstance : mg "isinstance" = none
  no_len : mg "len" = none
  no_list : mg "list" = none
  no_range : mg "range" = none
  no_str : mg "str" = none
  no_tuple : mg "tuple" = none
  no_zip : mg "zip" = none
  cl_WorthError : mg "WorthError" = some (.ref C_WorthError)
  cl_InvalidNumber : mg "InvalidNumber" = some (.ref C_InvalidNumber)
  cl_InvalidSigns : mg "InvalidSigns" = some (.ref C_InvalidSigns)
  cl_UnknownSign : mg "UnknownSign" = some (.ref C_UnknownSign)
  cl_InvalidMachine : mg "InvalidMachine" = some (.ref C_InvalidMachine)
  cl_UnlikeSigns : mg "UnlikeSigns" = some (.ref C_UnlikeSigns)
  ty_err : PySem.W.typeIn K (.ref f_err) = some (.type "function")
  fn_err : ∃ fd : FuncData, Fun K "__init__" "WorthError.__init__" s_WorthError___init__ f_err fd ∧ Binds K fd ["self", "value"] []
  ec_WorthError : TW.ErrC K C_WorthError
  ec_InvalidNumber : TW.ErrC K C_InvalidNumber
  in_InvalidNumber : PySem.W.findIn K (.ref C_InvalidNumber) "__init__" = some (some (.ref f_err))
  ec_InvalidSigns : TW.ErrC K C_InvalidSigns
  ec_UnknownSign : TW.ErrC K C_UnknownSign
  ec_InvalidMachine : TW.ErrC K C_InvalidMachine
  ec_UnlikeSigns : TW.ErrC K C_UnlikeSigns
  sb_InvalidNumber_WorthError : PySem.W.subIn K (.ref C_InvalidNumber) (.ref C_WorthError) = some true
  sb_InvalidNumber_InvalidNumber : PySem.W.subIn K (.ref C_InvalidNumber) (.ref C_InvalidNumber) = some true
  sb_InvalidNumber_InvalidSigns : PySem.W.subIn K (.ref C_InvalidNumber) (.ref C_InvalidSigns) = some false
  sb_InvalidNumber_UnknownSign : PySem.W.subIn K (.ref C_InvalidNumber) (.ref C_UnknownSign) = some false
  sb_InvalidNumber_InvalidMachine : PySem.W.subIn K (.ref C_InvalidNumber) (.ref C_InvalidMachine) = some false
  sb_InvalidNumber_UnlikeSigns : PySem.W.subIn K (.ref C_InvalidNumber) (.ref C_UnlikeSigns) = some false
theorem kb_number_below_above : TW.KB s_number ["above", "below"] ["below", "above"] (fun us ws => match us, ws with | [], [w0, w1] => [w1, w0] | _, _ => []) (fun us ws => match us, ws with | [], [w0, w1] => [w1, w0] | _, _ => []) := by
  constructor
  · intro x qual kV doc pm an cdv ct us ws h
    rcases us with _ | ⟨a0, _⟩ <;> rcases ws with _ | ⟨b0, _ | ⟨b1, _ | ⟨b2, _⟩⟩⟩ <;> first | rfl | (exact absurd h (by simp))
  · intro vs us zs ws r q
    rcases r with _ | ⟨r0, _⟩ <;> rcases q with _ | ⟨q0, _ | ⟨q1, _ | ⟨q2, _⟩⟩⟩ <;> first | exact .nil | (repeat (first | exact .nil | refine .cons (by assumption) ?_))
section
variable {P : Program} {w : World} {K : PySem.W.Frag} {mg : Str → Option Value} {base : Heap} {C_WorthError C_InvalidNumber C_InvalidSigns C_UnknownSign C_InvalidMachine C_UnlikeSigns f_err : Addr}
theorem ok_init {f_err : Addr} {fd : FuncData} (F : Fun K "__init__" "WorthError.__init__" s_WorthError___init__ f_err fd) : FnOk P w K mg base CX0 1 f_err fd ["self", "value"] (TW.sp_err K) :=
  TW.ok_err F sc_WorthError___init__ fun cdv A outer s H E => pss_one (ps_ost (pv 0) (pv 1))
theorem er_InvalidNumber (T : Txt K mg C_WorthError C_InvalidNumber C_InvalidSigns C_UnknownSign C_InvalidMachine C_UnlikeSigns f_err) : TW.ErrAt P w K mg base "InvalidNumber" C_InvalidNumber := by
  obtain ⟨fd, F, b⟩ := T.fn_err
  exact ⟨f_err, fd, T.ec_InvalidNumber, T.in_InvalidNumber, T.ty_err, ok_init F, b, T.cl_InvalidNumber⟩
structure DeckC (H : Hp) (a g : Addr) (cur mark cnt : Int) (gs : List Int) : Prop where
  cell : H a = some (.lst [.ref g, .int cur, .int mark, .int cnt])
  great : H g = some (.lst (gs.map V.int))
  ne : a ≠ g
  cur0 : 0 ≤ cur
  mark0 : 0 ≤ mark ∧ mark ≤ 1000000000000000003
  cnt0 : 0 ≤ cnt
  gs0 : ∀ z ∈ gs, 0 ≤ z
  gsl : gs.length ≤ 63
/-- the deck at a, its great cells at g; at most 16000000 draws, n of them are still free -/
def Deck (H : Hp) (a g : Addr) (n : Nat) : Prop := ∃ cur mark cnt gs, DeckC H a g cur mark cnt gs ∧ cnt + n ≤ 16000000
def Off (a g : Addr) : Addr → Prop := fun b => b ≠ a ∧ b ≠ g
def sp_draw : Sp := fun vs H Q _ => ∃ (a g : Addr) (n : Nat) (lim : Int), vs = [.ref a, .int lim] ∧ Deck H a g (n + 1) ∧ 0 < lim ∧ lim ≤ 1000000000000000000000000000000000 ∧ ∀ (H' : Hp) (r : Int), TW.Fr (Off a g) H H' → Deck H' a g n → 0 ≤ r → r < lim → Q (.int r) H'
theorem dpInts {H : Hp} : ∀ gs : List Int, DpAll K H (gs.map V.int) (gs.map PyData.int)
  | [] => .nil
  | z :: gs => .cons (.int z) (dpInts gs)
theorem layInts : ∀ gs : List Int, PyData.canLayAll0 (gs.map PyData.int) = true
  | [] => by simp [PyData.canLayAll0]
  | z :: gs => by simp [PyData.canLayAll0, PyData.canLay0, layInts gs]
theorem depthInts : ∀ gs : List Int, PyData.depthAll (gs.map PyData.int) = 0
  | [] => by simp [PyData.depthAll]
  | z :: gs => by simp [PyData.depthAll, PyData.depth, depthInts gs]
theorem shapedInts (gs : List Int) : SeqAt.shaped (.list (gs.map PyData.int)) = true := by
  show (PyData.canLay0 (.list (gs.map PyData.int)) && decide (PyData.depth (.list (gs.map PyData.int)) ≤ 64)) = true
  rw [Bool.and_eq_true]
  refine ⟨by simp only [PyData.canLay0]; exact layInts gs, decide_eq_true ?_⟩
  simp only [PyData.depth, depthInts]
  decide
theorem x_neNil {H : Hp} {g p : Addr} {gs : List Int} {Q : VK} (hg : SqL K H g (gs.map V.int)) (hp : SqL K H p []) (h : Q (.bl (!decide (gs = []))) H) : rNeD K (.ref g) (.ref p) H Q := by
  refine ⟨.list (gs.map PyData.int), .list [], .lst hg (dpInts gs), .lst hp .nil, shapedInts gs, by decide, ?_⟩
  have e : PyData.eqv (.list (gs.map PyData.int)) (.list []) = decide (gs = []) := by
    cases gs with
    | nil => decide
    | cons z gs => simp [PyData.eqv, PyData.eqvAll]
  rw [e]
  exact h
theorem c__law_draw (T : Txt K mg C_WorthError C_InvalidNumber C_InvalidSigns C_UnknownSign C_InvalidMachine C_UnlikeSigns f_err) : FnAt P w K mg base CX0 1 "_law_draw" s__law_draw ["_law_deck_here", "_law_limit"] sp_draw := by
  refine TW.mkFn T.d__law_draw sc__law_draw (fun vs H Q E h => ?_) (fun f cdv A outer s H vs Q E hr h => ?_)
  · obtain ⟨a, g, n, lim, rfl, _⟩ := h
    rfl
  · obtain ⟨a, g, n, lim, rfl, D, hl, hl9, k⟩ := h
    refine ⟨_, (Evl.pss_cut (ps_if (PW.pt (pw_and (pt_cmpR op_eq (pe_ix ix_list (pv 0) pe_int (fun _ _ => rfl)) pe_int (nomark _)) (pw_and1 (pt_cmpR (op_neD (hr.units)) (pe_ix ix_list (pv 0) pe_int (fun _ _ => rfl)) (pe_lst pa_nil) (nomark _))))) (pss_one (ps_asg (pe_bm0 PySem.F.plainAttrs_list PySem.F.slot_list_pop PySem.F.type_list_pop mt_pop (pe_ix ix_list (pv 0) pe_int (fun _ _ => rfl))) (pg_sub (pv 0) pe_int set_list))) pss_nil)
  (pss_cons (ps_if (pt_cmpR op_gt (pe_ix ix_list (pv 0) pe_int (fun _ _ => rfl)) pe_int (nomark _)) (pss_cons (ps_set (i := 2) sc__law_draw.nd rfl (.inl rfl) (pe_op op_mod (pe_callTy TW.call_int (by rfl) T.no_int (by decide +kernel) (pa_cons (pe_ix ix_list (pv 0) pe_int (fun _ _ => rfl)) pa_nil)) (pv 1)))
  (pss_cons (ps_asg (pe_op op_fdivW (pe_ix ix_list (pv 0) pe_int (fun _ _ => rfl)) (pv 1)) (pg_sub (pv 0) pe_int set_list))
  (pss_one (ps_ret (pv 2))))) pss_nil)
  (pss_cons (ps_asg (pe_op op_add (pe_ix ix_list (pv 0) pe_int (fun _ _ => rfl)) pe_int) (pg_sub (pv 0) pe_int set_list))
  (pss_cons (ps_set (i := 3) sc__law_draw.nd rfl (.inl rfl) (pe_op op_mod (pe_callTy TW.call_int (by rfl) T.no_int (by decide +kernel) (pa_cons (pe_op op_pow (pe_op op_add (pe_ix ix_list (pv 0) pe_int (fun _ _ => rfl)) (pe_op op_mul (pe_op op_mul pe_int (pe_ix ix_list (pv 0) pe_int (fun _ _ => rfl))) (pe_ix ix_list (pv 0) pe_int (fun _ _ => rfl)))) pe_int) pa_nil)) pe_int))
  (pss_one (ps_ret (pe_op op_mod (pe_op op_fdivW (pe_op op_mod (pe_callTy TW.call_int (by rfl) T.no_int (by decide +kernel) (pa_cons (pe_op op_mulW (pv 3) (pe_op op_add (pv 3) pe_int)) pa_nil)) pe_int) pe_int) (pv 1)))))))), ?_⟩
    obtain ⟨cur, mark, cnt, gs, D, hn⟩ := D
    have hc := D.cell
    have hg := D.great
    have hne := D.ne
    have hd : CDivW 0 lim := TW.cdivW hl (Nat.lt_of_le_of_lt (show lim.natAbs ≤ 1000000000000000000000000000000000 by omega) (by decide +kernel))
    walk_at "K"
    refine TW.x_cut (fun σ H1 => σ = [some (.ref a), some (.int lim), none, none] ∧ TW.Fr (Off a g) H H1 ∧ ∃ cur1 gs1, DeckC H1 a g cur1 mark cnt gs1) ?_ ?_
    · walk_at "s"
      refine TW.x_ite (fun c1 => ?_) (fun c1 => ?_)
      · walk_at "s"
        rename_i p hp
        have hgp := ne_of_none hg hp
        have hap := ne_of_none hc hp
        refine x_neNil (gs := gs) (by walk_at "heap") (by walk_at "heap") ?_
        walk_at "s"
        have fp : TW.Fr (Off a g) H (upd H p (.lst [])) := TW.Fr.new hp
        refine TW.x_iteN (fun c2 => ?_) (fun c2 => ?_)
        · have hl2 : gs.getLast? = some (gs.getLast c2) := List.getLast?_eq_some_getLast c2
          have hl3 : (gs.map V.int).getLast? = some (V.int (gs.getLast c2)) := by rw [List.getLast?_map, hl2]; rfl
          walk_at "s"
          refine ⟨rfl, (fp.trans (TW.Fr.set (fun z => z.2 rfl) (by walk_at "hp"))).trans (TW.Fr.set (fun z => z.1 rfl) (by walk_at "hp")), gs.getLast c2, gs.dropLast, upd_same, ?_, hne, D.gs0 _ (List.getLast_mem c2), D.mark0, D.cnt0, fun z hz => D.gs0 z (List.dropLast_subset _ hz), ?_⟩
          · rw [upd_ne hne.symm, upd_same, List.map_dropLast]
          · rw [List.length_dropLast]
            have := D.gsl
            omega
        · walk_at "s"
          exact ⟨rfl, fp, cur, gs, by walk_at "hp", by walk_at "hp", hne, D.cur0, D.mark0, D.cnt0, D.gs0, D.gsl⟩
      · walk_at "s"
        exact ⟨rfl, TW.Fr.refl, cur, gs, D⟩
    · rintro σ H1 ⟨rfl, f1, cur1, gs1, D1⟩
      have hc1 := D1.cell
      have hg1 := D1.great
      walk_at "s"
      refine TW.x_ite (fun c1 => ?_) (fun c1 => ?_)
      · have hd : CDivW cur1 lim := hd
        walk_at "s"
        refine k _ _ (f1.trans (TW.Fr.set (fun z => z.1 rfl) hc1)) ⟨cur1 / lim, mark, cnt, gs1, ⟨upd_same, by walk_at "hp", hne, Int.ediv_nonneg D1.cur0 (by omega), D1.mark0, D1.cnt0, D1.gs0, D1.gsl⟩, by omega⟩ (Int.emod_nonneg _ (by omega)) (Int.emod_lt_of_pos _ hl)
      · have hm := D1.mark0
        have h0 := D1.cnt0
        have hq : 7907 * (cnt + 1) * (cnt + 1) ≤ 7907 * 16000000 * 16000000 := Int.mul_le_mul (by omega) (by omega) (by omega) (by omega)
        have hq0 : 0 ≤ 7907 * (cnt + 1) * (cnt + 1) := Int.mul_nonneg (by omega) (by omega)
        walk_at "s"
        have s0 : 0 ≤ (mark + 7907 * (cnt + 1) * (cnt + 1)) ^ Int.toNat 2 % 1000000000000000000000007 := Int.emod_nonneg _ (by decide)
        have s1 : (mark + 7907 * (cnt + 1) * (cnt + 1)) ^ Int.toNat 2 % 1000000000000000000000007 < 1000000000000000000000007 := Int.emod_lt_of_pos _ (by decide)
        generalize (mark + 7907 * (cnt + 1) * (cnt + 1)) ^ Int.toNat 2 % 1000000000000000000000007 = stir at s0 s1 ⊢
        refine TW.x_rI (wide_mul (a := 90) (b := 90) (Nat.lt_of_le_of_lt (show stir.natAbs ≤ 1000000000000000000000007 by omega) (by decide +kernel)) (Nat.lt_of_le_of_lt (show (stir + 41).natAbs ≤ 1000000000000000000000107 by omega) (by decide +kernel)) (by decide) (by decide) (by decide)) ?_
        walk_at "s"
        exact k _ _ (f1.trans (TW.Fr.set (fun z => z.1 rfl) hc1)) ⟨cur1, mark, cnt + 1, gs1, ⟨upd_same, by walk_at "hp", hne, D1.cur0, D1.mark0, by omega, D1.gs0, D1.gsl⟩, by omega⟩ (Int.emod_nonneg _ (by omega)) (Int.emod_lt_of_pos _ hl)
def sp_deck (K : PySem.W.Frag) : Sp := fun vs H Q _ => ∃ (l : Addr) (ns : List Int), vs = [.ref l] ∧ SqL K H l (ns.map V.int) ∧ ns.length ≤ 63 ∧
  ∀ (H' : Hp) (a g : Addr), TW.Fr (fun _ => True) H H' → H a = none → H g = none → Deck H' a g 16000000 → Q (.ref a) H'
theorem ten18 : (10 : Int) ^ Int.toNat 18 = 1000000000000000000 := by decide +kernel
theorem c__law_deck (T : Txt K mg C_WorthError C_InvalidNumber C_InvalidSigns C_UnknownSign C_InvalidMachine C_UnlikeSigns f_err) : FnAt P w K mg base CX0 1 "_law_deck" s__law_deck ["_law_script"] (sp_deck K) := by
  refine TW.mkFn T.d__law_deck sc__law_deck (fun vs H Q E h => ?_) (fun f cdv A outer s H vs Q E hr h => ?_)
  · obtain ⟨l, ns, rfl, _⟩ := h
    rfl
  · obtain ⟨l, ns, rfl, hS, hlen, k⟩ := h
    refine ⟨_, (pss_cons (ps_par (i := 1) (j := 2) (by rfl) sc__law_deck.nd rfl rfl (by decide) rfl rfl (pa_cons pe_int (pa_cons (pe_lst pa_nil) pa_nil)) (by rfl))
  (pss_cons (ps_for PassesOwn.never rfl (pi_list (pv 0)) (pg_name (i := 3) sc__law_deck.nd rfl (.inl rfl)) (pss_one (ps_if (pt_cmpR op_ge (pv 3) (pe_op op_pow pe_int pe_int) (nomark _)) (pss_one (ps_expr (pe_bm PySem.F.plainAttrs_list PySem.F.slot_list_insert PySem.F.type_list_insert TW.mt_insertC (pv 2) (pa_cons pe_int (pa_cons (pe_op op_sub (pv 3) (pe_op op_pow pe_int pe_int)) pa_nil))))) (pss_one (ps_set (i := 1) sc__law_deck.nd rfl (.inl rfl) (pe_op op_add (pe_op op_mod (pe_callTy TW.call_int (by rfl) T.no_int (by decide +kernel) (pa_cons (pe_op op_pow (pe_op op_add (pv 1) (pe_op op_mod (pe_callTy TW.call_int (by rfl) T.no_int (by decide +kernel) (pa_cons (pv 3) pa_nil)) pe_int)) pe_int) pa_nil)) pe_int) pe_int))))))
  (pss_one (ps_ret (pe_lst (pa_cons (pv 2) (pa_cons pe_int (pa_cons (pv 1) (pa_cons pe_int pa_nil))))))))), ?_⟩
    walk_at "K"
    walk_at "s"
    rename_i g hg
    refine TW.x_forL (xs := ns.map V.int) (Fr.sqL (Fr.new hg) (ok := fun _ => True) trivial hS) (fun i σ H1 => ∃ (mark : Int) (gs : List Int) (v : Option V), σ = [some (.ref l), some (.int mark), some (.ref g), v] ∧ TW.Fr (fun _ => True) H H1 ∧
      H1 g = some (.lst (gs.map V.int)) ∧ 0 ≤ mark ∧ mark ≤ 1000000000000000003 ∧ (∀ z ∈ gs, 0 ≤ z) ∧ gs.length ≤ i)
      ⟨40961, [], none, rfl, Fr.new hg, upd_same, by omega, by omega, (fun z hz => by cases hz), Nat.le_refl _⟩ (fun i σ H1 _ h => ?_) ?_ ?_
    · obtain ⟨_, _, _, _, f1, _⟩ := h
      exact f1.sqL trivial hS
    · rintro i x σ H1 hx ⟨mark, gs, v, rfl, f1, h1, m0, m1, g0, gl⟩
      have hi : i < ns.length := by
        have q := (List.getElem?_eq_some_iff.mp hx).1
        rwa [List.length_map] at q
      obtain ⟨z, rfl⟩ : ∃ z, x = V.int z := by
        rw [List.getElem?_map] at hx
        cases e : ns[i]? with
        | none =>
          rw [e] at hx
          cases hx
        | some u =>
          rw [e] at hx
          exact ⟨u, (Option.some.inj hx).symm⟩
      walk_at "s"
      refine TW.x_ite (fun c1 => ?_) (fun c1 => ?_)
      · walk_at "s"
        rw [ten18] at c1
        refine TW.x_ty (SqL.of h1) ?_
        walk_at "s"
        rw [ten18]
        refine TW.x_ins0 h1 (by rw [List.length_map]; omega) ?_
        exact ⟨mark, (z - 1000000000000000000) :: gs, some (.int z), rfl, f1.mut hg, upd_same, m0, m1, fun y hy => (List.mem_cons.mp hy).elim (fun e => by omega) (g0 y), by rw [List.length_cons]; omega⟩
      · have q0 := Int.emod_nonneg z (b := 1000000000039) (by decide)
        have q1 := Int.emod_lt_of_pos z (b := 1000000000039) (by decide)
        walk_at "s"
        have r0 := Int.emod_nonneg ((mark + z % 1000000000039) ^ Int.toNat 3) (b := 1000000000000000003) (by decide)
        have r1 := Int.emod_lt_of_pos ((mark + z % 1000000000039) ^ Int.toNat 3) (b := 1000000000000000003) (by decide)
        exact ⟨_, gs, some (.int z), rfl, f1, h1, by omega, by omega, g0, by omega⟩
    · rintro σ H1 ⟨mark, gs, v, rfl, f1, h1, m0, m1, g0, gl⟩
      rw [List.length_map] at gl
      walk_at "s"
      rename_i a ha
      have hga := ne_of_none h1 ha
      exact k _ a g (f1.alloc ha) (f1.back a ha) hg ⟨0, mark, 0, gs, ⟨upd_same, by walk_at "hp", hga.symm, by omega, ⟨m0, m1⟩, by omega, g0, by omega⟩, by omega⟩

/-! ### the law's own gcd, pair -/
def sp_gcd : Sp := fun vs H Q _ => ∃ m n : Int, vs = [.int m, .int n] ∧ Q (.int ((Nat.gcd m.natAbs n.natAbs : Nat) : Int)) H
theorem c__law_gcd (T : Txt K mg C_WorthError C_InvalidNumber C_InvalidSigns C_UnknownSign C_InvalidMachine C_UnlikeSigns f_err) : FnAt P w K mg base CX0 1 "_law_gcd" s__law_gcd ["_law_one", "_law_other"] sp_gcd := by
  refine TW.mkFn T.d__law_gcd sc__law_gcd (fun vs H Q E h => ?_) (fun f cdv A outer s H vs Q E hr h => ?_)
  · obtain ⟨m, n, rfl, _⟩ := h
    rfl
  · obtain ⟨m, n, rfl, k⟩ := h
    refine ⟨_, (pss_cons (ps_par (i := 0) (j := 1) (by rfl) sc__law_gcd.nd rfl rfl (by decide) rfl rfl (pa_cons (pe_callB TW.call_absC (by rfl) T.no_abs (by decide +kernel) (pa_cons (pv 0) pa_nil)) (pa_cons (pe_callB TW.call_absC (by rfl) T.no_abs (by decide +kernel) (pa_cons (pv 1) pa_nil)) pa_nil)) (by rfl))
  (pss_cons (ps_while PassesOwn.never (pt_cmpR op_ne (pv 1) pe_int (nomark _)) (pss_one (ps_par (i := 0) (j := 1) (by rfl) sc__law_gcd.nd rfl rfl (by decide) rfl rfl (pa_cons (pv 1) (pa_cons (pe_op op_mod (pe_callTy TW.call_int (by rfl) T.no_int (by decide +kernel) (pa_cons (pv 0) pa_nil)) (pv 1)) pa_nil)) (by rfl))))
  (pss_one (ps_ret (pv 0))))), ?_⟩
    walk_at "K"
    walk_at "s"
    refine TW.x_while (fun j σ H1 => H1 = H ∧ ∃ a b : Nat, σ = [some (.int (a : Int)), some (.int (b : Int))] ∧ j = b ∧ Nat.gcd a b = Nat.gcd m.natAbs n.natAbs) n.natAbs ⟨rfl, m.natAbs, n.natAbs, rfl, rfl, rfl⟩ ?_ ?_
    · rintro j σ H1 ⟨rfl, a, b, rfl, rfl, e⟩
      walk_at "s"
      refine TW.x_iteN (fun c1 => ?_) (fun c1 => ?_)
      · walk_at "s"
        have e2 : ((a : Int) % (j : Int)) = ((a % j : Nat) : Int) := by omega
        have hlt : a % j < j := Nat.mod_lt _ (by omega)
        rw [e2]
        refine ⟨a % j, hlt, rfl, j, a % j, rfl, rfl, ?_⟩
        rw [← e, Nat.gcd_comm a j, Nat.gcd_rec j a, Nat.gcd_comm]
      · walk_at "s"
        have e0 : j = 0 := by omega
        subst e0
        rw [Nat.gcd_zero_right] at e
        rw [e]
        exact k
    · intro σ H1 Q1 Q2 hm h
      obtain ⟨x, hx, y⟩ := h
      exact ⟨x, hx, y.1, by
        obtain ⟨z, hz⟩ := y
        obtain ⟨q, e, r⟩ := hz
        exact ⟨q, e, hm _ _ r⟩⟩
/-- the number of two integers -/
def ncom (m n : Int) : Int := if n < 0 then -((Nat.gcd m.natAbs n.natAbs : Nat) : Int) else ((Nat.gcd m.natAbs n.natAbs : Nat) : Int)
def nab (m n : Int) : Int := m.fdiv (ncom m n)
def nbe (m n : Int) : Int := n.fdiv (ncom m n)
/-- at t: the tuple of two integers -/
def Pr (H : Hp) (v : V) (m n : Int) : Prop := ∃ t, v = .ref t ∧ H t = some (.tup [.int m, .int n])
theorem Pr.fr {ok : Addr → Prop} {H H' : Hp} {v : V} {m n : Int} (f : Fr ok H H') (h : Pr H v m n) : Pr H' v m n := by
  obtain ⟨t, e, k⟩ := h
  exact ⟨t, e, f.tups _ _ k⟩
theorem Pr.rep {H : Hp} {v : V} {m n : Int} (h : Pr H v m n) : Rep (fun _ => True) H v (.tuple [.int m, .int n]) := by
  obtain ⟨t, rfl, k⟩ := h
  exact .tup k (.cons (.int m) (.cons (.int n) .nil))
theorem depth2 (m n : Int) : PyData.depth (.tuple [.int m, .int n]) < 2 := by simp [PyData.depth, PyData.depthAll]
def sp_pair : Sp := fun vs H Q _ => ∃ m n : Int, vs = [.int m, .int n] ∧ n ≠ 0 ∧ n.natAbs < 2 ^ 8000 ∧ ∀ (H' : Hp) (v : V), TW.Fr (fun _ => True) H H' → Pr H' v (nab m n) (nbe m n) → Q v H'
theorem gcd_wide {m n : Int} (h0 : n ≠ 0) (h : n.natAbs < 2 ^ 8000) : ((Nat.gcd m.natAbs n.natAbs : Nat) : Int) ≠ 0 ∧ ((Nat.gcd m.natAbs n.natAbs : Nat) : Int).natAbs < 2 ^ 8999 := by
  have p : 0 < n.natAbs := by omega
  have q : Nat.gcd m.natAbs n.natAbs ≤ n.natAbs := Nat.le_of_dvd p (Nat.gcd_dvd_right _ _)
  have z := Nat.gcd_pos_of_pos_right m.natAbs p
  refine ⟨by omega, ?_⟩
  rw [Int.natAbs_natCast]
  exact Nat.lt_of_le_of_lt q (Nat.lt_of_lt_of_le h (Nat.pow_le_pow_right (by decide) (by decide)))
theorem c__law_pair (T : Txt K mg C_WorthError C_InvalidNumber C_InvalidSigns C_UnknownSign C_InvalidMachine C_UnlikeSigns f_err) : FnAt P w K mg base CX0 2 "_law_pair" s__law_pair ["_law_above", "_law_below"] sp_pair := by
  refine TW.mkFn T.d__law_pair sc__law_pair (fun vs H Q E h => ?_) (fun f cdv A outer s H vs Q E hr h => ?_)
  · obtain ⟨m, n, rfl, _⟩ := h
    rfl
  · obtain ⟨m, n, rfl, hn, hw, k⟩ := h
    refine ⟨_, (pss_cons (ps_set (i := 2) sc__law_pair.nd rfl (.inl rfl) (TW.pe_c ((c__law_gcd) T) hr (by decide) rfl (pa_cons (pv 0) (pa_cons (pv 1) pa_nil))))
  (pss_cons (ps_if (pt_cmpR op_lt (pv 1) pe_int (nomark _)) (pss_one (ps_set (i := 2) sc__law_pair.nd rfl (.inl rfl) (pe_op op_sub pe_int (pv 2)))) pss_nil)
  (pss_one (ps_ret (pe_tup (pa_cons (pe_op TW.op_fdivWN (pv 0) (pv 2)) (pa_cons (pe_op TW.op_fdivWN (pv 1) (pv 2)) pa_nil))))))), ?_⟩
    walk_at "K"
    walk_at "s"
    refine ⟨m, n, rfl, ?_⟩
    obtain ⟨hg, hb⟩ := gcd_wide (m := m) hn hw
    walk_at "s"
    refine TW.x_ite (fun c1 => ?_) (fun c1 => ?_)
    · have ec : ncom m n = 0 - ((Nat.gcd m.natAbs n.natAbs : Nat) : Int) := by rw [ncom, if_pos c1]; omega
      have cd : ∀ i : Int, CDivWN i (0 - ((Nat.gcd m.natAbs n.natAbs : Nat) : Int)) := fun i => cdivWN (by omega) (by rw [show (0 - ((Nat.gcd m.natAbs n.natAbs : Nat) : Int)).natAbs = ((Nat.gcd m.natAbs n.natAbs : Nat) : Int).natAbs by omega]; exact hb)
      have c1 := cd m
      have c2 := cd n
      walk_at "s"
      rename_i t ht
      refine k _ _ (Fr.new ht) ⟨t, rfl, ?_⟩
      rw [nab, nbe, ec]
      exact upd_same
    · have ec : ncom m n = ((Nat.gcd m.natAbs n.natAbs : Nat) : Int) := by rw [ncom, if_neg c1]
      have cd : ∀ i : Int, CDivWN i ((Nat.gcd m.natAbs n.natAbs : Nat) : Int) := fun i => cdivWN hg hb
      have c1 := cd m
      have c2 := cd n
      walk_at "s"
      rename_i t ht
      refine k _ _ (Fr.new ht) ⟨t, rfl, ?_⟩
      rw [nab, nbe, ec]
      exact upd_same

/-! ### _law_alike: two values that stand for one datum -/
def sp_alike (n : Nat) : Sp := fun vs H Q _ => ∃ (v u : V) (d : PyData), vs = [v, u] ∧ Rep (fun _ => True) H v d ∧ Rep (fun _ => True) H u d ∧ PyData.depth d < n ∧ ∀ H' : Hp, Fr (fun _ => True) H H' → Q (.bl true) H'
theorem depth_get : ∀ {ds : List PyData} {i : Nat} {d : PyData}, ds[i]? = some d → PyData.depth d ≤ PyData.depthAll ds
  | [], _, _, h => by simp at h
  | a :: ds, 0, d, h => by
    have e : a = d := Option.some.inj h
    subst e
    simp only [PyData.depthAll]
    omega
  | a :: ds, i + 1, d, h => by
    have q := depth_get (ds := ds) (i := i) h
    simp only [PyData.depthAll]
    omega
theorem alike_step (T : Txt K mg C_WorthError C_InvalidNumber C_InvalidSigns C_UnknownSign C_InvalidMachine C_UnlikeSigns f_err) (n : Nat) (ih : FnAt P w K mg base CX0 n "_law_alike" s__law_alike ["_law_found", "_law_due"] (sp_alike n)) : FnAt P w K mg base CX0 (n + 1) "_law_alike" s__law_alike ["_law_found", "_law_due"] (sp_alike (n + 1)) := by
  refine TW.mkFn T.d__law_alike sc__law_alike (fun vs H Q E h => ?_) (fun f cdv A outer s H vs Q E hr h => ?_)
  · obtain ⟨v, u, d, rfl, _⟩ := h
    rfl
  · obtain ⟨v, u, d, rfl, hv, hu, hd, k⟩ := h
    refine ⟨_, (pss_cons (ps_if (pt_cmpR TW.op_isNC (pv 1) pe_non (nomark _)) (pss_one (ps_ret (pe_cmpR TW.op_isNC (pv 0) pe_non (nomark _)))) pss_nil)
  (pss_cons (ps_if (pt_val (pe_callB call_isiT (by rfl) T.no_isinstance (by decide +kernel) (pa_cons (pv 1) (pa_cons (pe_tup (pa_cons (pe_bltn (v := .ty "list") (u := .type "list") (by rfl) T.no_list (by decide +kernel) rfl) (pa_cons (pe_bltn (v := .ty "tuple") (u := .type "tuple") (by rfl) T.no_tuple (by decide +kernel) rfl) pa_nil))) pa_nil)))) (pss_cons (ps_if (PW.pt (pw_or (pt_not (pt_val (pe_callB call_isiT (by rfl) T.no_isinstance (by decide +kernel) (pa_cons (pv 0) (pa_cons (pe_tup (pa_cons (pe_bltn (v := .ty "list") (u := .type "list") (by rfl) T.no_list (by decide +kernel) rfl) (pa_cons (pe_bltn (v := .ty "tuple") (u := .type "tuple") (by rfl) T.no_tuple (by decide +kernel) rfl) pa_nil))) pa_nil))))) (pw_or1 (pt_cmpR op_ne (pe_callB call_isi (by rfl) T.no_isinstance (by decide +kernel) (pa_cons (pv 0) (pa_cons (pe_bltn (v := .ty "list") (u := .type "list") (by rfl) T.no_list (by decide +kernel) rfl) pa_nil))) (pe_callB call_isi (by rfl) T.no_isinstance (by decide +kernel) (pa_cons (pv 1) (pa_cons (pe_bltn (v := .ty "list") (u := .type "list") (by rfl) T.no_list (by decide +kernel) rfl) pa_nil))) (nomark _))))) (pss_one (ps_ret pe_bl)) pss_nil)
  (pss_cons (ps_if (pt_cmpR op_ne (pe_callB TW.call_len_seqC (by rfl) T.no_len PySem.boot_len (pa_cons (pv 0) pa_nil)) (pe_callB TW.call_len_seqC (by rfl) T.no_len PySem.boot_len (pa_cons (pv 1) pa_nil)) (nomark _)) (pss_one (ps_ret pe_bl)) pss_nil)
  (pss_cons (ps_for PassesOwn.never rfl (RZ.pi_zipA (by rfl) T.no_zip (pa_cons (pv 0) (pa_cons (pv 1) pa_nil))) (pg_tup (by rfl) (pgs_cons (pg_name (i := 2) sc__law_alike.nd rfl (.inl rfl)) (pgs_cons (pg_name (i := 3) sc__law_alike.nd rfl (.inl rfl)) pgs_nil))) (pss_one (ps_if (pt_not (pt_val (TW.pe_c ((fun _ => ih) T) hr (Nat.le_refl _) rfl (pa_cons (pv 2) (pa_cons (pv 3) pa_nil))))) (pss_one (ps_ret pe_bl)) pss_nil)))
  (pss_one (ps_ret pe_bl))))) pss_nil)
  (pss_cons (ps_if (pt_val (pe_callB call_isi (by rfl) T.no_isinstance (by decide +kernel) (pa_cons (pv 1) (pa_cons (pe_bltn (v := .ty "str") (u := .type "str") (by rfl) T.no_str (by decide +kernel) rfl) pa_nil)))) (pss_one (ps_ret (pe_and (pe_callB call_isi (by rfl) T.no_isinstance (by decide +kernel) (pa_cons (pv 0) (pa_cons (pe_bltn (v := .ty "str") (u := .type "str") (by rfl) T.no_str (by decide +kernel) rfl) pa_nil))) (pe_one (pe_cmpR op_eq (pv 0) (pv 1) (nomark _)))))) pss_nil)
  (pss_cons (ps_if (pt_cmpR op_ne (pe_callB call_isi (by rfl) T.no_isinstance (by decide +kernel) (pa_cons (pv 0) (pa_cons (pe_bltn (v := .ty "bool") (u := .type "bool") (by rfl) T.no_bool (by decide +kernel) rfl) pa_nil))) (pe_callB call_isi (by rfl) T.no_isinstance (by decide +kernel) (pa_cons (pv 1) (pa_cons (pe_bltn (v := .ty "bool") (u := .type "bool") (by rfl) T.no_bool (by decide +kernel) rfl) pa_nil))) (nomark _)) (pss_one (ps_ret pe_bl)) pss_nil)
  (pss_one (ps_ret (pe_and (pe_callB call_isi (by rfl) T.no_isinstance (by decide +kernel) (pa_cons (pv 0) (pa_cons (pe_bltn (v := .ty "int") (u := .type "int") (by rfl) T.no_int (by decide +kernel) rfl) pa_nil))) (pe_one (pe_cmpR op_eq (pv 0) (pv 1) (nomark _)))))))))), ?_⟩
    walk_at "K"
    have tr : ∀ {H : Hp} {p : Addr} {o : HO}, H p = none → Fr (fun _ => True) H (upd H p o) := fun h => Fr.new h
    cases hv with
    | non =>
      cases hu
      walk_at "s"
      exact k _ Fr.refl
    | int i =>
      cases hu
      walk_at "s"
      rename_i p hp
      refine x_isi2 (ok := fun _ => True) (r := false) (Rep.int i) upd_same kI_int_list kI_int_tuple rfl ?_
      walk_at "s"
      refine x_isi (ok := fun _ => True) (Rep.int i) kI_int_str ?_
      walk_at "s"
      refine x_isi (ok := fun _ => True) (Rep.int i) kI_int_bool ?_
      walk_at "s"
      refine x_isi (ok := fun _ => True) (Rep.int i) kI_int_bool ?_
      walk_at "s"
      refine x_isi (ok := fun _ => True) (Rep.int i) kI_int_int ?_
      walk_at "s"
      exact k _ (Fr.new hp)
    | bl b =>
      cases hu
      walk_at "s"
      rename_i p hp
      refine x_isi2 (ok := fun _ => True) (r := false) (Rep.bl b) upd_same kI_bool_list kI_bool_tuple rfl ?_
      walk_at "s"
      refine x_isi (ok := fun _ => True) (Rep.bl b) kI_bool_str ?_
      walk_at "s"
      refine x_isi (ok := fun _ => True) (Rep.bl b) kI_bool_bool ?_
      walk_at "s"
      refine x_isi (ok := fun _ => True) (Rep.bl b) kI_bool_bool ?_
      walk_at "s"
      refine x_isi (ok := fun _ => True) (Rep.bl b) kI_bool_int ?_
      walk_at "s"
      exact k _ (Fr.new hp)
    | str x =>
      cases hu
      walk_at "s"
      rename_i p hp
      refine x_isi2 (ok := fun _ => True) (r := false) (Rep.str x) upd_same kI_str_list kI_str_tuple rfl ?_
      walk_at "s"
      refine x_isi (ok := fun _ => True) (Rep.str x) kI_str_str ?_
      walk_at "s"
      refine x_isi (ok := fun _ => True) (Rep.str x) kI_str_str ?_
      walk_at "s"
      exact k _ (Fr.new hp)
    | @tup a xs ds e r =>
      cases hu with
      | @tup b ys ds' e2 r2 =>
      have hl : xs.length = ys.length := by rw [r.len, r2.len]
      walk_at "s"
      rename_i p hp
      have f1 := tr (o := .tup [V.ty "list", V.ty "tuple"]) hp
      have ra := (Rep.tup (ok := fun _ => True) e r).fr f1
      have rb := (Rep.tup (ok := fun _ => True) e2 r2).fr f1
      refine x_isi2 (r := true) rb upd_same kI_tuple_list kI_tuple_tuple rfl ?_
      walk_at "s"
      rename_i p2 hp2
      have f2 := f1.trans (tr (o := .tup [V.ty "list", V.ty "tuple"]) hp2)
      have ra := ra.fr (tr (o := .tup [V.ty "list", V.ty "tuple"]) hp2)
      have rb := rb.fr (tr (o := .tup [V.ty "list", V.ty "tuple"]) hp2)
      refine x_isi2 (r := true) ra upd_same kI_tuple_list kI_tuple_tuple rfl ?_
      walk_at "s"
      refine x_isi ra kI_tuple_list ?_
      walk_at "s"
      refine x_isi rb kI_tuple_list ?_
      walk_at "s"
      generalize upd (upd H p (.tup [V.ty "list", V.ty "tuple"])) p2 (.tup [V.ty "list", V.ty "tuple"]) = H2 at f2 ⊢
      have e1 := f2.tups _ _ e
      have e3 := f2.tups _ _ e2
      walk_at "s"
      refine x_iteNF (by rw [hl]) ?_
      walk_at "s"
      refine x_forZT (xs := xs) (ys := ys) (by walk_at "heap") (by walk_at "heap") hl (fun i σ H1 => ∃ x y : Option V, σ = [some (.ref a), some (.ref b), x, y] ∧ Fr (fun _ => True) H H1) ⟨none, none, rfl, f2⟩ (fun i σ H1 h => ?_) ?_ ?_
      · obtain ⟨x, y, rfl, f3⟩ := h
        exact ⟨.of (f3.tups _ _ e), .of (f3.tups _ _ e2)⟩
      · rintro i x y t σ H1 hx hy ⟨_, _, rfl, f3⟩ ht
        obtain ⟨d, hd1, rx⟩ := r.get hx
        obtain ⟨d', hd2, ry⟩ := r2.get hy
        obtain rfl : d = d' := Option.some.inj (hd1.symm.trans hd2)
        have f4 := f3.alloc (o := .tup [x, y]) ht
        walk_at "s"
        refine ⟨x, y, d, rfl, rx.fr f4, ry.fr f4, ?_, fun H5 f5 => ?_⟩
        · have q := depth_get hd1
          simp only [PyData.depth] at hd
          omega
        · walk_at "s"
          exact ⟨some x, some y, rfl, f4.trans f5⟩
      · rintro σ H1 ⟨x, y, rfl, f3⟩
        walk_at "s"
        exact k _ f3
    | @lst a xs ds q e r =>
      cases hu with
      | @lst b ys ds' q2 e2 r2 =>
      have hl : xs.length = ys.length := by rw [r.len, r2.len]
      walk_at "s"
      rename_i p hp
      have f1 := tr (o := .tup [V.ty "list", V.ty "tuple"]) hp
      have ra := (Rep.lst (ok := fun _ => True) trivial e r).fr f1
      have rb := (Rep.lst (ok := fun _ => True) trivial e2 r2).fr f1
      refine x_isi2 (r := true) rb upd_same kI_list_list kI_list_tuple rfl ?_
      walk_at "s"
      rename_i p2 hp2
      have f2 := f1.trans (tr (o := .tup [V.ty "list", V.ty "tuple"]) hp2)
      have ra := ra.fr (tr (o := .tup [V.ty "list", V.ty "tuple"]) hp2)
      have rb := rb.fr (tr (o := .tup [V.ty "list", V.ty "tuple"]) hp2)
      refine x_isi2 (r := true) ra upd_same kI_list_list kI_list_tuple rfl ?_
      walk_at "s"
      refine x_isi ra kI_list_list ?_
      walk_at "s"
      refine x_isi rb kI_list_list ?_
      walk_at "s"
      generalize upd (upd H p (.tup [V.ty "list", V.ty "tuple"])) p2 (.tup [V.ty "list", V.ty "tuple"]) = H2 at f2 ⊢
      have e1 := f2.keep _ _ trivial e
      have e3 := f2.keep _ _ trivial e2
      walk_at "s"
      refine x_iteNF (by rw [hl]) ?_
      walk_at "s"
      refine x_forZL (xs := xs) (ys := ys) (by walk_at "heap") (by walk_at "heap") hl (fun i σ H1 => ∃ x y : Option V, σ = [some (.ref a), some (.ref b), x, y] ∧ Fr (fun _ => True) H H1) ⟨none, none, rfl, f2⟩ (fun i σ H1 h => ?_) ?_ ?_
      · obtain ⟨x, y, rfl, f3⟩ := h
        exact ⟨.of (f3.keep _ _ trivial e), .of (f3.keep _ _ trivial e2)⟩
      · rintro i x y t σ H1 hx hy ⟨_, _, rfl, f3⟩ ht
        obtain ⟨d, hd1, rx⟩ := r.get hx
        obtain ⟨d', hd2, ry⟩ := r2.get hy
        obtain rfl : d = d' := Option.some.inj (hd1.symm.trans hd2)
        have f4 := f3.alloc (o := .tup [x, y]) ht
        walk_at "s"
        refine ⟨x, y, d, rfl, rx.fr f4, ry.fr f4, ?_, fun H5 f5 => ?_⟩
        · have q := depth_get hd1
          simp only [PyData.depth] at hd
          omega
        · walk_at "s"
          exact ⟨some x, some y, rfl, f4.trans f5⟩
      · rintro σ H1 ⟨x, y, rfl, f3⟩
        walk_at "s"
        exact k _ f3
theorem c__law_alike (T : Txt K mg C_WorthError C_InvalidNumber C_InvalidSigns C_UnknownSign C_InvalidMachine C_UnlikeSigns f_err) : ∀ n : Nat, FnAt P w K mg base CX0 n "_law_alike" s__law_alike ["_law_found", "_law_due"] (sp_alike n)
  | 0 => by
    obtain ⟨f, fd, h1, h2, h3⟩ := T.d__law_alike.ex
    exact ⟨f, fd, ⟨fun vs H Q E h => by obtain ⟨_, _, _, _, _, _, z, _⟩ := h; omega, fun A outer s H args us vs Q E hr he hb hv h => by obtain ⟨_, _, _, _, _, _, z, _⟩ := h; omega⟩, h1, h2, h3⟩
  | n + 1 => alike_step T n (c__law_alike T n)

/-! ### numbers.number -/
theorem c_number (T : Txt K mg C_WorthError C_InvalidNumber C_InvalidSigns C_UnknownSign C_InvalidMachine C_UnlikeSigns f_err) : FnAt P w K mg base CX0 3 "number" s_number ["above", "below"] sp_pair := by
  refine TW.mkFn T.d_number sc_number (fun vs H Q E h => ?_) (fun f cdv A outer s H vs Q E hr h => ?_)
  · obtain ⟨m, n, rfl, _⟩ := h
    rfl
  · obtain ⟨m, n, rfl, hn, hw, k⟩ := h
    refine ⟨_, (pss_cons (ps_if (pt_cmpR op_eq (pv 1) pe_int (nomark _)) (pss_one ps_never) pss_nil)
  (pss_cons (ps_set (i := 2) sc_number.nd rfl (.inl rfl) (pe_callBfun cr_gcd (by rfl) T.mg_gcd (pa_cons (pv 0) (pa_cons (pv 1) pa_nil))))
  (pss_cons (ps_if (pt_cmpR op_lt (pv 1) pe_int (nomark _)) (pss_one (ps_set (i := 2) sc_number.nd rfl (.inl rfl) (pe_un un_neg (pv 2)))) pss_nil)
  (pss_one (ps_ret (pe_tup (pa_cons (pe_op TW.op_fdivWN (pv 0) (pv 2)) (pa_cons (pe_op TW.op_fdivWN (pv 1) (pv 2)) pa_nil)))))))), ?_⟩
    walk_at "K"
    walk_at "s"
    refine TW.x_iteF hn ?_
    obtain ⟨hg, hb⟩ := gcd_wide (m := m) hn hw
    walk_at "s"
    refine TW.x_ite (fun c1 => ?_) (fun c1 => ?_)
    · have ec : ncom m n = -((Nat.gcd m.natAbs n.natAbs : Nat) : Int) := by rw [ncom, if_pos c1]
      have cd : ∀ i : Int, CDivWN i (-((Nat.gcd m.natAbs n.natAbs : Nat) : Int)) := fun i => cdivWN (by omega) (by rw [Int.natAbs_neg]; exact hb)
      have c1 := cd m
      have c2 := cd n
      walk_at "s"
      rename_i t ht
      refine k _ _ (Fr.new ht) ⟨t, rfl, ?_⟩
      rw [nab, nbe, ec]
      exact upd_same
    · have ec : ncom m n = ((Nat.gcd m.natAbs n.natAbs : Nat) : Int) := by rw [ncom, if_neg c1]
      have cd : ∀ i : Int, CDivWN i ((Nat.gcd m.natAbs n.natAbs : Nat) : Int) := fun i => cdivWN hg hb
      have c1 := cd m
      have c2 := cd n
      walk_at "s"
      rename_i t ht
      refine k _ _ (Fr.new ht) ⟨t, rfl, ?_⟩
      rw [nab, nbe, ec]
      exact upd_same

/-- what an error leaves: its dict d, new, holds the value -/
def ErrE (C : Addr) (y : V) (H : Hp) (E : XK) : Prop := ∀ d, H d = none → E (.ref C) (some d) (upd H d (.xd [(("value" : Str), y)]))
/-- number(m, 0) -/
def sp_number0 (C : Addr) : Sp := fun vs H _ E => ∃ m : Int, vs = [.int m, .int 0] ∧ ErrE C (.int 0) H E
theorem cx_number (T : Txt K mg C_WorthError C_InvalidNumber C_InvalidSigns C_UnknownSign C_InvalidMachine C_UnlikeSigns f_err) : FnAt P w K mg base (L2.CX P w) 3 "number" s_number ["above", "below"] (sp_number0 C_InvalidNumber) := by
  refine TW.mkFnX T.d_number sc_number (fun vs H Q E h => ?_) (fun f cdv A outer s H vs Q E hr h => ?_)
  · obtain ⟨m, rfl, _⟩ := h
    rfl
  · obtain ⟨m, rfl, k⟩ := h
    refine ⟨_, (pss_cons (ps_if (pt_cmpR op_eq (pv 1) pe_int (nomark _)) (pss_one (TW.ps_err rfl (takes_of rfl rfl rfl rfl) (er_InvalidNumber T) hr (by decide) rfl (pa_cons (pv 1) pa_nil))) pss_nil)
  (pss_cons (ps_set (i := 2) sc_number.nd rfl (.inl rfl) (pe_callBfun cr_gcd (by rfl) T.mg_gcd (pa_cons (pv 0) (pa_cons (pv 1) pa_nil))))
  (pss_cons (ps_if (pt_cmpR op_lt (pv 1) pe_int (nomark _)) (pss_one (ps_set (i := 2) sc_number.nd rfl (.inl rfl) (pe_un un_neg (pv 2)))) pss_nil)
  (pss_one (ps_ret (pe_tup (pa_cons (pe_op TW.op_fdivWN (pv 0) (pv 2)) (pa_cons (pe_op TW.op_fdivWN (pv 1) (pv 2)) pa_nil)))))))), ?_⟩
    walk_at "K"
    walk_at "s"
    walk_at "s"
    exact TW.x_err T.ec_InvalidNumber k

/-! ### _law_is_refused -/
def sp_refused : Sp := fun vs H Q _ => ∃ m : Int, vs = [.int m] ∧ ∀ H' : Hp, Fr (fun _ => True) H H' → Q (.bl true) H'
theorem c__law_is_refused (T : Txt K mg C_WorthError C_InvalidNumber C_InvalidSigns C_UnknownSign C_InvalidMachine C_UnlikeSigns f_err) : FnAt P w K mg base CX0 4 "_law_is_refused" s__law_is_refused ["_law_above"] sp_refused := by
  refine TW.mkFn T.d__law_is_refused sc__law_is_refused (fun vs H Q E h => ?_) (fun f cdv A outer s H vs Q E hr h => ?_)
  · obtain ⟨m, rfl, _⟩ := h
    rfl
  · obtain ⟨m, rfl, k⟩ := h
    refine ⟨_, (pss_cons (ps_set (i := 1) sc__law_is_refused.nd rfl (.inl rfl) pe_non)
  (pss_cons (TW.ps_try_keep (i := 2) (tb := fun W => _) (ts := _) rfl rfl rfl sc__law_is_refused.nd rfl rfl ⟨rfl, by decide, .inl T.cl_WorthError⟩
    (fun W pn xe tk po => (pss_one (ps_expr (TW.pe_cs (cx_number T) hr (by decide) rfl tk (pa_cons (pv 0) (pa_cons pe_int pa_nil))))))
    (fun a oe cls d pn hz hf => (pss_one (ps_set (i := 1) sc__law_is_refused.nd rfl (.inl rfl) (pv 2)))))
  (pss_cons (ps_if (PW.pt (pw_or (pt_not (pt_val (pe_callB TW.call_isX (by rfl) T.no_isinstance (by decide +kernel) (pa_cons (pv 1) (pa_cons (pe_glob (v := .ref C_InvalidNumber) (u := .ref C_InvalidNumber) rfl T.cl_InvalidNumber rfl) pa_nil))))) (pw_or1 (pt_not (pt_val (pe_callB TW.call_isX (by rfl) T.no_isinstance (by decide +kernel) (pa_cons (pv 1) (pa_cons (pe_bltn (v := .ty "ValueError") (u := .type "ValueError") (by rfl) T.no_ValueError (by decide +kernel) rfl) pa_nil)))))))) (pss_one (ps_ret pe_bl)) pss_nil)
  (pss_cons (ps_if (pt_val (pe_callB TW.call_isXT (by rfl) T.no_isinstance (by decide +kernel) (pa_cons (pv 1) (pa_cons (pe_tup (pa_cons (pe_glob (v := .ref C_InvalidMachine) (u := .ref C_InvalidMachine) rfl T.cl_InvalidMachine rfl) (pa_cons (pe_glob (v := .ref C_InvalidSigns) (u := .ref C_InvalidSigns) rfl T.cl_InvalidSigns rfl) (pa_cons (pe_glob (v := .ref C_UnknownSign) (u := .ref C_UnknownSign) rfl T.cl_UnknownSign rfl) (pa_cons (pe_glob (v := .ref C_UnlikeSigns) (u := .ref C_UnlikeSigns) rfl T.cl_UnlikeSigns rfl) pa_nil))))) pa_nil)))) (pss_one (ps_ret pe_bl)) pss_nil)
  (pss_one (ps_ret (TW.pe_c ((fun T => c__law_alike T 2) T) hr (by decide) rfl (pa_cons (TW.pe_xv (pv 1)) (pa_cons pe_int pa_nil))))))))), ?_⟩
    walk_at "K"
    walk_at "s"
    refine ⟨m, rfl, fun d hd => ⟨exm_of2 T.ec_WorthError T.sb_InvalidNumber_WorthError, fun a ha => ?_⟩⟩
    have cg := caught_mk (v := .int 0) T.ec_InvalidNumber hd ha
    have f1 : Fr (fun _ => True) H (upd (upd H d (.xd [(("value" : Str), .int 0)])) a (exk a (.ref C_InvalidNumber) (some d))) := (Fr.new hd).alloc ha
    walk_at "s"
    refine x_isX cg T.ec_InvalidNumber T.sb_InvalidNumber_InvalidNumber ?_
    walk_at "s"
    refine x_isVE cg ?_
    walk_at "s"
    rename_i p hp
    have cg := cg.keep (fun b o e => (Fr.new (ok := fun _ => True) (o := .tup [V.ref C_InvalidMachine, V.ref C_InvalidSigns, V.ref C_UnknownSign, V.ref C_UnlikeSigns]) hp).keep b o trivial e)
    refine x_isXn [C_InvalidMachine, C_InvalidSigns, C_UnknownSign, C_UnlikeSigns] cg upd_same ?_ ?_
    · simp only [List.forall_mem_cons]
      exact ⟨⟨T.ec_InvalidMachine, T.sb_InvalidNumber_InvalidMachine⟩, ⟨T.ec_InvalidSigns, T.sb_InvalidNumber_InvalidSigns⟩, ⟨T.ec_UnknownSign, T.sb_InvalidNumber_UnknownSign⟩, ⟨T.ec_UnlikeSigns, T.sb_InvalidNumber_UnlikeSigns⟩, fun _ h => by cases h⟩
    · walk_at "s"
      refine x_xv1 cg ?_
      walk_at "s"
      exact ⟨_, _, .int 0, rfl, .int 0, .int 0, by decide, fun H' f2 => k _ ((f1.alloc hp).trans f2)⟩

theorem Fr.tup2 {ok : Addr → Prop} {H H' : Hp} {a b t : Addr} {xs : List V} (f : Fr ok H H') (e : H t = some (.tup xs)) : H' t = some (.tup xs) := f.tups _ _ e
theorem Deck.le {H : Hp} {a g : Addr} {m n : Nat} (h : Deck H a g m) (l : n ≤ m) : Deck H a g n := by
  obtain ⟨c, k, t, gs, d, e⟩ := h
  exact ⟨c, k, t, gs, d, by omega⟩
theorem Deck.fr {H H' : Hp} {a g : Addr} {n : Nat} (h : Deck H a g n) (f : Fr (fun _ => True) H H') : Deck H' a g n := by
  obtain ⟨c, k, t, gs, d, e⟩ := h
  exact ⟨c, k, t, gs, ⟨f.keep _ _ trivial d.cell, f.keep _ _ trivial d.great, d.ne, d.cur0, d.mark0, d.cnt0, d.gs0, d.gsl⟩, e⟩
theorem Deck.new {H : Hp} {a g p : Addr} {n : Nat} {o : HO} (h : Deck H a g n) (hp : H p = none) : Deck (upd H p o) a g n := h.fr (Fr.new hp)
theorem Deck.off {H : Hp} {a g p : Addr} {n : Nat} (h : Deck H a g n) (hp : H p = none) : Off a g p := by
  obtain ⟨c, k, t, gs, d, e⟩ := h
  exact ⟨(ne_of_none d.cell hp).symm, (ne_of_none d.great hp).symm⟩
theorem Deck.put {H : Hp} {a g p : Addr} {n : Nat} {o : HO} (h : Deck H a g n) (q : Off a g p) : Deck (upd H p o) a g n := by
  obtain ⟨c, k, t, gs, d, e⟩ := h
  exact ⟨c, k, t, gs, ⟨by rw [upd_ne q.1.symm]; exact d.cell, by rw [upd_ne q.2.symm]; exact d.great, d.ne, d.cur0, d.mark0, d.cnt0, d.gs0, d.gsl⟩, e⟩

def sp_signed : Sp := fun vs H Q _ => ∃ (a g : Addr) (n : Nat) (lim : Int), vs = [.ref a, .int lim] ∧ Deck H a g (n + 2) ∧ 0 < lim ∧ lim ≤ 1000000000000000000000000000000000 ∧
  ∀ (H' : Hp) (r : Int), TW.Fr (Off a g) H H' → Deck H' a g n → -lim < r → r < lim → Q (.int r) H'
theorem c__law_signed (T : Txt K mg C_WorthError C_InvalidNumber C_InvalidSigns C_UnknownSign C_InvalidMachine C_UnlikeSigns f_err) : FnAt P w K mg base CX0 2 "_law_signed" s__law_signed ["_law_deck_here", "_law_limit"] sp_signed := by
  refine TW.mkFn T.d__law_signed sc__law_signed (fun vs H Q E h => ?_) (fun f cdv A outer s H vs Q E hr h => ?_)
  · obtain ⟨a, g, n, lim, rfl, _⟩ := h
    rfl
  · obtain ⟨a, g, n, lim, rfl, D, h0, h1, k⟩ := h
    refine ⟨_, (pss_cons (ps_set (i := 2) sc__law_signed.nd rfl (.inl rfl) (TW.pe_c ((c__law_draw) T) hr (by decide) rfl (pa_cons (pv 0) (pa_cons (pv 1) pa_nil))))
  (pss_cons (ps_if (pt_cmpR op_eq (TW.pe_c ((c__law_draw) T) hr (by decide) rfl (pa_cons (pv 0) (pa_cons pe_int pa_nil))) pe_int (nomark _)) (pss_one (ps_ret (pe_op op_sub pe_int (pv 2)))) pss_nil)
  (pss_one (ps_ret (pv 2))))), ?_⟩
    walk_at "K"
    walk_at "s"
    refine ⟨a, g, n + 1, lim, rfl, D, h0, h1, fun H1 r f1 D1 r0 r1 => ?_⟩
    walk_at "s"
    refine ⟨a, g, n, 2, rfl, D1, by decide, by decide, fun H2 z f2 D2 z0 z1 => ?_⟩
    walk_at "s"
    refine TW.x_ite (fun c1 => ?_) (fun c1 => ?_)
    · walk_at "s"
      exact k _ _ (f1.trans f2) D2 (by omega) (by omega)
    · walk_at "s"
      exact k _ _ (f1.trans f2) D2 (by omega) (by omega)

theorem small8000 {n : Int} (h0 : -10000000000000000000000000000000000000000 ≤ n) (h1 : n ≤ 10000000000000000000000000000000000000000) : n.natAbs < 2 ^ 8000 :=
  Nat.lt_of_le_of_lt (show n.natAbs ≤ 10000000000000000000000000000000000000000 by omega) (Nat.lt_of_lt_of_le (show 10000000000000000000000000000000000000000 < 2 ^ 140 by decide +kernel) (Nat.pow_le_pow_right (by decide) (by decide)))
def sp_integers : Sp := fun vs H Q _ => ∃ (a g : Addr) (n : Nat), vs = [.ref a] ∧ Deck H a g (n + 12) ∧ ∀ (H' : Hp) (v : V) (i j : Int), TW.Fr (Off a g) H H' → Deck H' a g n → Pr H' v i j → j.natAbs < 2 ^ 8000 → Q v H'
theorem c__law_integers (T : Txt K mg C_WorthError C_InvalidNumber C_InvalidSigns C_UnknownSign C_InvalidMachine C_UnlikeSigns f_err) : FnAt P w K mg base CX0 3 "_law_integers" s__law_integers ["_law_deck_here"] sp_integers := by
  refine TW.mkFn T.d__law_integers sc__law_integers (fun vs H Q E h => ?_) (fun f cdv A outer s H vs Q E hr h => ?_)
  · obtain ⟨a, g, n, rfl, _⟩ := h
    rfl
  · obtain ⟨a, g, n, rfl, D, k⟩ := h
    refine ⟨_, (pss_cons (ps_set (i := 1) sc__law_integers.nd rfl (.inl rfl) (TW.pe_c ((c__law_draw) T) hr (by decide) rfl (pa_cons (pv 0) (pa_cons pe_int pa_nil))))
  (pss_cons (ps_set (i := 2) sc__law_integers.nd rfl (.inl rfl) (pe_ix ix_list (pe_lst (pa_cons pe_int (pa_cons pe_int (pa_cons (pe_op op_pow pe_int pe_int) (pa_cons (pe_op op_pow pe_int pe_int) pa_nil))))) (TW.pe_c ((c__law_draw) T) hr (by decide) rfl (pa_cons (pv 0) (pa_cons pe_int pa_nil))) (fun _ _ => rfl)))
  (pss_cons (ps_par (i := 3) (j := 4) (by rfl) sc__law_integers.nd rfl rfl (by decide) rfl rfl (pa_cons (TW.pe_c ((c__law_signed) T) hr (by decide) rfl (pa_cons (pv 0) (pa_cons (pv 2) pa_nil))) (pa_cons (TW.pe_c ((c__law_signed) T) hr (by decide) rfl (pa_cons (pv 0) (pa_cons (pv 2) pa_nil))) pa_nil)) (by rfl))
  (pss_cons (ps_if (pt_cmpR op_eq (pv 1) pe_int (nomark _)) (pss_one (ps_ret (pe_tup (pa_cons (pv 3) (pa_cons pe_int pa_nil))))) pss_nil)
  (pss_cons (ps_if (pt_cmpR op_eq (pv 1) pe_int (nomark _)) (pss_one (ps_ret (pe_tup (pa_cons pe_int (pa_cons (pv 4) pa_nil))))) pss_nil)
  (pss_cons (ps_if (pt_cmpR op_eq (pv 1) pe_int (nomark _)) (pss_one (ps_ret (pe_tup (pa_cons (pv 3) (pa_cons (pe_ix ix_list (pe_lst (pa_cons pe_int (pa_cons (pe_un un_neg pe_int) pa_nil))) (TW.pe_c ((c__law_draw) T) hr (by decide) rfl (pa_cons (pv 0) (pa_cons pe_int pa_nil))) (fun _ _ => rfl)) pa_nil))))) pss_nil)
  (pss_cons (ps_if (pt_cmpR op_eq (pv 1) pe_int (nomark _)) (pss_one (ps_ret (pe_tup (pa_cons (pv 3) (pa_cons (pe_ix ix_list (pe_lst (pa_cons (pv 3) (pa_cons (pe_op op_sub pe_int (pv 3)) pa_nil))) (TW.pe_c ((c__law_draw) T) hr (by decide) rfl (pa_cons (pv 0) (pa_cons pe_int pa_nil))) (fun _ _ => rfl)) pa_nil))))) pss_nil)
  (pss_cons (ps_set (i := 5) sc__law_integers.nd rfl (.inl rfl) (pe_op op_add pe_int (TW.pe_c ((c__law_draw) T) hr (by decide) rfl (pa_cons (pv 0) (pa_cons (pe_ix ix_list (pe_lst (pa_cons pe_int (pa_cons (pe_op op_pow pe_int pe_int) pa_nil))) (TW.pe_c ((c__law_draw) T) hr (by decide) rfl (pa_cons (pv 0) (pa_cons pe_int pa_nil))) (fun _ _ => rfl)) pa_nil)))))
  (pss_cons (ps_if (pt_cmpR op_eq (pv 1) pe_int (nomark _)) (pss_one (ps_ret (pe_tup (pa_cons (pe_op op_mulW (pv 3) (pv 5)) (pa_cons (pv 5) pa_nil))))) pss_nil)
  (pss_cons (ps_if (pt_cmpR op_eq (pv 1) pe_int (nomark _)) (pss_one (ps_ret (pe_tup (pa_cons (pe_op op_add (pe_op op_mulW (pv 3) (pe_op op_pow pe_int pe_int)) (TW.pe_c ((c__law_signed) T) hr (by decide) rfl (pa_cons (pv 0) (pa_cons (pe_op op_pow pe_int pe_int) pa_nil)))) (pa_cons (pe_op op_add (pe_op op_mulW (pv 4) (pe_op op_pow pe_int pe_int)) (TW.pe_c ((c__law_signed) T) hr (by decide) rfl (pa_cons (pv 0) (pa_cons (pe_op op_pow pe_int pe_int) pa_nil)))) pa_nil))))) pss_nil)
  (pss_one (ps_ret (pe_tup (pa_cons (pe_op op_mulW (pv 3) (pv 5)) (pa_cons (pe_op op_mulW (pv 4) (pv 5)) pa_nil))))))))))))))), ?_⟩
    walk_at "K"
    walk_at "s"
    refine ⟨a, g, n + 11, 8, rfl, D, by decide, by decide, fun H1 kind f1 D1 k0 k1 => ?_⟩
    walk_at "s"
    rename_i p1 hp1
    have f2 := Fr.alloc (o := .lst [V.int 10, V.int 1000, V.int (10 ^ Int.toNat 9), V.int (10 ^ Int.toNat 15)]) f1 hp1
    refine ⟨a, g, n + 10, 4, rfl, D1.new hp1, by decide, by decide, fun H3 r f3 D3 r0 r1 => ?_⟩
    obtain ⟨gr, hgr, egr⟩ := pick [10, 1000, 10 ^ Int.toNat 9, 10 ^ Int.toNat 15] r0 r1
    have bgr : 1 ≤ gr ∧ gr ≤ 1000000000000000 := (by decide +kernel : ∀ x ∈ [(10 : Int), 1000, 10 ^ Int.toNat 9, 10 ^ Int.toNat 15], 1 ≤ x ∧ x ≤ 1000000000000000) gr hgr
    refine x_ixL (SqL.of (f3.keep _ _ (D1.off hp1) upd_same)) egr ?_
    walk_at "s"
    refine ⟨a, g, n + 8, gr, rfl, D3, by omega, by omega, fun H4 one f4 D4 o0 o1 => ?_⟩
    walk_at "s"
    refine ⟨a, g, n + 6, gr, rfl, D4, by omega, by omega, fun H5 two f5 D5 t0 t1 => ?_⟩
    have f6 := (f2.trans f3).trans (f4.trans f5)
    walk_at "s"
    refine TW.x_ite (fun c1 => ?_) (fun c1 => ?_)
    · walk_at "s"
      rename_i t ht
      exact k _ _ one 0 (f6.alloc ht) ((D5.le (by omega)).new ht) ⟨t, rfl, upd_same⟩ (small8000 (by omega) (by omega))
    walk_at "s"
    refine TW.x_ite (fun c2 => ?_) (fun c2 => ?_)
    · walk_at "s"
      rename_i t ht
      exact k _ _ 0 two (f6.alloc ht) ((D5.le (by omega)).new ht) ⟨t, rfl, upd_same⟩ (small8000 (by omega) (by omega))
    walk_at "s"
    refine TW.x_ite (fun c3 => ?_) (fun c3 => ?_)
    · walk_at "s"
      rename_i q hq
      refine ⟨a, g, n + 5, 2, rfl, D5.new hq, by decide, by decide, fun H7 z f7 D7 z0 z1 => ?_⟩
      obtain ⟨y, hy, ey⟩ := pick [1, -1] z0 z1
      have by1 : -1 ≤ y ∧ y ≤ 1 := (by decide +kernel : ∀ x ∈ [(1 : Int), -1], -1 ≤ x ∧ x ≤ 1) y hy
      refine x_ixL (SqL.of (f7.keep _ _ (D5.off hq) upd_same)) ey ?_
      walk_at "s"
      rename_i t ht
      exact k _ _ one y ((f6.alloc hq).trans (f7.alloc ht)) ((D7.le (by omega)).new ht) ⟨t, rfl, upd_same⟩ (small8000 (by omega) (by omega))
    walk_at "s"
    refine TW.x_ite (fun c4 => ?_) (fun c4 => ?_)
    · walk_at "s"
      rename_i q hq
      refine ⟨a, g, n + 5, 2, rfl, D5.new hq, by decide, by decide, fun H7 z f7 D7 z0 z1 => ?_⟩
      obtain ⟨y, hy, ey⟩ := pick [one, 0 - one] z0 z1
      have by1 : -gr ≤ y ∧ y ≤ gr := by
        rcases List.mem_cons.mp hy with e | e
        · omega
        · rcases List.mem_cons.mp e with e | e
          · omega
          · cases e
      refine x_ixL (SqL.of (f7.keep _ _ (D5.off hq) upd_same)) ey ?_
      walk_at "s"
      rename_i t ht
      exact k _ _ one y ((f6.alloc hq).trans (f7.alloc ht)) ((D7.le (by omega)).new ht) ⟨t, rfl, upd_same⟩ (small8000 (by omega) (by omega))
    walk_at "s"
    rename_i q hq
    refine ⟨a, g, n + 5, 2, rfl, D5.new hq, by decide, by decide, fun H7 z f7 D7 z0 z1 => ?_⟩
    obtain ⟨y, hy, ey⟩ := pick [12, 10 ^ Int.toNat 14] z0 z1
    have by1 : 12 ≤ y ∧ y ≤ 100000000000000 := (by decide +kernel : ∀ x ∈ [(12 : Int), 10 ^ Int.toNat 14], 12 ≤ x ∧ x ≤ 100000000000000) y hy
    refine x_ixL (SqL.of (f7.keep _ _ (D5.off hq) upd_same)) ey ?_
    walk_at "s"
    refine ⟨a, g, n + 4, y, rfl, D7, by omega, by omega, fun H8 u f8 D8 u0 u1 => ?_⟩
    have f9 := (f6.alloc (o := .lst [V.int 12, V.int (10 ^ Int.toNat 14)]) hq).trans (f7.trans f8)
    have w1 : ∀ i : Int, -1000000000000000000000 ≤ i → i ≤ 1000000000000000000000 → i.natAbs < 2 ^ 100 := fun i h0 h1 => Nat.lt_of_le_of_lt (show i.natAbs ≤ 1000000000000000000000 by omega) (by decide +kernel)
    have wm : ∀ i j : Int, -1000000000000000000000 ≤ i → i ≤ 1000000000000000000000 → -1000000000000000000000 ≤ j → j ≤ 1000000000000000000000 → CMulW i j := fun i j a b c d => wide_mul (w1 i a b) (w1 j c d) (by decide) (by decide) (by decide)
    have wn : ∀ i j : Int, -1000000000000000000000 ≤ i → i ≤ 1000000000000000000000 → -1000000000000000000000 ≤ j → j ≤ 1000000000000000000000 → (i * j).natAbs < 2 ^ 8000 := fun i j a b c d =>
      Nat.lt_of_lt_of_le (wide_lt (w1 i a b) (w1 j c d)) (Nat.pow_le_pow_right (by decide) (by decide))
    have c5 := wm one (1 + u) (by omega) (by omega) (by omega) (by omega)
    have c6 := wm two (1 + u) (by omega) (by omega) (by omega) (by omega)
    walk_at "s"
    refine TW.x_ite (fun c8 => ?_) (fun c8 => ?_)
    · walk_at "s"
      rename_i t ht
      exact k _ _ _ _ (f9.alloc ht) ((D8.le (by omega)).new ht) ⟨t, rfl, upd_same⟩ (small8000 (by omega) (by omega))
    walk_at "s"
    refine TW.x_ite (fun c9 => ?_) (fun c9 => ?_)
    · have ct : (10 : Int) ^ Int.toNat 15 = 1000000000000000 := by decide +kernel
      have cw1 : CMulW one (10 ^ Int.toNat 15) := wm _ _ (by omega) (by omega) (by rw [ct]; decide) (by rw [ct]; decide)
      have cw2 : CMulW two (10 ^ Int.toNat 15) := wm _ _ (by omega) (by omega) (by rw [ct]; decide) (by rw [ct]; decide)
      walk_at "s"
      refine ⟨a, g, n + 2, 10 ^ Int.toNat 15, rfl, D8, by rw [ct]; decide, by rw [ct]; decide, fun H9 s1 f10 D9 a0 a1 => ?_⟩
      walk_at "s"
      refine ⟨a, g, n, 10 ^ Int.toNat 15, rfl, D9, by rw [ct]; decide, by rw [ct]; decide, fun H10 s2 f11 D10 b0 b1 => ?_⟩
      walk_at "s"
      rename_i t ht
      rw [ct] at b0 b1
      refine k _ _ _ _ ((f9.trans (f10.trans f11)).alloc ht) (D10.new ht) ⟨t, rfl, upd_same⟩ (small8000 ?_ ?_)
      · rw [ct]
        omega
      · rw [ct]
        omega
    walk_at "s"
    rename_i t ht
    exact k _ _ _ _ (f9.alloc ht) ((D8.le (by omega)).new ht) ⟨t, rfl, upd_same⟩ (wn _ _ (by omega) (by omega) (by omega) (by omega))

/-! ### the law -/
def RowOk (H : Hp) (v : V) : Prop := ∃ (t : Addr) (m n : Int) (x y : V), v = .ref t ∧ H t = some (.tup [.int m, .int n, x, y]) ∧ n ≠ 0 ∧ n.natAbs < 2 ^ 8000 ∧ Pr H x (nab m n) (nbe m n) ∧ Pr H y (nab m n) (nbe m n)
theorem RowOk.fr {ok : Addr → Prop} {H H' : Hp} {v : V} (f : Fr ok H H') (h : RowOk H v) : RowOk H' v := by
  obtain ⟨t, m, n, x, y, e, k, h0, h1, px, py⟩ := h
  exact ⟨t, m, n, x, y, e, f.tups _ _ k, h0, h1, px.fr f, py.fr f⟩
def sp_law (K : PySem.W.Frag) : Sp := fun vs H Q _ => ∃ (l : Addr) (ns : List Int), vs = [.ref l] ∧ SqL K H l (ns.map V.int) ∧ ns.length ≤ 63 ∧ ∀ H' : Hp, Q (.bl true) H'
theorem c_law (T : Txt K mg C_WorthError C_InvalidNumber C_InvalidSigns C_UnknownSign C_InvalidMachine C_UnlikeSigns f_err) : FnAt P w K mg base CX0 5 "law" s_law ["_law_script"] (sp_law K) := by
  refine TW.mkFn T.d_law sc_law (fun vs H Q E h => ?_) (fun f cdv A outer s H vs Q E hr h => ?_)
  · obtain ⟨l, ns, rfl, _⟩ := h
    rfl
  · obtain ⟨l, ns, rfl, hS, hl, k⟩ := h
    refine ⟨_, (pss_cons (ps_set (i := 1) sc_law.nd rfl (.inl rfl) (TW.pe_c ((c__law_deck) T) hr (by decide) rfl (pa_cons (pv 0) pa_nil)))
  (pss_cons (ps_set (i := 2) sc_law.nd rfl (.inl rfl) (pe_lst pa_nil))
  (pss_cons (ps_for PassesOwn.never rfl (pi_range1 rfl T.no_range (pa_cons pe_int pa_nil)) (pg_name (i := 3) sc_law.nd rfl (.inl rfl)) (pss_cons (ps_asg (TW.pe_c ((c__law_integers) T) hr (by decide) rfl (pa_cons (pv 1) pa_nil)) (pg_tup (by rfl) (pgs_cons (pg_name (i := 4) sc_law.nd rfl (.inl rfl)) (pgs_cons (pg_name (i := 5) sc_law.nd rfl (.inl rfl)) pgs_nil))))
  (pss_cons (ps_if (pt_not (pt_val (TW.pe_c ((c__law_is_refused) T) hr (by decide) rfl (pa_cons (pv 4) pa_nil)))) (pss_one (ps_ret pe_bl)) pss_nil)
  (pss_one (ps_if (pt_cmpR op_ne (pv 5) pe_int (nomark _)) (pss_cons (ps_set (i := 6) sc_law.nd rfl (.inl rfl) (TW.pe_c ((c__law_pair) T) hr (by decide) rfl (pa_cons (pv 4) (pa_cons (pv 5) pa_nil))))
  (pss_cons (ps_set (i := 7) sc_law.nd rfl (.inl rfl) (TW.pe_c ((c_number) T) hr (by decide) rfl (pa_cons (pv 4) (pa_cons (pv 5) pa_nil))))
  (pss_cons (ps_if (PW.pt (pw_or (pt_not (pt_val (TW.pe_c ((fun T => c__law_alike T 2) T) hr (by decide) rfl (pa_cons (pv 7) (pa_cons (pv 6) pa_nil))))) (pw_or1 (pt_not (pt_val (TW.pe_c ((fun T => c__law_alike T 2) T) hr (by decide) rfl (pa_cons (TW.pe_ck (c_number T) kb_number_below_above hr (by decide) rfl (pk_cons (pv 5) (pk_cons (pv 4) pk_nil))) (pa_cons (pv 6) pa_nil)))))))) (pss_one (ps_ret pe_bl)) pss_nil)
  (pss_one (ps_expr (pe_bm PySem.F.plainAttrs_list PySem.F.slot_list_append PySem.F.type_list_append mt_append (pv 2) (pa_cons (pe_tup (pa_cons (pv 4) (pa_cons (pv 5) (pa_cons (pv 7) (pa_cons (pv 6) pa_nil))))) pa_nil))))))) pss_nil)))))
  (pss_cons (ps_for PassesOwn.never rfl (pi_list (pv 2)) (pg_tup (by rfl) (pgs_cons (pg_name (i := 4) sc_law.nd rfl (.inl rfl)) (pgs_cons (pg_name (i := 5) sc_law.nd rfl (.inl rfl)) (pgs_cons (pg_name (i := 7) sc_law.nd rfl (.inl rfl)) (pgs_cons (pg_name (i := 6) sc_law.nd rfl (.inl rfl)) pgs_nil))))) (pss_one (ps_if (PW.pt (pw_or (pt_not (pt_val (TW.pe_c ((fun T => c__law_alike T 2) T) hr (by decide) rfl (pa_cons (pv 7) (pa_cons (pv 6) pa_nil))))) (pw_or1 (pt_not (pt_val (TW.pe_c ((fun T => c__law_alike T 2) T) hr (by decide) rfl (pa_cons (TW.pe_c ((c_number) T) hr (by decide) rfl (pa_cons (pv 4) (pa_cons (pv 5) pa_nil))) (pa_cons (pv 6) pa_nil)))))))) (pss_one (ps_ret pe_bl)) pss_nil)))
  (pss_one (ps_ret pe_bl)))))), ?_⟩
    walk_at "K"
    walk_at "s"
    refine ⟨l, ns, rfl, hS, hl, fun H1 a g f1 na ng D1 => ?_⟩
    walk_at "s"
    rename_i hd hhd
    have offd := D1.off hhd
    refine TW.x_forR (k := 10) rfl (by decide) (fun i σ H2 => ∃ (o1 o2 o3 o4 o5 : Option V) (rows : List V), σ = [some (.ref l), some (.ref a), some (.ref hd), o1, o2, o3, o4, o5] ∧ Deck H2 a g (12 * (10 - i)) ∧ H2 hd = some (.lst rows) ∧ (∀ v ∈ rows, RowOk H2 v) ∧ rows.length ≤ i)
      ⟨none, none, none, none, none, [], rfl, (D1.le (by decide)).new hhd, upd_same, (fun v hv => by cases hv), Nat.le_refl _⟩ ?_ ?_
    · rintro i σ H2 hi ⟨o1, o2, o3, o4, o5, rows, rfl, D2, hrows, hok, hlen⟩
      walk_at "s"
      refine ⟨a, g, 12 * (10 - (i + 1)), rfl, D2.le (by omega), fun H3 v m n f3 D3 pv hw => ?_⟩
      obtain ⟨t, rfl, ht⟩ := pv
      have hrows := f3.keep _ _ offd hrows
      have hok : ∀ v ∈ rows, RowOk H3 v := fun v hv => (hok v hv).fr f3
      walk_at "s"
      refine ⟨m, rfl, fun H4 f4 => ?_⟩
      have hrows := f4.keep _ _ trivial hrows
      have hok : ∀ v ∈ rows, RowOk H4 v := fun v hv => (hok v hv).fr f4
      have D4 := D3.fr f4
      walk_at "s"
      refine TW.x_iteN (fun c1 => ?_) (fun c1 => ?_)
      · walk_at "s"
        refine ⟨m, n, rfl, c1, hw, fun H5 x f5 px => ?_⟩
        walk_at "s"
        refine ⟨m, n, rfl, c1, hw, fun H6 y f6 py => ?_⟩
        walk_at "s"
        refine ⟨y, x, _, rfl, py.rep, (px.fr f6).rep, depth2 _ _, fun H7 f7 => ?_⟩
        walk_at "s"
        refine ⟨m, n, rfl, c1, hw, fun H8 z f8 pz => ?_⟩
        walk_at "s"
        refine ⟨z, x, _, rfl, pz.rep, (((px.fr f6).fr f7).fr f8).rep, depth2 _ _, fun H9 f9 => ?_⟩
        have f10 := (((f5.trans f6).trans f7).trans f8).trans f9
        have hrows := f10.keep _ _ trivial hrows
        walk_at "s"
        refine TW.x_ty (SqL.of hrows) ?_
        walk_at "s"
        rename_i q hq
        have ne := (ne_of_none hrows hq)
        refine TW.x_app (xs := rows) (by walk_at "hp") (by omega) ?_
        have f11 : Fr (fun b => b ≠ hd) H4 (upd (upd H9 q (.tup [V.int m, V.int n, y, x])) hd (.lst (rows ++ [V.ref q]))) := (Fr.mono (f10.alloc hq) fun _ _ => trivial).trans (Fr.set (fun z => z rfl) (by walk_at "hp"))
        refine ⟨_, _, _, _, _, rows ++ [V.ref q], rfl, ?_, upd_same, fun v hv => ?_, by rw [List.length_append, List.length_singleton]; omega⟩
        · obtain ⟨c, mk, t2, gs, d, e⟩ := D4.fr (f10.alloc (o := .tup [V.int m, V.int n, y, x]) hq)
          exact ⟨c, mk, t2, gs, ⟨by rw [upd_ne offd.1.symm]; exact d.cell, by rw [upd_ne offd.2.symm]; exact d.great, d.ne, d.cur0, d.mark0, d.cnt0, d.gs0, d.gsl⟩, e⟩
        · rcases List.mem_append.mp hv with h | h
          · exact (hok v h).fr f11
          · obtain rfl := List.mem_singleton.mp h
            refine ⟨q, m, n, y, x, rfl, by rw [upd_ne ne.symm, upd_same], c1, hw, ?_, ?_⟩
            · exact ((py.fr ((f7.trans f8).trans f9)).fr (Fr.new (ok := fun _ => True) hq)).fr (Fr.set (ok := fun b => b ≠ hd) (fun z => z rfl) (by walk_at "hp"))
            · exact ((px.fr (((f6.trans f7).trans f8).trans f9)).fr (Fr.new (ok := fun _ => True) hq)).fr (Fr.set (ok := fun b => b ≠ hd) (fun z => z rfl) (by walk_at "hp"))
      · walk_at "s"
        exact ⟨_, _, _, _, _, rows, rfl, D4, hrows, hok, by omega⟩
    · rintro σ H2 ⟨o1, o2, o3, o4, o5, rows, rfl, D2, hrows, hok, hlen⟩
      walk_at "s"
      refine TW.x_forL (xs := rows) (SqL.of hrows) (fun i σ H3 => ∃ (o1 o2 o3 o4 o5 : Option V), σ = [some (.ref l), some (.ref a), some (.ref hd), o1, o2, o3, o4, o5] ∧ Fr (fun _ => True) H2 H3) ⟨o1, o2, o3, o4, o5, rfl, Fr.refl⟩ (fun i σ H3 _ h => ?_) ?_ ?_
      · obtain ⟨_, _, _, _, _, _, f3⟩ := h
        exact SqL.of (f3.keep _ _ trivial hrows)
      · rintro i v σ H3 hi ⟨o1, o2, o3, o4, o5, rfl, f3⟩
        obtain ⟨t, m, n, x, y, rfl, ht, h0, hw, px, py⟩ := (hok v (List.mem_of_getElem? hi)).fr f3
        walk_at "s"
        refine ⟨x, y, _, rfl, px.rep, py.rep, depth2 _ _, fun H4 f4 => ?_⟩
        walk_at "s"
        refine ⟨m, n, rfl, h0, hw, fun H5 z f5 pz => ?_⟩
        walk_at "s"
        refine ⟨z, y, _, rfl, pz.rep, ((py.fr f4).fr f5).rep, depth2 _ _, fun H6 f6 => ?_⟩
        walk_at "s"
        exact ⟨_, _, _, _, _, rfl, f3.trans ((f4.trans f5).trans f6)⟩
      · rintro σ H3 ⟨o1, o2, o3, o4, o5, rfl, f3⟩
        walk_at "s"
        exact k _

end
theorem all_mk {P : Program} {w : World} {K : PySem.W.Frag} {h : Heap} {mg : Str → Option Value} {fa C_WorthError C_InvalidNumber C_InvalidSigns C_UnknownSign C_InvalidMachine C_UnlikeSigns f_err A_number A__law_deck A__law_draw A__law_gcd A__law_pair A__law_alike A__law_signed A__law_integers A__law_is_refused A_law : Addr} (X : K.In h) (G : h.Ns mainGlobals mg) (hfa : mg "law" = some (.ref fa))
    (a_WorthError : PySem.W.nsIn K mainGlobals "WorthError" = some (some (.ref C_WorthError)))
    (a_InvalidNumber : PySem.W.nsIn K mainGlobals "InvalidNumber" = some (some (.ref C_InvalidNumber)))
    (a_InvalidSigns : PySem.W.nsIn K mainGlobals "InvalidSigns" = some (some (.ref C_InvalidSigns)))
    (a_UnknownSign : PySem.W.nsIn K mainGlobals "UnknownSign" = some (some (.ref C_UnknownSign)))
    (a_InvalidMachine : PySem.W.nsIn K mainGlobals "InvalidMachine" = some (some (.ref C_InvalidMachine)))
    (a_UnlikeSigns : PySem.W.nsIn K mainGlobals "UnlikeSigns" = some (some (.ref C_UnlikeSigns)))
    (x_WorthError : TW.ErrL K C_WorthError [.type "ValueError", .type "Exception", .type "BaseException", .type "object"])
    (sa_WorthError : PySem.W.findIn K (.ref C_WorthError) "__setattr__" = some (some (.builtin "object.__setattr__")))
    (ga_WorthError : PySem.W.findIn K (.ref C_WorthError) "__getattribute__" = some (some (.builtin "BaseException.__getattribute__")))
    (gt_WorthError : PySem.W.findIn K (.ref C_WorthError) "__getattr__" = some none)
    (sb_WorthError : PySem.W.subIn K (.ref C_WorthError) (.type "BaseException") = some true)
    (ty_WorthError : PySem.W.typeIn K (.ref C_WorthError) = some (.type "type"))
    (kp_WorthError : PySem.W.keepIn K (.ref C_WorthError) = true)
    (hd_WorthError : PySem.W.hasDictIn K C_WorthError = true)
    (cl_WorthError : PySem.W.isClsIn K C_WorthError = true)
    (kl_WorthError : PySem.W.findIn K (.ref C_WorthError) "__class__" = some (some (.builtin "object.__class__")))
    (mo_WorthError : PySem.W.mroIn K C_WorthError (.type "object") = some true)
    (no_WorthError : PySem.W.findIn K (.ref C_WorthError) "value" = some none)
    (ve_WorthError : PySem.W.subIn K (.ref C_WorthError) (.type "ValueError") = some true)
    (me_WorthError : PySem.W.subIn K (.ref C_WorthError) (.ref C_WorthError) = some true)
    (x_InvalidNumber : TW.ErrL K C_InvalidNumber [.ref C_WorthError, .type "ValueError", .type "Exception", .type "BaseException", .type "object"])
    (sa_InvalidNumber : PySem.W.findIn K (.ref C_InvalidNumber) "__setattr__" = some (some (.builtin "object.__setattr__")))
    (ga_InvalidNumber : PySem.W.findIn K (.ref C_InvalidNumber) "__getattribute__" = some (some (.builtin "BaseException.__getattribute__")))
    (gt_InvalidNumber : PySem.W.findIn K (.ref C_InvalidNumber) "__getattr__" = some none)
    (sb_InvalidNumber : PySem.W.subIn K (.ref C_InvalidNumber) (.type "BaseException") = some true)
    (ty_InvalidNumber : PySem.W.typeIn K (.ref C_InvalidNumber) = some (.type "type"))
    (kp_InvalidNumber : PySem.W.keepIn K (.ref C_InvalidNumber) = true)
    (hd_InvalidNumber : PySem.W.hasDictIn K C_InvalidNumber = true)
    (cl_InvalidNumber : PySem.W.isClsIn K C_InvalidNumber = true)
    (kl_InvalidNumber : PySem.W.findIn K (.ref C_InvalidNumber) "__class__" = some (some (.builtin "object.__class__")))
    (mo_InvalidNumber : PySem.W.mroIn K C_InvalidNumber (.type "object") = some true)
    (no_InvalidNumber : PySem.W.findIn K (.ref C_InvalidNumber) "value" = some none)
    (ve_InvalidNumber : PySem.W.subIn K (.ref C_InvalidNumber) (.type "ValueError") = some true)
    (me_InvalidNumber : PySem.W.subIn K (.ref C_InvalidNumber) (.ref C_InvalidNumber) = some true)
    (x_InvalidSigns : TW.ErrL K C_InvalidSigns [.ref C_WorthError, .type "ValueError", .type "Exception", .type "BaseException", .type "object"])
    (sa_InvalidSigns : PySem.W.findIn K (.ref C_InvalidSigns) "__setattr__" = some (some (.builtin "object.__setattr__")))
    (ga_InvalidSigns : PySem.W.findIn K (.ref C_InvalidSigns) "__getattribute__" = some (some (.builtin "BaseException.__getattribute__")))
    (gt_InvalidSigns : PySem.W.findIn K (.ref C_InvalidSigns) "__getattr__" = some none)
    (sb_InvalidSigns : PySem.W.subIn K (.ref C_InvalidSigns) (.type "BaseException") = some true)
    (ty_InvalidSigns : PySem.W.typeIn K (.ref C_InvalidSigns) = some (.type "type"))
    (kp_InvalidSigns : PySem.W.keepIn K (.ref C_InvalidSigns) = true)
    (hd_InvalidSigns : PySem.W.hasDictIn K C_InvalidSigns = true)
    (cl_InvalidSigns : PySem.W.isClsIn K C_InvalidSigns = true)
    (kl_InvalidSigns : PySem.W.findIn K (.ref C_InvalidSigns) "__class__" = some (some (.builtin "object.__class__")))
    (mo_InvalidSigns : PySem.W.mroIn K C_InvalidSigns (.type "object") = some true)
    (no_InvalidSigns : PySem.W.findIn K (.ref C_InvalidSigns) "value" = some none)
    (ve_InvalidSigns : PySem.W.subIn K (.ref C_InvalidSigns) (.type "ValueError") = some true)
    (me_InvalidSigns : PySem.W.subIn K (.ref C_InvalidSigns) (.ref C_InvalidSigns) = some true)
    (x_UnknownSign : TW.ErrL K C_UnknownSign [.ref C_WorthError, .type "ValueError", .type "Exception", .type "BaseException", .type "object"])
    (sa_UnknownSign : PySem.W.findIn K (.ref C_UnknownSign) "__setattr__" = some (some (.builtin "object.__setattr__")))
    (ga_UnknownSign : PySem.W.findIn K (.ref C_UnknownSign) "__getattribute__" = some (some (.builtin "BaseException.__getattribute__")))
    (gt_UnknownSign : PySem.W.findIn K (.ref C_UnknownSign) "__getattr__" = some none)
    (sb_UnknownSign : PySem.W.subIn K (.ref C_UnknownSign) (.type "BaseException") = some true)
    (ty_UnknownSign : PySem.W.typeIn K (.ref C_UnknownSign) = some (.type "type"))
    (kp_UnknownSign : PySem.W.keepIn K (.ref C_UnknownSign) = true)
    (hd_UnknownSign : PySem.W.hasDictIn K C_UnknownSign = true)
    (cl_UnknownSign : PySem.W.isClsIn K C_UnknownSign = true)
    (kl_UnknownSign : PySem.W.findIn K (.ref C_UnknownSign) "__class__" = some (some (.builtin "object.__class__")))
    (mo_UnknownSign : PySem.W.mroIn K C_UnknownSign (.type "object") = some true)
    (no_UnknownSign : PySem.W.findIn K (.ref C_UnknownSign) "value" = some none)
    (ve_UnknownSign : PySem.W.subIn K (.ref C_UnknownSign) (.type "ValueError") = some true)
    (me_UnknownSign : PySem.W.subIn K (.ref C_UnknownSign) (.ref C_UnknownSign) = some true)
    (x_InvalidMachine : TW.ErrL K C_InvalidMachine [.ref C_WorthError, .type "ValueError", .type "Exception", .type "BaseException", .type "object"])
    (sa_InvalidMachine : PySem.W.findIn K (.ref C_InvalidMachine) "__setattr__" = some (some (.builtin "object.__setattr__")))
    (ga_InvalidMachine : PySem.W.findIn K (.ref C_InvalidMachine) "__getattribute__" = some (some (.builtin "BaseException.__getattribute__")))
    (gt_InvalidMachine : PySem.W.findIn K (.ref C_InvalidMachine) "__getattr__" = some none)
    (sb_InvalidMachine : PySem.W.subIn K (.ref C_InvalidMachine) (.type "BaseException") = some true)
    (ty_InvalidMachine : PySem.W.typeIn K (.ref C_InvalidMachine) = some (.type "type"))
    (kp_InvalidMachine : PySem.W.keepIn K (.ref C_InvalidMachine) = true)
    (hd_InvalidMachine : PySem.W.hasDictIn K C_InvalidMachine = true)
    (cl_InvalidMachine : PySem.W.isClsIn K C_InvalidMachine = true)
    (kl_InvalidMachine : PySem.W.findIn K (.ref C_InvalidMachine) "__class__" = some (some (.builtin "object.__class__")))
    (mo_InvalidMachine : PySem.W.mroIn K C_InvalidMachine (.type "object") = some true)
    (no_InvalidMachine : PySem.W.findIn K (.ref C_InvalidMachine) "value" = some none)
    (ve_InvalidMachine : PySem.W.subIn K (.ref C_InvalidMachine) (.type "ValueError") = some true)
    (me_InvalidMachine : PySem.W.subIn K (.ref C_InvalidMachine) (.ref C_InvalidMachine) = some true)
    (x_UnlikeSigns : TW.ErrL K C_UnlikeSigns [.ref C_WorthError, .type "ValueError", .type "Exception", .type "BaseException", .type "object"])
    (sa_UnlikeSigns : PySem.W.findIn K (.ref C_UnlikeSigns) "__setattr__" = some (some (.builtin "object.__setattr__")))
    (ga_UnlikeSigns : PySem.W.findIn K (.ref C_UnlikeSigns) "__getattribute__" = some (some (.builtin "BaseException.__getattribute__")))
    (gt_UnlikeSigns : PySem.W.findIn K (.ref C_UnlikeSigns) "__getattr__" = some none)
    (sb_UnlikeSigns : PySem.W.subIn K (.ref C_UnlikeSigns) (.type "BaseException") = some true)
    (ty_UnlikeSigns : PySem.W.typeIn K (.ref C_UnlikeSigns) = some (.type "type"))
    (kp_UnlikeSigns : PySem.W.keepIn K (.ref C_UnlikeSigns) = true)
    (hd_UnlikeSigns : PySem.W.hasDictIn K C_UnlikeSigns = true)
    (cl_UnlikeSigns : PySem.W.isClsIn K C_UnlikeSigns = true)
    (kl_UnlikeSigns : PySem.W.findIn K (.ref C_UnlikeSigns) "__class__" = some (some (.builtin "object.__class__")))
    (mo_UnlikeSigns : PySem.W.mroIn K C_UnlikeSigns (.type "object") = some true)
    (no_UnlikeSigns : PySem.W.findIn K (.ref C_UnlikeSigns) "value" = some none)
    (ve_UnlikeSigns : PySem.W.subIn K (.ref C_UnlikeSigns) (.type "ValueError") = some true)
    (me_UnlikeSigns : PySem.W.subIn K (.ref C_UnlikeSigns) (.ref C_UnlikeSigns) = some true)
    (gs_get : PySem.W.specialIn K (.builtin "object.__class__") "__get__" = some (some (.builtin "getset_descriptor.__get__")))
    (tk_get : PySem.W.takesIn K (.builtin "object.__class__") = some true)
    (i_err : PySem.W.findIn K (.ref C_WorthError) "__init__" = some (some (.ref f_err)))
    (t_err : PySem.W.typeIn K (.ref f_err) = some (.type "function"))
    (l_err : TW.DefL K "__init__" "WorthError.__init__" s_WorthError___init__ f_err)
    (in_InvalidNumber : PySem.W.findIn K (.ref C_InvalidNumber) "__init__" = some (some (.ref f_err)))
    (sb_InvalidNumber_WorthError : PySem.W.subIn K (.ref C_InvalidNumber) (.ref C_WorthError) = some true)
    (sb_InvalidNumber_InvalidNumber : PySem.W.subIn K (.ref C_InvalidNumber) (.ref C_InvalidNumber) = some true)
    (sb_InvalidNumber_InvalidSigns : PySem.W.subIn K (.ref C_InvalidNumber) (.ref C_InvalidSigns) = some false)
    (sb_InvalidNumber_UnknownSign : PySem.W.subIn K (.ref C_InvalidNumber) (.ref C_UnknownSign) = some false)
    (sb_InvalidNumber_InvalidMachine : PySem.W.subIn K (.ref C_InvalidNumber) (.ref C_InvalidMachine) = some false)
    (sb_InvalidNumber_UnlikeSigns : PySem.W.subIn K (.ref C_InvalidNumber) (.ref C_UnlikeSigns) = some false)
    (a_number : PySem.W.nsIn K mainGlobals "number" = some (some (.ref A_number)))
    (l_number : TW.DefL K "number" "number" s_number A_number)
    (a__law_deck : PySem.W.nsIn K mainGlobals "_law_deck" = some (some (.ref A__law_deck)))
    (l__law_deck : TW.DefL K "_law_deck" "_law_deck" s__law_deck A__law_deck)
    (a__law_draw : PySem.W.nsIn K mainGlobals "_law_draw" = some (some (.ref A__law_draw)))
    (l__law_draw : TW.DefL K "_law_draw" "_law_draw" s__law_draw A__law_draw)
    (a__law_gcd : PySem.W.nsIn K mainGlobals "_law_gcd" = some (some (.ref A__law_gcd)))
    (l__law_gcd : TW.DefL K "_law_gcd" "_law_gcd" s__law_gcd A__law_gcd)
    (a__law_pair : PySem.W.nsIn K mainGlobals "_law_pair" = some (some (.ref A__law_pair)))
    (l__law_pair : TW.DefL K "_law_pair" "_law_pair" s__law_pair A__law_pair)
    (a__law_alike : PySem.W.nsIn K mainGlobals "_law_alike" = some (some (.ref A__law_alike)))
    (l__law_alike : TW.DefL K "_law_alike" "_law_alike" s__law_alike A__law_alike)
    (a__law_signed : PySem.W.nsIn K mainGlobals "_law_signed" = some (some (.ref A__law_signed)))
    (l__law_signed : TW.DefL K "_law_signed" "_law_signed" s__law_signed A__law_signed)
    (a__law_integers : PySem.W.nsIn K mainGlobals "_law_integers" = some (some (.ref A__law_integers)))
    (l__law_integers : TW.DefL K "_law_integers" "_law_integers" s__law_integers A__law_integers)
    (a__law_is_refused : PySem.W.nsIn K mainGlobals "_law_is_refused" = some (some (.ref A__law_is_refused)))
    (l__law_is_refused : TW.DefL K "_law_is_refused" "_law_is_refused" s__law_is_refused A__law_is_refused)
    (a_law : PySem.W.nsIn K mainGlobals "law" = some (some (.ref A_law)))
    (l_law : TW.DefL K "law" "law" s_law A_law)
    (a_gcd : PySem.W.nsIn K mainGlobals "gcd" = some (some (.builtin "math.gcd")))
    (z_ValueError : PySem.W.nsIn K mainGlobals "ValueError" = some none)
    (z_abs : PySem.W.nsIn K mainGlobals "abs" = some none)
    (z_bool : PySem.W.nsIn K mainGlobals "bool" = some none)
    (z_int : PySem.W.nsIn K mainGlobals "int" = some none)
    (z_isinstance : PySem.W.nsIn K mainGlobals "isinstance" = some none)
    (z_len : PySem.W.nsIn K mainGlobals "len" = some none)
    (z_list : PySem.W.nsIn K mainGlobals "list" = some none)
    (z_range : PySem.W.nsIn K mainGlobals "range" = some none)
    (z_str : PySem.W.nsIn K mainGlobals "str" = some none)
    (z_tuple : PySem.W.nsIn K mainGlobals "tuple" = some none)
    (z_zip : PySem.W.nsIn K mainGlobals "zip" = some none) :
    ∃ fd : FuncData, (∀ (s : Shared) (v : Value), BindsTo s fd ⟨[v], []⟩ [("_law_script", v)]) ∧ ∀ base : Heap, K.In base → base.Ns mainGlobals mg → FnOk P w K mg base CX0 5 fa fd ["_law_script"] (sp_law K) := by
  have T : Txt K mg C_WorthError C_InvalidNumber C_InvalidSigns C_UnknownSign C_InvalidMachine C_UnlikeSigns f_err := {
    cl_WorthError := PySem.W.mg_of X G a_WorthError
    cl_InvalidNumber := PySem.W.mg_of X G a_InvalidNumber
    cl_InvalidSigns := PySem.W.mg_of X G a_InvalidSigns
    cl_UnknownSign := PySem.W.mg_of X G a_UnknownSign
    cl_InvalidMachine := PySem.W.mg_of X G a_InvalidMachine
    cl_UnlikeSigns := PySem.W.mg_of X G a_UnlikeSigns
    ec_WorthError := TW.mkErr x_WorthError rfl sa_WorthError ga_WorthError gt_WorthError sb_WorthError ty_WorthError kp_WorthError hd_WorthError cl_WorthError kl_WorthError gs_get tk_get mo_WorthError no_WorthError me_WorthError ve_WorthError
    ec_InvalidNumber := TW.mkErr x_InvalidNumber rfl sa_InvalidNumber ga_InvalidNumber gt_InvalidNumber sb_InvalidNumber ty_InvalidNumber kp_InvalidNumber hd_InvalidNumber cl_InvalidNumber kl_InvalidNumber gs_get tk_get mo_InvalidNumber no_InvalidNumber me_InvalidNumber ve_InvalidNumber
    ec_InvalidSigns := TW.mkErr x_InvalidSigns rfl sa_InvalidSigns ga_InvalidSigns gt_InvalidSigns sb_InvalidSigns ty_InvalidSigns kp_InvalidSigns hd_InvalidSigns cl_InvalidSigns kl_InvalidSigns gs_get tk_get mo_InvalidSigns no_InvalidSigns me_InvalidSigns ve_InvalidSigns
    ec_UnknownSign := TW.mkErr x_UnknownSign rfl sa_UnknownSign ga_UnknownSign gt_UnknownSign sb_UnknownSign ty_UnknownSign kp_UnknownSign hd_UnknownSign cl_UnknownSign kl_UnknownSign gs_get tk_get mo_UnknownSign no_UnknownSign me_UnknownSign ve_UnknownSign
    ec_InvalidMachine := TW.mkErr x_InvalidMachine rfl sa_InvalidMachine ga_InvalidMachine gt_InvalidMachine sb_InvalidMachine ty_InvalidMachine kp_InvalidMachine hd_InvalidMachine cl_InvalidMachine kl_InvalidMachine gs_get tk_get mo_InvalidMachine no_InvalidMachine me_InvalidMachine ve_InvalidMachine
    ec_UnlikeSigns := TW.mkErr x_UnlikeSigns rfl sa_UnlikeSigns ga_UnlikeSigns gt_UnlikeSigns sb_UnlikeSigns ty_UnlikeSigns kp_UnlikeSigns hd_UnlikeSigns cl_UnlikeSigns kl_UnlikeSigns gs_get tk_get mo_UnlikeSigns no_UnlikeSigns me_UnlikeSigns ve_UnlikeSigns
    ty_err := t_err
    fn_err := TW.mkFun l_err (by intro _ _ _ _ _ _ us hl; match us, hl with | [_, _], _ => rfl)
    in_InvalidNumber := in_InvalidNumber
    sb_InvalidNumber_WorthError := sb_InvalidNumber_WorthError
    sb_InvalidNumber_InvalidNumber := sb_InvalidNumber_InvalidNumber
    sb_InvalidNumber_InvalidSigns := sb_InvalidNumber_InvalidSigns
    sb_InvalidNumber_UnknownSign := sb_InvalidNumber_UnknownSign
    sb_InvalidNumber_InvalidMachine := sb_InvalidNumber_InvalidMachine
    sb_InvalidNumber_UnlikeSigns := sb_InvalidNumber_UnlikeSigns
    d_number := TW.mkDef X G a_number l_number (by intro _ _ _ _ _ _ us hl; match us, hl with | [_, _], _ => rfl)
    d__law_deck := TW.mkDef X G a__law_deck l__law_deck (by intro _ _ _ _ _ _ us hl; match us, hl with | [_], _ => rfl)
    d__law_draw := TW.mkDef X G a__law_draw l__law_draw (by intro _ _ _ _ _ _ us hl; match us, hl with | [_, _], _ => rfl)
    d__law_gcd := TW.mkDef X G a__law_gcd l__law_gcd (by intro _ _ _ _ _ _ us hl; match us, hl with | [_, _], _ => rfl)
    d__law_pair := TW.mkDef X G a__law_pair l__law_pair (by intro _ _ _ _ _ _ us hl; match us, hl with | [_, _], _ => rfl)
    d__law_alike := TW.mkDef X G a__law_alike l__law_alike (by intro _ _ _ _ _ _ us hl; match us, hl with | [_, _], _ => rfl)
    d__law_signed := TW.mkDef X G a__law_signed l__law_signed (by intro _ _ _ _ _ _ us hl; match us, hl with | [_, _], _ => rfl)
    d__law_integers := TW.mkDef X G a__law_integers l__law_integers (by intro _ _ _ _ _ _ us hl; match us, hl with | [_], _ => rfl)
    d__law_is_refused := TW.mkDef X G a__law_is_refused l__law_is_refused (by intro _ _ _ _ _ _ us hl; match us, hl with | [_], _ => rfl)
    d_law := TW.mkDef X G a_law l_law (by intro _ _ _ _ _ _ us hl; match us, hl with | [_], _ => rfl)
    mg_gcd := PySem.W.mg_of X G a_gcd
    no_ValueError := PySem.W.mg_none_of X G z_ValueError
    no_abs := PySem.W.mg_none_of X G z_abs
    no_bool := PySem.W.mg_none_of X G z_bool
    no_int := PySem.W.mg_none_of X G z_int
    no_isinstance := PySem.W.mg_none_of X G z_isinstance
    no_len := PySem.W.mg_none_of X G z_len
    no_list := PySem.W.mg_none_of X G z_list
    no_range := PySem.W.mg_none_of X G z_range
    no_str := PySem.W.mg_none_of X G z_str
    no_tuple := PySem.W.mg_none_of X G z_tuple
    no_zip := PySem.W.mg_none_of X G z_zip }
  obtain ⟨oc, od, an, sl, kV, dc, pm, cd, ct, l, c, k⟩ := l_law
  have e := hfa.symm.trans (PySem.W.mg_of X G a_law)
  cases e
  refine ⟨PySem.W.fnOf "law" "law" (defArgs s_law) (defBody s_law) (defScope s_law) .none kV dc pm an cd ct, fun s v => .of_eq rfl, fun base _ _ => ?_⟩
  obtain ⟨f, fd, F, hm, fn, b⟩ := (c_law (P := P) (w := w) (base := base) T).ex
  have e := hm.symm.trans (PySem.W.mg_of X G a_law)
  cases e
  obtain ⟨oc', od', kV', dc', pm', an', cd', ct', sl', rfl, l', _⟩ := fn.ex
  have e2 := l.symm.trans l'
  cases e2
  exact F
theorem walk {l : PySem.W.OpenLaw} {q : Program} {loose : List Str} {XP : (Str → Option Value) → Heap → Prop} {YP : World → Heap → Prop} {d : DefRec} {K : Params → PySem.W.Frag} (hn : l.most = some 63) (hdf : d.params.defaults = [])
    (hY : ∀ (w : World) (h : Heap), YP w h → (K w.params).In h)
    (F : ∀ (w : World) (mg : Str → Option Value) (fa : Addr) (h : Heap), (K w.params).In h → h.Ns mainGlobals mg → mg d.name = some (.ref fa) →
      ∃ fd : FuncData, (∀ (s : Shared) (u : Value), BindsTo s fd ⟨[u], []⟩ [("_law_script", u)]) ∧ ∀ base : Heap, (K w.params).In base → base.Ns mainGlobals mg → FnOk l.prog w (K w.params) mg base CX0 5 fa fd ["_law_script"] (sp_law (K w.params))) :
    PySem.W.WalkO q loose XP YP l.row.toRowW d [] (fun f vs => PySem.call f vs) :=
  L2.walk_of (n := 63) (k := 5) (x := "_law_script") (CX := fun _ => CX0) (sp := fun w => sp_law (K w.params)) hn (by decide) hdf ⟨rfl, by decide, by decide⟩ hY F (fun _ _ a ns hl _ hS => ⟨a, ns, rfl, hS, hl, fun _ => rfl⟩) fun _ _ _ _ _ z => z
end K

open PySem PySem.W PyProof.Rows in
set_option maxRecDepth 100000 in
set_option maxHeartbeats 0 in
theorem PySem.Challenge.cw_textworths_k01_numbers_holds : PySem.Challenge.rw_textworths_k01_numbers.Holds := by
  w_on; o_law; k_head; (case hw => w_witness2)
  k_fill
  refine K.walk (l := PySem.Challenge.rw_textworths_k01_numbers) rfl rfl (fun w h Y => PySem.W.kIn_of Y) ?F
  case F =>
    intro w mg fa h KX G hmg
    refine' K.all_mk KX G hmg ?a_WorthError ?a_InvalidNumber ?a_InvalidSigns ?a_UnknownSign ?a_InvalidMachine ?a_UnlikeSigns ?x_WorthError ?sa_WorthError ?ga_WorthError ?gt_WorthError ?sb_WorthError ?ty_WorthError ?kp_WorthError ?hd_WorthError ?cl_WorthError ?kl_WorthError ?mo_WorthError ?no_WorthError ?ve_WorthError ?me_WorthError ?x_InvalidNumber ?sa_InvalidNumber ?ga_InvalidNumber ?gt_InvalidNumber ?sb_InvalidNumber ?ty_InvalidNumber ?kp_InvalidNumber ?hd_InvalidNumber ?cl_InvalidNumber ?kl_InvalidNumber ?mo_InvalidNumber ?no_InvalidNumber ?ve_InvalidNumber ?me_InvalidNumber ?x_InvalidSigns ?sa_InvalidSigns ?ga_InvalidSigns ?gt_InvalidSigns ?sb_InvalidSigns ?ty_InvalidSigns ?kp_InvalidSigns ?hd_InvalidSigns ?cl_InvalidSigns ?kl_InvalidSigns ?mo_InvalidSigns ?no_InvalidSigns ?ve_InvalidSigns ?me_InvalidSigns ?x_UnknownSign ?sa_UnknownSign ?ga_UnknownSign ?gt_UnknownSign ?sb_UnknownSign ?ty_UnknownSign ?kp_UnknownSign ?hd_UnknownSign ?cl_UnknownSign ?kl_UnknownSign ?mo_UnknownSign ?no_UnknownSign ?ve_UnknownSign ?me_UnknownSign ?x_InvalidMachine ?sa_InvalidMachine ?ga_InvalidMachine ?gt_InvalidMachine ?sb_InvalidMachine ?ty_InvalidMachine ?kp_InvalidMachine ?hd_InvalidMachine ?cl_InvalidMachine ?kl_InvalidMachine ?mo_InvalidMachine ?no_InvalidMachine ?ve_InvalidMachine ?me_InvalidMachine ?x_UnlikeSigns ?sa_UnlikeSigns ?ga_UnlikeSigns ?gt_UnlikeSigns ?sb_UnlikeSigns ?ty_UnlikeSigns ?kp_UnlikeSigns ?hd_UnlikeSigns ?cl_UnlikeSigns ?kl_UnlikeSigns ?mo_UnlikeSigns ?no_UnlikeSigns ?ve_UnlikeSigns ?me_UnlikeSigns ?gs_get ?tk_get ?i_err ?t_err ?l_err ?in_InvalidNumber ?sb_InvalidNumber_WorthError ?sb_InvalidNumber_InvalidNumber ?sb_InvalidNumber_InvalidSigns ?sb_InvalidNumber_UnknownSign ?sb_InvalidNumber_InvalidMachine ?sb_InvalidNumber_UnlikeSigns ?a_number ?l_number ?a__law_deck ?l__law_deck ?a__law_draw ?l__law_draw ?a__law_gcd ?l__law_gcd ?a__law_pair ?l__law_pair ?a__law_alike ?l__law_alike ?a__law_signed ?l__law_signed ?a__law_integers ?l__law_integers ?a__law_is_refused ?l__law_is_refused ?a_law ?l_law ?a_gcd ?z_ValueError ?z_abs ?z_bool ?z_int ?z_isinstance ?z_len ?z_list ?z_range ?z_str ?z_tuple ?z_zip
    (case a_WorthError => k_is)
    (case a_InvalidNumber => k_is)
    (case a_InvalidSigns => k_is)
    (case a_UnknownSign => k_is)
    (case a_InvalidMachine => k_is)
    (case a_UnlikeSigns => k_is)
    (case x_WorthError => exact ⟨_, _, _, _, _, _, _, _, _, _, _, _, _, _, by k_is⟩)
    (case sa_WorthError => k_is)
    (case ga_WorthError => k_is)
    (case gt_WorthError => k_is)
    (case sb_WorthError => k_is)
    (case ty_WorthError => k_is)
    (case kp_WorthError => k_is)
    (case hd_WorthError => k_is)
    (case cl_WorthError => k_is)
    (case kl_WorthError => k_is)
    (case mo_WorthError => k_is)
    (case no_WorthError => k_is)
    (case ve_WorthError => k_is)
    (case me_WorthError => k_is)
    (case x_InvalidNumber => exact ⟨_, _, _, _, _, _, _, _, _, _, _, _, _, _, by k_is⟩)
    (case sa_InvalidNumber => k_is)
    (case ga_InvalidNumber => k_is)
    (case gt_InvalidNumber => k_is)
    (case sb_InvalidNumber => k_is)
    (case ty_InvalidNumber => k_is)
    (case kp_InvalidNumber => k_is)
    (case hd_InvalidNumber => k_is)
    (case cl_InvalidNumber => k_is)
    (case kl_InvalidNumber => k_is)
    (case mo_InvalidNumber => k_is)
    (case no_InvalidNumber => k_is)
    (case ve_InvalidNumber => k_is)
    (case me_InvalidNumber => k_is)
    (case x_InvalidSigns => exact ⟨_, _, _, _, _, _, _, _, _, _, _, _, _, _, by k_is⟩)
    (case sa_InvalidSigns => k_is)
    (case ga_InvalidSigns => k_is)
    (case gt_InvalidSigns => k_is)
    (case sb_InvalidSigns => k_is)
    (case ty_InvalidSigns => k_is)
    (case kp_InvalidSigns => k_is)
    (case hd_InvalidSigns => k_is)
    (case cl_InvalidSigns => k_is)
    (case kl_InvalidSigns => k_is)
    (case mo_InvalidSigns => k_is)
    (case no_InvalidSigns => k_is)
    (case ve_InvalidSigns => k_is)
    (case me_InvalidSigns => k_is)
    (case x_UnknownSign => exact ⟨_, _, _, _, _, _, _, _, _, _, _, _, _, _, by k_is⟩)
    (case sa_UnknownSign => k_is)
    (case ga_UnknownSign => k_is)
    (case gt_UnknownSign => k_is)
    (case sb_UnknownSign => k_is)
    (case ty_UnknownSign => k_is)
    (case kp_UnknownSign => k_is)
    (case hd_UnknownSign => k_is)
    (case cl_UnknownSign => k_is)
    (case kl_UnknownSign => k_is)
    (case mo_UnknownSign => k_is)
    (case no_UnknownSign => k_is)
    (case ve_UnknownSign => k_is)
    (case me_UnknownSign => k_is)
    (case x_InvalidMachine => exact ⟨_, _, _, _, _, _, _, _, _, _, _, _, _, _, by k_is⟩)
    (case sa_InvalidMachine => k_is)
    (case ga_InvalidMachine => k_is)
    (case gt_InvalidMachine => k_is)
    (case sb_InvalidMachine => k_is)
    (case ty_InvalidMachine => k_is)
    (case kp_InvalidMachine => k_is)
    (case hd_InvalidMachine => k_is)
    (case cl_InvalidMachine => k_is)
    (case kl_InvalidMachine => k_is)
    (case mo_InvalidMachine => k_is)
    (case no_InvalidMachine => k_is)
    (case ve_InvalidMachine => k_is)
    (case me_InvalidMachine => k_is)
    (case x_UnlikeSigns => exact ⟨_, _, _, _, _, _, _, _, _, _, _, _, _, _, by k_is⟩)
    (case sa_UnlikeSigns => k_is)
    (case ga_UnlikeSigns => k_is)
    (case gt_UnlikeSigns => k_is)
    (case sb_UnlikeSigns => k_is)
    (case ty_UnlikeSigns => k_is)
    (case kp_UnlikeSigns => k_is)
    (case hd_UnlikeSigns => k_is)
    (case cl_UnlikeSigns => k_is)
    (case kl_UnlikeSigns => k_is)
    (case mo_UnlikeSigns => k_is)
    (case no_UnlikeSigns => k_is)
    (case ve_UnlikeSigns => k_is)
    (case me_UnlikeSigns => k_is)
    (case gs_get => k_is)
    (case tk_get => k_is)
    (case i_err => k_is)
    (case t_err => k_is)
    (case l_err => exact ⟨_, _, _, _, _, _, _, _, _, by k_is, by k_is, by k_is⟩)
    (case in_InvalidNumber => k_is)
    (case sb_InvalidNumber_WorthError => k_is)
    (case sb_InvalidNumber_InvalidNumber => k_is)
    (case sb_InvalidNumber_InvalidSigns => k_is)
    (case sb_InvalidNumber_UnknownSign => k_is)
    (case sb_InvalidNumber_InvalidMachine => k_is)
    (case sb_InvalidNumber_UnlikeSigns => k_is)
    (case a_number => k_is)
    (case l_number => exact ⟨_, _, _, _, _, _, _, _, _, by k_is, by k_is, by k_is⟩)
    (case a__law_deck => k_is)
    (case l__law_deck => exact ⟨_, _, _, _, _, _, _, _, _, by k_is, by k_is, by k_is⟩)
    (case a__law_draw => k_is)
    (case l__law_draw => exact ⟨_, _, _, _, _, _, _, _, _, by k_is, by k_is, by k_is⟩)
    (case a__law_gcd => k_is)
    (case l__law_gcd => exact ⟨_, _, _, _, _, _, _, _, _, by k_is, by k_is, by k_is⟩)
    (case a__law_pair => k_is)
    (case l__law_pair => exact ⟨_, _, _, _, _, _, _, _, _, by k_is, by k_is, by k_is⟩)
    (case a__law_alike => k_is)
    (case l__law_alike => exact ⟨_, _, _, _, _, _, _, _, _, by k_is, by k_is, by k_is⟩)
    (case a__law_signed => k_is)
    (case l__law_signed => exact ⟨_, _, _, _, _, _, _, _, _, by k_is, by k_is, by k_is⟩)
    (case a__law_integers => k_is)
    (case l__law_integers => exact ⟨_, _, _, _, _, _, _, _, _, by k_is, by k_is, by k_is⟩)
    (case a__law_is_refused => k_is)
    (case l__law_is_refused => exact ⟨_, _, _, _, _, _, _, _, _, by k_is, by k_is, by k_is⟩)
    (case a_law => k_is)
    (case l_law => exact ⟨_, _, _, _, _, _, _, _, _, by k_is, by k_is, by k_is⟩)
    (case a_gcd => k_is)
    (case z_ValueError => k_is)
    (case z_abs => k_is)
    (case z_bool => k_is)
    (case z_int => k_is)
    (case z_isinstance => k_is)
    (case z_len => k_is)
    (case z_list => k_is)
    (case z_range => k_is)
    (case z_str => k_is)
    (case z_tuple => k_is)
    (case z_zip => k_is)
