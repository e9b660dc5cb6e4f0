import PyProof.Rows.All
import Wide.All
import OpenK.AllK
import Wide.FinOn
import HandS.ForMost
import HandS.Exc
import HandS.WordsExc
import HandS.ExcInit
import HandS.ExcIs
import HandS.ExcField
import HandS.Gcd
import HandS.Wide
import HandS.More
import HandS.IsInst
import HandS.Codes
import HandS.EndBits
import HandS.TupAny
import HandS.Evl
import HandS.Zip
import KE.KExcIs
import HandS.ExcOwn
import HandS.CallSlots
import PySem.Challenge.RW_textworths_k02_sums_products_quotients_p
set_option Elab.async false
set_option linter.all false
set_option maxRecDepth 100000
set_option maxHeartbeats 4000000
namespace TW
open PySem PySem.Spec PyProof.Rows L2
/-! ### defs of the text, and calls of them -/
/-- the def st of the top, called x, stands under its name -/
structure DefAt (K : PySem.W.Frag) (mg : Str → Option Value) (x : Str) (st : Stmt) (ps : List Str) : Prop where
  ex : ∃ (f : Addr) (fd : FuncData), mg x = some (.ref f) ∧ Fun K x x st f fd ∧ Binds K fd ps []
/-- .. and keeps a promise -/
structure FnAt (P : Program) (w : World) (K : PySem.W.Frag) (mg : Str → Option Value) (base : Heap) (CX : CXT) (k : Nat) (x : Str) (st : Stmt) (ps : List Str) (sp : Sp) : Prop where
  ex : ∃ (f : Addr) (fd : FuncData), FnOk P w K mg base CX k f fd ps sp ∧ mg x = some (.ref f) ∧ Fun K x x st f fd ∧ Binds K fd ps []
/-- how keywords bind: those of ks, in their order, behind the positional ones -/
structure KB (st : Stmt) (ps ks : List Str) (g : List Value → List Value → List Value) (gV : List V → List V → List V) : Prop where
  to : ∀ (x qual : Str) (kV doc pm : Value) (an : Option Addr) (cdv ct : Value) (us ws : List Value), (g us ws).length = ps.length →
    bindArgs (PySem.W.fnOf x qual (defArgs st) (defBody st) (defScope st) .none kV doc pm an cdv ct) ⟨us, ks.zip ws⟩ = pure (ps.zip (g us ws))
  rel : ∀ {vs : List V} {us : List Value} {zs : List V} {ws : List Value}, Vals vs us → Vals zs ws → Vals (gV vs zs) (g us ws)
section
variable {P : Program} {w : World} {K : PySem.W.Frag} {mg : Str → Option Value} {base : Heap}
theorem mkFn {x : Str} {st : Stmt} {N ps : List Str} {k : Nat} {sp : Sp} (D : DefAt K mg x st ps) (S : FnScope N ps (defScope st)) (len : ∀ vs H Q E, sp vs H Q E → vs.length = ps.length)
    (hbody : ∀ (f : Addr) (cdv : Value) (A : Around) (outer : List Env) (s : Shared) (H : Hp) (vs : List V) (Q : VK) (E : XK), Room k (A.deeper (envOfC x (defScope st) s.heap.objs.size f cdv)) → sp vs H Q E →
      ∃ t, PSs (cxOf CX0 P w K mg base N x (defScope st) f cdv A outer s H E).nox (defBody st) t ∧ t { nx := fun _ H' => Q .non H', rt := Q } (start N vs) H) : FnAt P w K mg base CX0 (k + 1) x st ps sp := by
  obtain ⟨f, fd, h1, h2, h3⟩ := D.ex
  exact ⟨f, fd, h2.ok S len (hbody f), h1, h2, h3⟩
theorem mkFnX {x : Str} {st : Stmt} {N ps : List Str} {k : Nat} {sp : Sp} (D : DefAt K mg x st ps) (S : FnScope N ps (defScope st)) (len : ∀ vs H Q E, sp vs H Q E → vs.length = ps.length)
    (hbody : ∀ (f : Addr) (cdv : Value) (A : Around) (outer : List Env) (s : Shared) (H : Hp) (vs : List V) (Q : VK) (E : XK), Room k (A.deeper (envOfC x (defScope st) s.heap.objs.size f cdv)) → sp vs H Q E →
      ∃ t, PSs (cxOf (L2.CX P w) P w K mg base N x (defScope st) f cdv A outer s H E) (defBody st) t ∧ t { nx := fun _ H' => Q .non H', rt := Q } (start N vs) H) : FnAt P w K mg base (L2.CX P w) (k + 1) x st ps sp := by
  obtain ⟨f, fd, h1, h2, h3⟩ := D.ex
  exact ⟨f, fd, h2.okX S len (hbody f), h1, h2, h3⟩
theorem FnAt.mono {CX : CXT} {j k : Nat} {x : Str} {st : Stmt} {ps : List Str} {sp : Sp} (F : FnAt P w K mg base CX j x st ps sp) (h : j ≤ k) : FnAt P w K mg base CX k x st ps sp := by
  obtain ⟨f, fd, h0, h1⟩ := F.ex
  exact ⟨f, fd, h0.mono h, h1⟩
theorem FnAt.imp {CX : CXT} {k : Nat} {x : Str} {st : Stmt} {ps : List Str} {sp sp' : Sp} (F : FnAt P w K mg base CX k x st ps sp) (h : ∀ vs H Q E, sp' vs H Q E → sp vs H Q E) : FnAt P w K mg base CX k x st ps sp' := by
  obtain ⟨f, fd, h0, h1⟩ := F.ex
  exact ⟨f, fd, h0.imp h, h1⟩
theorem Fun.kb {x qual : Str} {st : Stmt} {f : Addr} {fd : FuncData} {ps ks : List Str} {g : List Value → List Value → List Value} {gV : List V → List V → List V} (F : Fun K x qual st f fd) (h : KB st ps ks g gV) : KBinds K fd ps ks g gV := by
  obtain ⟨oc, od, kV, doc, pm, an, cdv, ct, osl, rfl, lk, hcd⟩ := F.ex
  exact ⟨fun s us ws _ hl => .of_eq (h.to _ _ _ _ _ _ _ _ us ws hl), h.rel⟩
end
section
variable {X : Cx} {CX : CXT} {k j : Nat} {x : Str} {sp : Sp} {st : Stmt} {ps ks : List Str} {p pos : Pos} {e : Expr} {es : List Expr} {kws : List Keyword} {t tk : TA} {g : List Value → List Value → List Value} {gV : List V → List V → List V}
theorem pe_c (c : FnAt X.prog X.w X.K X.mg X.base CX0 k x st ps sp) (hr : Room j X.A) (hk : k ≤ j) (hg : Gl X x) (ha : PA X (e :: es) t)
    (hdb : (x == ("__debug__" : Str)) = false := by decide) (he : starEach (e :: es) X.env = (false, eval e X.env) :: starEach es X.env := by rfl) (hpl : (backTo pos (starEach es X.env)).any (·.1) = false := by rfl) :
    PE X (.Call (.Name x p) (e :: es) [] pos) (tCall sp [] E0 t) := by
  obtain ⟨f, fd, F, hm, fn, b⟩ := c.ex
  exact pe_call F (hr.mono hk) hg hm fn.kp b .nil pass0 ha hdb he hpl
/-- f(k = v, ..) -/
theorem pe_ck (c : FnAt X.prog X.w X.K X.mg X.base CX0 k x st ps sp) (kb : KB st ps ks g gV) (hr : Room j X.A) (hk : k ≤ j) (hg : Gl X x) (hkw : PK X kws tk)
    (hall : (backToKw pos (keywordEach kws X.env)).all (·.1.isSome) = true := by rfl) (hks : (backToKw pos (keywordEach kws X.env)).filterMap (·.1) = ks := by rfl) (hdb : (x == ("__debug__" : Str)) = false := by decide)
    (hpl : ((backTo pos (starEach [] X.env)).any (·.1) || (backToKw pos (keywordEach kws X.env)).any (·.1.isNone)) = false := by rfl) :
    PE X (.Call (.Name x p) [] kws pos) (tCallK sp gV E0 tNil tk) := by
  obtain ⟨f, fd, F, hm, fn, b⟩ := c.ex
  refine ⟨fun pins s σ H Q I h => ?_⟩
  refine wpAny_Call_Name_kw (ld_glob I hg hm ?_ hdb)
  refine PySem.W.callWith_KW0 (h₀ := X.base) I.ok.mod.kin fn.kp hall ?_ hpl
  refine thn (hkw.run pos pins s σ H _ I h) fun ws s2 ⟨zs, H2, I2, rz, q2⟩ => ⟨I2.kIn, ?_⟩
  rw [hks]
  exact run_fnk F (hr.mono hk) (Fun.kb fn kb) pass0 I2 .nil rz q2
/-- f(e, .., k = v, ..) -/
theorem pe_ckp (c : FnAt X.prog X.w X.K X.mg X.base CX0 k x st ps sp) (kb : KB st ps ks g gV) (hr : Room j X.A) (hk : k ≤ j) (hg : Gl X x) (ha : PA X (e :: es) t) (hkw : PK X kws tk)
    (hall : (backToKw pos (keywordEach kws X.env)).all (·.1.isSome) = true := by rfl) (hks : (backToKw pos (keywordEach kws X.env)).filterMap (·.1) = ks := by rfl) (hdb : (x == ("__debug__" : Str)) = false := by decide)
    (he : starEach (e :: es) X.env = (false, eval e X.env) :: starEach es X.env := by rfl)
    (hpl : ((backTo pos (starEach (e :: es) X.env)).any (·.1) || (backToKw pos (keywordEach kws X.env)).any (·.1.isNone)) = false := by rfl) :
    PE X (.Call (.Name x p) (e :: es) kws pos) (tCallK sp gV E0 t tk) := by
  obtain ⟨f, fd, F, hm, fn, b⟩ := c.ex
  exact pe_callK F (hr.mono hk) hg hm fn.kp (Fun.kb fn kb) pass0 ha hkw hall hks hdb he hpl
end
end TW

namespace TW
open PySem PySem.Spec PyProof.Rows L2
/-! ### readings, one step at a time -/
section
variable {K : PySem.W.Frag} {σ : L2.St} {H : Hp} {Q : VK} {i j : Nat} {x y v z : V} {ta tb te tc : TE} {t u : TS} {c d : TT} {g : TG} {nx bk ct : L2.St → Hp → Prop} {rt : VK} {xs ys : List V} {a b p : Addr} {m n : Int}
theorem x_seq (h : t ⟨u ⟨nx, rt, bk, ct⟩, rt, bk, ct⟩ σ H) : tSeq t u ⟨nx, rt, bk, ct⟩ σ H := h
theorem x_cut (Mid : L2.St → Hp → Prop) (h : t ⟨Mid, rt, bk, ct⟩ σ H) (h2 : ∀ σ' H', Mid σ' H' → u ⟨nx, rt, bk, ct⟩ σ' H') : Evl.tCut t u ⟨nx, rt, bk, ct⟩ σ H := ⟨Mid, h, h2⟩
theorem x_next (h : nx σ H) : tNext ⟨nx, rt, bk, ct⟩ σ H := h
theorem x_brk (h : bk σ H) : tBreak ⟨nx, rt, bk, ct⟩ σ H := h
theorem x_ct (h : ct σ H) : tCont ⟨nx, rt, bk, ct⟩ σ H := h
theorem x_asg (h : te σ H fun x H1 => g x σ H1 nx) : tAsg te g ⟨nx, rt, bk, ct⟩ σ H := h
theorem x_ret (h : te σ H rt) : tRet te ⟨nx, rt, bk, ct⟩ σ H := h
theorem x_retN (h : rt .non H) : tRetN ⟨nx, rt, bk, ct⟩ σ H := h
theorem x_drop (h : te σ H fun _ H1 => nx σ H1) : tDrop te ⟨nx, rt, bk, ct⟩ σ H := h
theorem x_ifs (h : c σ H fun b H1 => if b = true then t ⟨nx, rt, bk, ct⟩ σ H1 else u ⟨nx, rt, bk, ct⟩ σ H1) : tIfS c t u ⟨nx, rt, bk, ct⟩ σ H := h
theorem x_par {ta : TA} (h : ta σ H fun vs H1 => ∃ v w, vs = [v, w] ∧ nx ((σ.set i (some v)).set j (some w)) H1) : tPar i j ta ⟨nx, rt, bk, ct⟩ σ H := h
theorem x_par2 {r : V → V → Prop} (h : r v z) : ∃ v' w', [v, z] = [v', w'] ∧ r v' w' := ⟨v, z, rfl, h⟩
theorem x_while (W : Nat → L2.St → Hp → Prop) (m0 : Nat) (h0 : W m0 σ H) (hs : ∀ m σ H, W m σ H → c σ H fun b H1 => if b = true then t ⟨fun σ' H' => ∃ m', m' < m ∧ W m' σ' H', rt, nx, fun σ' H' => ∃ m', m' < m ∧ W m' σ' H'⟩ σ H1 else nx σ H1)
    (mono : ∀ σ H (Q Q' : Bool → Hp → Prop), (∀ b H1, Q b H1 → Q' b H1) → c σ H Q → c σ H Q') : tWhile c t ⟨nx, rt, bk, ct⟩ σ H :=
  ⟨W, ⟨m0, h0⟩, fun m σ H w => mono σ H _ _ (fun b H1 q => by
    cases b with
    | true => exact ⟨_, fun _ _ n => n, q⟩
    | false => exact q) (hs m σ H w)⟩
theorem x_for {wi : TI} (h : wi σ H fun J H1 => ∃ W : Nat → Nat → L2.St → Hp → Prop, (∃ m, W 0 m σ H1) ∧ ∀ i m σ H, W i m σ H →
  (J.stop i H ∧ nx σ H) ∨ (J.go i H ∧ ∃ N : L2.St → Hp → Prop, (∀ σ' H', N σ' H' → ∃ m', m' < m ∧ W (i + 1) m' σ' H') ∧ ∀ x H', J.yld i H x H' → g x σ H' fun σ2 H2 => t ⟨N, rt, nx, N⟩ σ2 H2)) : tFor wi g t ⟨nx, rt, bk, ct⟩ σ H := h
theorem x_iL {R : It → Hp → Prop} (h : ta σ H fun x H1 => ∃ a, x = .ref a ∧ (∃ xs, SqL K H1 a xs) ∧ R (Itl K a) H1) : iList K ta σ H R := h
theorem x_iT {R : It → Hp → Prop} (h : ta σ H fun x H1 => ∃ a, x = .ref a ∧ (∃ xs, SqT K H1 a xs) ∧ R (Itt K a) H1) : iTup K ta σ H R := h
theorem x_iR {R : It → Hp → Prop} {u : TA} (h : u σ H fun vs H1 => ∃ j : Int, vs = [.int j] ∧ -(2 ^ 62) ≤ j ∧ j < 2 ^ 62 ∧ R (Itr 0 j.toNat) H1) : iRng1 u σ H R := h
theorem x_iZ {R : It → Hp → Prop} {u : TA} (h : u σ H fun vs H1 => ∃ a b xs ys, vs = [.ref a, .ref b] ∧ SqL K H1 a xs ∧ SqL K H1 b ys ∧ R (Itz K a b) H1) : iZip K u σ H R := h
/-- for x in a list that the body leaves -/
theorem x_forL (s : SqL K H a xs) (Pv : Nat → L2.St → Hp → Prop) (h0 : Pv 0 σ H) (hl : ∀ i σ H, i ≤ xs.length → Pv i σ H → SqL K H a xs)
    (hs : ∀ i x σ H, xs[i]? = some x → Pv i σ H → g x σ H fun σ2 H2 => t ⟨Pv (i + 1), rt, nx, Pv (i + 1)⟩ σ2 H2) (hd : ∀ σ H, Pv xs.length σ H → nx σ H) :
    ∃ a', V.ref a = .ref a' ∧ (∃ xs, SqL K H a' xs) ∧ ∃ W : Nat → Nat → L2.St → Hp → Prop, (∃ m, W 0 m σ H) ∧ ∀ i m σ H, W i m σ H →
  ((Itl K a').stop i H ∧ nx σ H) ∨ ((Itl K a').go i H ∧ ∃ N : L2.St → Hp → Prop, (∀ σ' H', N σ' H' → ∃ m', m' < m ∧ W (i + 1) m' σ' H') ∧ ∀ x H', (Itl K a').yld i H x H' → g x σ H' fun σ2 H2 => t ⟨N, rt, nx, N⟩ σ2 H2) :=
  ⟨a, rfl, ⟨xs, s⟩, for_list (K := K) (a := a) (xs := xs) (D := ⟨nx, rt, fun _ _ => False, fun _ _ => False⟩) Pv h0 hl hs hd⟩
theorem x_forT (s : SqT K H a xs) (Pv : Nat → L2.St → Hp → Prop) (h0 : Pv 0 σ H) (hl : ∀ i σ H, i ≤ xs.length → Pv i σ H → SqT K H a xs)
    (hs : ∀ i x σ H, xs[i]? = some x → Pv i σ H → g x σ H fun σ2 H2 => t ⟨Pv (i + 1), rt, nx, Pv (i + 1)⟩ σ2 H2) (hd : ∀ σ H, Pv xs.length σ H → nx σ H) :
    ∃ a', V.ref a = .ref a' ∧ (∃ xs, SqT K H a' xs) ∧ ∃ W : Nat → Nat → L2.St → Hp → Prop, (∃ m, W 0 m σ H) ∧ ∀ i m σ H, W i m σ H →
  ((Itt K a').stop i H ∧ nx σ H) ∨ ((Itt K a').go i H ∧ ∃ N : L2.St → Hp → Prop, (∀ σ' H', N σ' H' → ∃ m', m' < m ∧ W (i + 1) m' σ' H') ∧ ∀ x H', (Itt K a').yld i H x H' → g x σ H' fun σ2 H2 => t ⟨N, rt, nx, N⟩ σ2 H2) :=
  ⟨a, rfl, ⟨xs, s⟩, for_tup (K := K) (a := a) (xs := xs) (D := ⟨nx, rt, fun _ _ => False, fun _ _ => False⟩) Pv h0 hl hs hd⟩
theorem x_forR {k : Nat} (hm : m = (k : Int)) (hk : k ≤ 1000000) (Pv : Nat → L2.St → Hp → Prop) (h0 : Pv 0 σ H)
    (hs : ∀ i σ H, i < k → Pv i σ H → g (.int (i : Int)) σ H fun σ2 H2 => t ⟨Pv (i + 1), rt, nx, Pv (i + 1)⟩ σ2 H2) (hd : ∀ σ H, Pv k σ H → nx σ H) :
    ∃ j : Int, [V.int m] = [.int j] ∧ -(2 ^ 62) ≤ j ∧ j < 2 ^ 62 ∧ ∃ W : Nat → Nat → L2.St → Hp → Prop, (∃ m, W 0 m σ H) ∧ ∀ i m σ H, W i m σ H →
  ((Itr 0 j.toNat).stop i H ∧ nx σ H) ∨ ((Itr 0 j.toNat).go i H ∧ ∃ N : L2.St → Hp → Prop, (∀ σ' H', N σ' H' → ∃ m', m' < m ∧ W (i + 1) m' σ' H') ∧ ∀ x H', (Itr 0 j.toNat).yld i H x H' → g x σ H' fun σ2 H2 => t ⟨N, rt, nx, N⟩ σ2 H2) := by
  subst hm
  refine ⟨_, rfl, by omega, by omega, ?_⟩
  have e : ((k : Int)).toNat = k := by omega
  rw [e]
  refine for_range (lo := 0) (n := k) (D := ⟨nx, rt, fun _ _ => False, fun _ _ => False⟩) Pv h0 (fun i σ H hi p => ?_) hd
  have e0 : (0 : Int) + (i : Int) = (i : Int) := Int.zero_add _
  rw [e0]
  exact hs i σ H hi p
theorem x_iZA {R : It → Hp → Prop} {u : TA} (h : u σ H fun vs H1 => ∃ a b xs ys, vs = [.ref a, .ref b] ∧ ((SqL K H1 a xs ∧ SqL K H1 b ys ∧ R (Itz K a b) H1) ∨ (SqT K H1 a xs ∧ SqT K H1 b ys ∧ R (RZ.ItzT K a b) H1))) : RZ.iZipA K u σ H R := h
/-- for x, y in zip(two lists | two tuples of one length) -/
theorem x_forZT (s1 : SqT K H a xs) (s2 : SqT K H b ys) (hl : xs.length = ys.length) (Pv : Nat → L2.St → Hp → Prop) (h0 : Pv 0 σ H) (hq : ∀ i σ H, Pv i σ H → SqT K H a xs ∧ SqT K H b ys)
    (hs : ∀ (i : Nat) (x y : V) (T : Addr) (σ : L2.St) (H : Hp), xs[i]? = some x → ys[i]? = some y → Pv i σ H → H T = none → g (.ref T) σ (upd H T (.tup [x, y])) fun σ2 H2 => t ⟨Pv (i + 1), rt, nx, Pv (i + 1)⟩ σ2 H2) (hd : ∀ σ H, Pv xs.length σ H → nx σ H) :
    ∃ a' b' xs' ys', [V.ref a, V.ref b] = [.ref a', .ref b'] ∧ ((SqL K H a' xs' ∧ SqL K H b' ys' ∧ ∃ W : Nat → Nat → L2.St → Hp → Prop, (∃ m, W 0 m σ H) ∧ ∀ i m σ H, W i m σ H →
  ((Itz K a' b').stop i H ∧ nx σ H) ∨ ((Itz K a' b').go i H ∧ ∃ N : L2.St → Hp → Prop, (∀ σ' H', N σ' H' → ∃ m', m' < m ∧ W (i + 1) m' σ' H') ∧ ∀ x H', (Itz K a' b').yld i H x H' → g x σ H' fun σ2 H2 => t ⟨N, rt, nx, N⟩ σ2 H2)) ∨
   (SqT K H a' xs' ∧ SqT K H b' ys' ∧ ∃ W : Nat → Nat → L2.St → Hp → Prop, (∃ m, W 0 m σ H) ∧ ∀ i m σ H, W i m σ H →
  ((RZ.ItzT K a' b').stop i H ∧ nx σ H) ∨ ((RZ.ItzT K a' b').go i H ∧ ∃ N : L2.St → Hp → Prop, (∀ σ' H', N σ' H' → ∃ m', m' < m ∧ W (i + 1) m' σ' H') ∧ ∀ x H', (RZ.ItzT K a' b').yld i H x H' → g x σ H' fun σ2 H2 => t ⟨N, rt, nx, N⟩ σ2 H2))) :=
  ⟨a, b, xs, ys, rfl, .inr ⟨s1, s2, RZ.for_zipT (K := K) (D := ⟨nx, rt, fun _ _ => False, fun _ _ => False⟩) hl Pv h0 hq hs hd⟩⟩
theorem x_forZL (s1 : SqL K H a xs) (s2 : SqL K H b ys) (hl : xs.length = ys.length) (Pv : Nat → L2.St → Hp → Prop) (h0 : Pv 0 σ H) (hq : ∀ i σ H, Pv i σ H → SqL K H a xs ∧ SqL K H b ys)
    (hs : ∀ (i : Nat) (x y : V) (T : Addr) (σ : L2.St) (H : Hp), xs[i]? = some x → ys[i]? = some y → Pv i σ H → H T = none → g (.ref T) σ (upd H T (.tup [x, y])) fun σ2 H2 => t ⟨Pv (i + 1), rt, nx, Pv (i + 1)⟩ σ2 H2) (hd : ∀ σ H, Pv xs.length σ H → nx σ H) :
    ∃ a' b' xs' ys', [V.ref a, V.ref b] = [.ref a', .ref b'] ∧ ((SqL K H a' xs' ∧ SqL K H b' ys' ∧ ∃ W : Nat → Nat → L2.St → Hp → Prop, (∃ m, W 0 m σ H) ∧ ∀ i m σ H, W i m σ H →
  ((Itz K a' b').stop i H ∧ nx σ H) ∨ ((Itz K a' b').go i H ∧ ∃ N : L2.St → Hp → Prop, (∀ σ' H', N σ' H' → ∃ m', m' < m ∧ W (i + 1) m' σ' H') ∧ ∀ x H', (Itz K a' b').yld i H x H' → g x σ H' fun σ2 H2 => t ⟨N, rt, nx, N⟩ σ2 H2)) ∨
   (SqT K H a' xs' ∧ SqT K H b' ys' ∧ ∃ W : Nat → Nat → L2.St → Hp → Prop, (∃ m, W 0 m σ H) ∧ ∀ i m σ H, W i m σ H →
  ((RZ.ItzT K a' b').stop i H ∧ nx σ H) ∨ ((RZ.ItzT K a' b').go i H ∧ ∃ N : L2.St → Hp → Prop, (∀ σ' H', N σ' H' → ∃ m', m' < m ∧ W (i + 1) m' σ' H') ∧ ∀ x H', (RZ.ItzT K a' b').yld i H x H' → g x σ H' fun σ2 H2 => t ⟨N, rt, nx, N⟩ σ2 H2))) :=
  ⟨a, b, xs, ys, rfl, .inl ⟨s1, s2, RZ.for_zipL (K := K) (D := ⟨nx, rt, fun _ _ => False, fun _ _ => False⟩) hl Pv h0 hq hs hd⟩⟩
/-- a, b = t -/
theorem x_gtup {R : L2.St → Hp → Prop} {u : TGs} {k : Nat} (s : SqT K H a xs) (e : xs.length = k) (h : u xs σ H R) : gTup K k u (.ref a) σ H R := ⟨a, xs, rfl, s, e, h⟩
theorem x_gcons {R : L2.St → Hp → Prop} {u : TGs} {vs : List V} (h : g v σ H fun σ' H' => u vs σ' H' R) : gCons g u (v :: vs) σ H R := ⟨v, vs, rfl, h⟩
theorem x_gnil {R : L2.St → Hp → Prop} (h : R σ H) : gNil [] σ H R := ⟨rfl, h⟩
theorem x_gname {R : L2.St → Hp → Prop} (h : R (σ.set i (some v)) H) : gName i v σ H R := h
theorem x_gsub {R : L2.St → Hp → Prop} {s : TSet} (h : ta σ H fun o H1 => tb σ H1 fun i H2 => s o i v H2 fun H3 => R σ H3) : gSub ta tb s v σ H R := h
theorem x_var (e : σ[i]? = some (some v)) (h : Q v H) : tVar i σ H Q := ⟨v, e, h⟩
theorem x_c (h : Q v H) : tC v σ H Q := h
theorem x_op {r : R2} (h : ta σ H fun x H1 => tb σ H1 fun y H2 => r x y H2 Q) : tOp r ta tb σ H Q := h
theorem x_un {r : V → Hp → VK → Prop} (h : ta σ H fun x H1 => r x H1 Q) : tUn r ta σ H Q := h
theorem x_rI0 {g : Int → Int → V} (h : Q (g m n) H) : rI0 g (.int m) (.int n) H Q := ⟨m, n, rfl, rfl, h⟩
theorem x_rI {C : Int → Int → Prop} {g : Int → Int → V} (c : C m n) (h : Q (g m n) H) : rI C g (.int m) (.int n) H Q := ⟨m, n, rfl, rfl, c, h⟩
theorem x_rU {g : Int → V} (h : Q (g m) H) : rU g (.int m) H Q := ⟨m, rfl, h⟩
theorem dec_v {m n : Int} : decide (V.int m = V.int n) = decide (m = n) := by
  rw [Bool.eq_iff_iff]
  simp
theorem dec_s {m n : Str} : decide (V.str m = V.str n) = decide (m = n) := by
  rw [Bool.eq_iff_iff]
  simp
theorem x_rEqI (h : Q (.bl (decide (m = n))) H) : rEq (.int m) (.int n) H Q := ⟨rfl, by rw [dec_v]; exact h⟩
theorem x_rNeI (h : Q (.bl (!decide (m = n))) H) : rNe (.int m) (.int n) H Q := ⟨rfl, by rw [dec_v]; exact h⟩
theorem x_rEqS {m n : Str} (h : Q (.bl (decide (m = n))) H) : rEq (.str m) (.str n) H Q := ⟨rfl, by rw [dec_s]; exact h⟩
theorem x_rNeS {m n : Str} (h : Q (.bl (!decide (m = n))) H) : rNe (.str m) (.str n) H Q := ⟨rfl, by rw [dec_s]; exact h⟩
theorem x_rEqB {m n : Bool} (h : Q (.bl (decide (m = n))) H) : rEq (.bl m) (.bl n) H Q := ⟨rfl, by rw [show decide (V.bl m = V.bl n) = decide (m = n) by rw [Bool.eq_iff_iff]; simp]; exact h⟩
theorem x_rNeB {m n : Bool} (h : Q (.bl (!decide (m = n))) H) : rNe (.bl m) (.bl n) H Q := ⟨rfl, by rw [show decide (V.bl m = V.bl n) = decide (m = n) by rw [Bool.eq_iff_iff]; simp]; exact h⟩
theorem x_rEqIe (h : Q (.bl true) H) : rEq (.int m) (.int m) H Q := ⟨rfl, by rw [decide_eq_true rfl]; exact h⟩
theorem x_rNeIe (h : Q (.bl false) H) : rNe (.int m) (.int m) H Q := ⟨rfl, by rw [decide_eq_true rfl]; exact h⟩
theorem x_rEqSe {m : Str} (h : Q (.bl true) H) : rEq (.str m) (.str m) H Q := ⟨rfl, by rw [decide_eq_true rfl]; exact h⟩
theorem x_rNeSe {m : Str} (h : Q (.bl false) H) : rNe (.str m) (.str m) H Q := ⟨rfl, by rw [decide_eq_true rfl]; exact h⟩
theorem x_rEqBe {m : Bool} (h : Q (.bl true) H) : rEq (.bl m) (.bl m) H Q := ⟨rfl, by rw [decide_eq_true rfl]; exact h⟩
theorem x_rNeBe {m : Bool} (h : Q (.bl false) H) : rNe (.bl m) (.bl m) H Q := ⟨rfl, by rw [decide_eq_true rfl]; exact h⟩
theorem x_test {R : Bool → Hp → Prop} (h : te σ H fun x H' => ∃ k, x = .bl k ∧ R k H') : tTest te σ H R := h
theorem x_B {R : Bool → Hp → Prop} (h : te σ H fun x H' => ∃ k, x = .bl k ∧ R k H') : tB te σ H R := h
theorem x_bl {k : Bool} {R : Bool → Prop} (h : R k) : ∃ k', V.bl k = .bl k' ∧ R k' := ⟨k, rfl, h⟩
theorem x_ite {c A B : Prop} {inst : Decidable c} (h1 : c → A) (h2 : ¬ c → B) : if decide c = true then A else B := by
  by_cases h : c
  · rw [decide_eq_true h, if_pos rfl]
    exact h1 h
  · rw [decide_eq_false h, if_neg Bool.false_ne_true]
    exact h2 h
theorem x_iteT {c A B : Prop} {inst : Decidable c} (h : c) (h1 : A) : if decide c = true then A else B := x_ite (fun _ => h1) fun z => absurd h z
theorem x_iteF {c A B : Prop} {inst : Decidable c} (h : ¬ c) (h2 : B) : if decide c = true then A else B := x_ite (fun z => absurd z h) fun _ => h2
theorem x_iteN {c A B : Prop} {inst : Decidable c} (h1 : ¬ c → A) (h2 : c → B) : if (!decide c) = true then A else B := by
  by_cases h : c
  · rw [decide_eq_true h]
    exact h2 h
  · rw [decide_eq_false h]
    exact h1 h
theorem x_iteNT {c A B : Prop} {inst : Decidable c} (h : ¬ c) (h1 : A) : if (!decide c) = true then A else B := x_iteN (fun _ => h1) fun z => absurd z h
theorem x_iteNF {c A B : Prop} {inst : Decidable c} (h : c) (h2 : B) : if (!decide c) = true then A else B := x_iteN (fun z => absurd h z) fun _ => h2
theorem x_ite0 {k : Bool} {A B : Prop} (h1 : k = true → A) (h2 : k = false → B) : if k = true then A else B := by
  cases k with
  | true => exact h1 rfl
  | false => exact h2 rfl
theorem x_nT {A B : Prop} (h : B) : if (!true) = true then A else B := iteF h
theorem x_nF {A B : Prop} (h : A) : if (!false) = true then A else B := iteT h
theorem x_and {R : Bool → Hp → Prop} (h : c σ H fun k H1 => if k = true then d σ H1 R else R false H1) : tAnd c d σ H R := h
theorem x_or {R : Bool → Hp → Prop} (h : c σ H fun k H1 => if k = true then R true H1 else d σ H1 R) : tOr c d σ H R := h
theorem x_not {R : Bool → Hp → Prop} (h : c σ H fun k H1 => R (!k) H1) : tNot c σ H R := h
theorem x_andV (h : ta σ H fun x H1 => ∃ k, x = .bl k ∧ if k = true then tb σ H1 Q else Q (.bl false) H1) : tAndV ta tb σ H Q := h
theorem x_orV (h : ta σ H fun x H1 => ∃ k, x = .bl k ∧ if k = true then Q (.bl true) H1 else tb σ H1 Q) : tOrV ta tb σ H Q := h
theorem x_notV (h : ta σ H fun x H1 => ∃ k, x = .bl k ∧ Q (.bl (!k)) H1) : tNotV ta σ H Q := h
theorem x_ifE (h : c σ H fun k H1 => if k = true then ta σ H1 Q else tb σ H1 Q) : tIf c ta tb σ H Q := h
theorem x_nil {R : List V → Hp → Prop} (h : R [] H) : tNil σ H R := h
theorem x_cons {R : List V → Hp → Prop} {tr : TA} (h : ta σ H fun x H1 => tr σ H1 fun xs H2 => R (x :: xs) H2) : tCons ta tr σ H R := h
theorem x_call {sp : Sp} {E : XK} {t : TA} (h : t σ H fun vs H1 => sp vs H1 Q E) : tCall sp [] E t σ H Q := by
  show t σ H fun vs H1 => sp (vs ++ []) H1 Q E
  simp only [List.append_nil]
  exact h
theorem x_callK {sp : Sp} {gV : List V → List V → List V} {E : XK} {t tk : TA} (h : t σ H fun vs H1 => tk σ H1 fun zs H2 => sp (gV vs zs) H2 Q E) : tCallK sp gV E t tk σ H Q := h
theorem x_CB {r : List V → Hp → VK → Prop} {t : TA} (h : t σ H fun vs H1 => r vs H1 Q) : tCB r t σ H Q := h
theorem x_tup {t : TA} (h : t σ H fun xs H1 => xs.length ≤ sizeLine ∧ ∀ p, H1 p = none → Q (.ref p) (upd H1 p (.tup xs))) : tTup t σ H Q := h
theorem x_lst {t : TA} (h : t σ H fun xs H1 => xs.length ≤ sizeLine ∧ ∀ p, H1 p = none → Q (.ref p) (upd H1 p (.lst xs))) : tLst t σ H Q := h
theorem x_ixL {k : Int} (s : SqL K H p xs) (e : atI xs k = some v) (h : Q v H) : rIxL K (.ref p) (.int k) H Q := ⟨p, xs, k, v, rfl, rfl, s, e, h⟩
theorem x_ixT {k : Int} (s : SqT K H p xs) (e : atI xs k = some v) (h : Q v H) : rIxT K (.ref p) (.int k) H Q := ⟨p, xs, k, v, rfl, rfl, s, e, h⟩
theorem x_setL {k : Int} {q : Nat} {R : Hp → Prop} (s : H p = some (.lst xs)) (e : ixN xs.length k = some q) (h : R (upd H p (.lst (xs.set q v)))) : rSetL (.ref p) (.int k) v H R := ⟨p, xs, k, q, rfl, rfl, s, e, h⟩
/-- xs.pop(), the list not empty -/
theorem x_pop0 (s : H p = some (.lst xs)) (e : xs.getLast? = some v) (h : Q v (upd H p (.lst xs.dropLast))) : tyV K "list" (.ref p) H ∧ rPop (.ref p) [] H Q :=
  ⟨.inl ⟨rfl, _, SqL.of s⟩, p, xs, v, rfl, rfl, s, by rw [← e, List.getLast?_eq_getElem?], h⟩
theorem x_BM0 {T : String} {r : V → List V → Hp → VK → Prop} (h : ta σ H fun x H1 => tyV K T x H1 ∧ r x [] H1 Q) : tBM0 K T r ta σ H Q := h
theorem x_BM {T : String} {r : V → List V → Hp → VK → Prop} {t : TA} (h : ta σ H fun x H1 => tyV K T x H1 ∧ t σ H1 fun xs H2 => r x xs H2 Q) : tBM K T r ta t σ H Q := h
end
/-! ### readings with a name -/
/-- // by any divisor but 0, below 2 ^ 9000 -/
def CDivWN (_ j : Int) : Prop := j ≠ 0 ∧ j.natAbs.log2 < 9000
def rIntC : List V → Hp → VK → Prop := fun xs H Q => (∃ i, xs = [.int i] ∧ Q (.int i) H) ∨ ∃ k, xs = [.bl k] ∧ Q (.int (if k then 1 else 0)) H
def rAbsC : List V → Hp → VK → Prop := fun xs H Q => ∃ i, xs = [.int i] ∧ Q (.int (if i < 0 then -i else i)) H
def rLenC (K : PySem.W.Frag) : List V → Hp → VK → Prop := fun xs H Q => ∃ p ys, xs = [.ref p] ∧ (SqL K H p ys ∨ SqT K H p ys) ∧ Q (.int ys.length) H
def rLenSC : List V → Hp → VK → Prop := fun xs H Q => ∃ z, xs = [.str z] ∧ z.length ≤ sizeLine ∧ Q (.int z.length) H
def rListC (K : PySem.W.Frag) : List V → Hp → VK → Prop := fun xs H Q => ∃ p ys, xs = [.ref p] ∧ (SqL K H p ys ∨ SqT K H p ys) ∧ ∀ l, H l = none → Q (.ref l) (upd H l (.lst ys))
def rTupleC (K : PySem.W.Frag) : List V → Hp → VK → Prop := fun xs H Q => ∃ p ys, xs = [.ref p] ∧ ((SqL K H p ys ∧ ∀ l, H l = none → Q (.ref l) (upd H l (.tup ys))) ∨ (SqT K H p ys ∧ Q (.ref p) H))
def rMin2C : List V → Hp → VK → Prop := fun xs H Q => ∃ i j, xs = [.int i, .int j] ∧ Q (.int (if j < i then j else i)) H
def rMax2C : List V → Hp → VK → Prop := fun xs H Q => ∃ i j, xs = [.int i, .int j] ∧ Q (.int (if j > i then j else i)) H
def rIsNC : R2 := fun x y H Q => y = .non ∧ Q (.bl (decide (x = .non))) H
def rNotNC : R2 := fun x y H Q => y = .non ∧ Q (.bl (!decide (x = .non))) H
def rLtSC : R2 := fun x y H Q => ∃ i j, x = .str i ∧ y = .str j ∧ Q (.bl (decide (i.cps.toList < j.cps.toList))) H
def rLeSC : R2 := fun x y H Q => ∃ i j, x = .str i ∧ y = .str j ∧ Q (.bl (!decide (j.cps.toList < i.cps.toList))) H
def rInSC : R2 := fun x y H Q => ∃ (c : Nat) (z : Str), x = .str ⟨#[c]⟩ ∧ y = .str z ∧ Q (.bl (decide (c ∈ z.cps.toList))) H
def rNotInSC : R2 := fun x y H Q => ∃ (c : Nat) (z : Str), x = .str ⟨#[c]⟩ ∧ y = .str z ∧ Q (.bl (!decide (c ∈ z.cps.toList))) H
def rInsertC : V → List V → Hp → VK → Prop := fun x vs H Q => ∃ (l : Addr) (xs : List V) (i : Int) (y : V), x = .ref l ∧ vs = [.int i, y] ∧ H l = some (.lst xs) ∧ xs.length < sizeLine ∧ 0 ≤ i ∧ i < 2 ^ 63 ∧ Q .non (upd H l (.lst (xs.take i.toNat ++ [y] ++ xs.drop i.toNat)))
section
variable {X : Cx}
theorem op_isNC : OpR X (compareOp .Is) rIsNC := op_isN
theorem op_notNC : OpR X (compareOp .IsNot) rNotNC := op_notN
theorem op_ltSC : OpR X (compareOp .Lt) rLtSC := op_lt_str
theorem op_leSC : OpR X (compareOp .LtE) rLeSC := op_le_str
theorem op_inSC : OpR X (compareOp .In) rInSC := op_in_sign
theorem op_notInSC : OpR X (compareOp .NotIn) rNotInSC := op_notIn_sign
theorem call_int : CallR X (.type "int") rIntC := call_int1
theorem call_absC : CallR X (.builtin "abs") rAbsC := call_abs
theorem call_len_seqC : CallR X (.builtin "len") (rLenC X.K) := call_len_seq
theorem call_len_strC : CallR X (.builtin "len") rLenSC := call_len_str
theorem call_listC : CallR X (.type "list") (rListC X.K) := call_list_of
theorem call_tupleC : CallR X (.type "tuple") (rTupleC X.K) := call_tuple_of
theorem call_min2C (hc : X.calm = true) : CallR X (.builtin "min") rMin2C := call_min2 hc
theorem call_max2C (hc : X.calm = true) : CallR X (.builtin "max") rMax2C := call_max2 hc
theorem op_fdivWN : OpR X (binaryOp .FloorDiv) (rI CDivWN fun i j => .int (i.fdiv j)) := opI fun i j _ _ _ _ _ hc q => floordiv_int hc.1 q (.inl (PyProof.noPylong_of_log2 hc.2))
theorem mt_insertC : MtR X "list.insert" rInsertC := mt_insert
end
section
variable {K : PySem.W.Frag} {H : Hp} {Q : VK} {p : Addr} {m n : Int} {xs : List V} {k : Bool}
theorem x_isN0 (h : Q (.bl true) H) : rIsNC .non .non H Q := ⟨rfl, h⟩
theorem x_isNi (h : Q (.bl false) H) : rIsNC (.int m) .non H Q := ⟨rfl, by rw [show decide (V.int m = V.non) = false from decide_eq_false (by intro z; cases z)]; exact h⟩
theorem x_isNb (h : Q (.bl false) H) : rIsNC (.bl k) .non H Q := ⟨rfl, by rw [show decide (V.bl k = V.non) = false from decide_eq_false (by intro z; cases z)]; exact h⟩
theorem x_isNs {z : Str} (h : Q (.bl false) H) : rIsNC (.str z) .non H Q := ⟨rfl, by rw [show decide (V.str z = V.non) = false from decide_eq_false (by intro z; cases z)]; exact h⟩
theorem x_isNr (h : Q (.bl false) H) : rIsNC (.ref p) .non H Q := ⟨rfl, by rw [show decide (V.ref p = V.non) = false from decide_eq_false (by intro z; cases z)]; exact h⟩
theorem x_ltS {i j : Str} (h : Q (.bl (decide (i.cps.toList < j.cps.toList))) H) : rLtSC (.str i) (.str j) H Q := ⟨i, j, rfl, rfl, h⟩
theorem x_leS {i j : Str} (h : Q (.bl (!decide (j.cps.toList < i.cps.toList))) H) : rLeSC (.str i) (.str j) H Q := ⟨i, j, rfl, rfl, h⟩
theorem x_int1 (h : Q (.int m) H) : rIntC [.int m] H Q := .inl ⟨m, rfl, h⟩
theorem x_intB (h : Q (.int (if k then 1 else 0)) H) : rIntC [.bl k] H Q := .inr ⟨k, rfl, h⟩
theorem x_abs (h : Q (.int (m.natAbs : Int)) H) : rAbsC [.int m] H Q := ⟨m, rfl, by
  have e : (if m < 0 then -m else m) = (m.natAbs : Int) := by split <;> omega
  rw [e]
  exact h⟩
theorem x_lenL (s : SqL K H p xs) (h : Q (.int xs.length) H) : rLenC K [.ref p] H Q := ⟨p, xs, rfl, .inl s, h⟩
theorem x_lenT (s : SqT K H p xs) (h : Q (.int xs.length) H) : rLenC K [.ref p] H Q := ⟨p, xs, rfl, .inr s, h⟩
theorem x_lenS {z : Str} (s : z.length ≤ sizeLine) (h : Q (.int z.length) H) : rLenSC [.str z] H Q := ⟨z, rfl, s, h⟩
theorem x_listL (s : SqL K H p xs) (h : ∀ l, H l = none → Q (.ref l) (upd H l (.lst xs))) : rListC K [.ref p] H Q := ⟨p, xs, rfl, .inl s, h⟩
theorem x_listT (s : SqT K H p xs) (h : ∀ l, H l = none → Q (.ref l) (upd H l (.lst xs))) : rListC K [.ref p] H Q := ⟨p, xs, rfl, .inr s, h⟩
theorem x_min2 (h : Q (.int (if n < m then n else m)) H) : rMin2C [.int m, .int n] H Q := ⟨m, n, rfl, h⟩
theorem x_max2 (h : Q (.int (if n > m then n else m)) H) : rMax2C [.int m, .int n] H Q := ⟨m, n, rfl, h⟩
theorem x_gcd (h : Q (.int ((Nat.gcd m.natAbs n.natAbs : Nat) : Int)) H) : rGcd [.int m, .int n] H Q := ⟨m, n, rfl, h⟩
theorem x_ins0 {v : V} (s : H p = some (.lst xs)) (z : xs.length ≤ 1000) (h : Q .non (upd H p (.lst (v :: xs)))) : rInsertC (.ref p) [.int 0, v] H Q :=
  ⟨p, xs, 0, v, rfl, rfl, s, Nat.lt_of_le_of_lt z (by decide), by decide, by decide, h⟩
theorem x_app {v : V} (s : H p = some (.lst xs)) (z : xs.length ≤ 100000) (h : Q .non (upd H p (.lst (xs ++ [v])))) : rAppend (.ref p) [v] H Q := ⟨p, xs, v, rfl, rfl, s, Nat.lt_of_le_of_lt z (by decide), h⟩
theorem x_ty {R : Prop} (s : SqL K H p xs) (h : R) : tyV K "list" (.ref p) H ∧ R := ⟨.inl ⟨rfl, _, s⟩, h⟩
theorem cmulL (h1 : -18446744073709551616 < m) (h2 : m < 18446744073709551616) : CMul m n := .inl ⟨by omega, by omega⟩
theorem cmulR (h1 : -18446744073709551616 < n) (h2 : n < 18446744073709551616) : CMul m n := .inr ⟨by omega, by omega⟩
theorem cpow (h0 : 0 ≤ n) (h1 : n ≤ 1000000) (h2 : -18446744073709551616 < m) (h3 : m < 18446744073709551616) : CPow m n := ⟨h0, h1, by omega⟩
theorem cdivWN (h0 : n ≠ 0) (h1 : n.natAbs < 2 ^ 8999) : CDivWN m n := ⟨h0, Nat.lt_of_lt_of_le (PySem.Flt.log2_lt_of (by decide) h1) (by decide)⟩
theorem cdivW (h0 : 0 < n) (h1 : n.natAbs < 2 ^ 8999) : CDivW m n := wide_div h0 h1 (by decide) (by decide)
end
/-! ### isinstance of built-in types -/
theorem kI_NoneType_bool : kitB "NoneType" "bool" = some false := by decide +kernel
theorem kI_NoneType_int : kitB "NoneType" "int" = some false := by decide +kernel
theorem kI_NoneType_str : kitB "NoneType" "str" = some false := by decide +kernel
theorem kI_NoneType_list : kitB "NoneType" "list" = some false := by decide +kernel
theorem kI_NoneType_tuple : kitB "NoneType" "tuple" = some false := by decide +kernel
theorem kI_NoneType_dict : kitB "NoneType" "dict" = some false := by decide +kernel
theorem kI_bool_bool : kitB "bool" "bool" = some true := by decide +kernel
theorem kI_bool_int : kitB "bool" "int" = some true := by decide +kernel
theorem kI_bool_str : kitB "bool" "str" = some false := by decide +kernel
theorem kI_bool_list : kitB "bool" "list" = some false := by decide +kernel
theorem kI_bool_tuple : kitB "bool" "tuple" = some false := by decide +kernel
theorem kI_bool_dict : kitB "bool" "dict" = some false := by decide +kernel
theorem kI_int_bool : kitB "int" "bool" = some false := by decide +kernel
theorem kI_int_int : kitB "int" "int" = some true := by decide +kernel
theorem kI_int_str : kitB "int" "str" = some false := by decide +kernel
theorem kI_int_list : kitB "int" "list" = some false := by decide +kernel
theorem kI_int_tuple : kitB "int" "tuple" = some false := by decide +kernel
theorem kI_int_dict : kitB "int" "dict" = some false := by decide +kernel
theorem kI_str_bool : kitB "str" "bool" = some false := by decide +kernel
theorem kI_str_int : kitB "str" "int" = some false := by decide +kernel
theorem kI_str_str : kitB "str" "str" = some true := by decide +kernel
theorem kI_str_list : kitB "str" "list" = some false := by decide +kernel
theorem kI_str_tuple : kitB "str" "tuple" = some false := by decide +kernel
theorem kI_str_dict : kitB "str" "dict" = some false := by decide +kernel
theorem kI_list_bool : kitB "list" "bool" = some false := by decide +kernel
theorem kI_list_int : kitB "list" "int" = some false := by decide +kernel
theorem kI_list_str : kitB "list" "str" = some false := by decide +kernel
theorem kI_list_list : kitB "list" "list" = some true := by decide +kernel
theorem kI_list_tuple : kitB "list" "tuple" = some false := by decide +kernel
theorem kI_list_dict : kitB "list" "dict" = some false := by decide +kernel
theorem kI_tuple_bool : kitB "tuple" "bool" = some false := by decide +kernel
theorem kI_tuple_int : kitB "tuple" "int" = some false := by decide +kernel
theorem kI_tuple_str : kitB "tuple" "str" = some false := by decide +kernel
theorem kI_tuple_list : kitB "tuple" "list" = some false := by decide +kernel
theorem kI_tuple_tuple : kitB "tuple" "tuple" = some true := by decide +kernel
theorem kI_tuple_dict : kitB "tuple" "dict" = some false := by decide +kernel
theorem kI_dict_bool : kitB "dict" "bool" = some false := by decide +kernel
theorem kI_dict_int : kitB "dict" "int" = some false := by decide +kernel
theorem kI_dict_str : kitB "dict" "str" = some false := by decide +kernel
theorem kI_dict_list : kitB "dict" "list" = some false := by decide +kernel
theorem kI_dict_tuple : kitB "dict" "tuple" = some false := by decide +kernel
theorem kI_dict_dict : kitB "dict" "dict" = some true := by decide +kernel
end TW

namespace TW
open PySem PySem.Spec PyProof.Rows L2
/-! ### exceptions that are caught and kept -/
/-- what a class of errors must say of itself -/
structure ErrC (K : PySem.W.Frag) (D : Addr) : Prop where
  cl : (PySem.W.clsIn K D).isSome = true
  ga : PySem.W.findIn K (.ref D) "__getattribute__" = some (some (.builtin "BaseException.__getattribute__"))
  gt : PySem.W.findIn K (.ref D) "__getattr__" = some none
  sb : PySem.W.subIn K (.ref D) (.type "BaseException") = some true
  hd : PySem.W.hasDictIn K D = true
  kl : PySem.W.findIn K (.ref D) "__class__" = some (some (.builtin "object.__class__"))
  gs : PySem.W.specialIn K (.builtin "object.__class__") "__get__" = some (some (.builtin "getset_descriptor.__get__"))
  tk : PySem.W.takesIn K (.builtin "object.__class__") = some true
  mo : PySem.W.mroIn K D (.type "object") = some true
  no : PySem.W.findIn K (.ref D) "value" = some none
  ex : OexC K D
  me : PySem.W.subIn K (.ref D) (.ref D) = some true
  ve : PySem.W.subIn K (.ref D) (.type "ValueError") = some true
/-- at a: a caught exception of the class cls, its own dict at d -/
def exk (a : Addr) (cls : Value) (d : Option Addr) : HO := .ext fun h => ∃ (oe : Obj) (vs : Array Value), h.get? a = some oe ∧ oe.cls = cls ∧ oe.dict = d ∧ oe.data = .fields vs
theorem exk_ok {P : Program} {w : World} {H : Hp} {h : Heap} {a : Addr} {cls : Value} {d : Option Addr} {oe : Obj} {vs : Array Value} (e : h.get? a = some oe) (c : oe.cls = cls) (k : oe.dict = d) (f : oe.data = .fields vs) : ObjOk P w H h a (exk a cls d) :=
  ⟨⟨oe, vs, e, c, k, f⟩, ⟨oe, e⟩, fun _ _ ⟨o, v, q, r⟩ m => ⟨o, v, m o q, r⟩⟩
theorem exk_at {P : Program} {w : World} {H : Hp} {h : Heap} {a : Addr} {cls : Value} {d : Option Addr} (x : HOk P w H h) (e : H a = some (exk a cls d)) : ∃ (oe : Obj) (vs : Array Value), h.get? a = some oe ∧ oe.cls = cls ∧ oe.dict = d ∧ oe.data = .fields vs := by
  have y : ObjOk P w H h a (exk a cls d) := x a _ e
  exact y.1
section
variable {X : Cx} {pins : List (Addr × Obj)} {σ : L2.St} {H : Hp} {s : Shared}
/-- an exception at a stands as an instance, its dict as a namespace -/
theorem inst_of {a D d : Addr} {fs : List (Str × V)} (I : Inv X pins σ H s) (e : H a = some (exk a (.ref D) (some d))) (k : H d = some (.xd fs)) :
    ∃ (oe od : Obj) (mA : Str → Option Value), PySem.W.InstAt s.heap a oe D (some od) ∧ (∀ name, PySem.W.lookIn name od = some (mA name)) ∧ ∀ f, RelO (fs.lookup f) (mA f) := by
  obtain ⟨oe, vs, h1, h2, h3, h4⟩ := exk_at I.hok e
  have y : ObjOk X.prog X.w H s.heap d (.xd fs) := I.hok d _ k
  obtain ⟨mA, hns, hr⟩ := y
  obtain ⟨od, ho, hl⟩ := lookIn_ns hns
  exact ⟨oe, od, mA, ⟨h1, h2, by unfold PySem.W.notCls; rw [h4] <;> rfl, by rw [h3]; exact ho⟩, hl, hr⟩
/-- isinstance(e, c), e a caught exception that is kept -/
def rIsX (K : PySem.W.Frag) : List V → Hp → VK → Prop := fun xs H Q => ∃ (a D d : Addr) (fs : List (Str × V)) (c : V) (u : Value) (b : Bool), xs = [.ref a, c] ∧ ErrC K D ∧ H a = some (exk a (.ref D) (some d)) ∧ H d = some (.xd fs) ∧ ClsV c u ∧ PySem.W.kitOne K (.ref D) u = some b ∧ Q (.bl b) H
theorem call_isX : CallR X (.builtin "isinstance") (rIsX X.K) := by
  intro pins s σ H xs us Q I r h
  obtain ⟨a, D, d, fs, c, u, b, rfl, C, e, k, hc, z, q⟩ := h
  obtain ⟨u1, u2, rfl, r1, r2⟩ := vals2 r
  obtain rfl : u2 = u := hc.eq r2
  obtain rfl : u1 = Value.ref a := r1
  obtain ⟨oe, od, mA, J, _⟩ := inst_of I e k
  exact PySem.W.kia_one (PySem.W.kitx_exc (x := a) (ox := oe) (od := some od) C.cl C.ga C.gt C.sb C.kl C.gs C.tk C.mo) I.kIn J z (fun z => nomatch z) fun tk => ⟨.bl b, H, I.tok tk, rfl, q⟩
/-- isinstance(e, (c1, c2, ..)) -/
def rIsXT (K : PySem.W.Frag) : List V → Hp → VK → Prop := fun xs H Q => ∃ (a D d tp : Addr) (fs : List (Str × V)) (cs : List V) (us : List Value) (b : Bool), xs = [.ref a, .ref tp] ∧ ErrC K D ∧ H a = some (exk a (.ref D) (some d)) ∧ H d = some (.xd fs) ∧
  H tp = some (.tup cs) ∧ Paired ClsV cs us ∧ PySem.W.kitAny K (.ref D) us = some b ∧ Q (.bl b) H
theorem call_isXT : CallR X (.builtin "isinstance") (rIsXT X.K) := by
  intro pins s σ H xs us Q I r h
  obtain ⟨a, D, d, tp, fs, cs, ws, b, rfl, C, e, k, ht, hc, z, q⟩ := h
  obtain ⟨u1, u2, rfl, r1, r2⟩ := vals2 r
  obtain rfl : u2 = Value.ref tp := r2
  obtain rfl : u1 = Value.ref a := r1
  obtain ⟨oe, od, mA, J, _⟩ := inst_of I e k
  have y : ObjOk X.prog X.w H s.heap tp (.tup cs) := I.hok tp _ ht
  obtain ⟨_, its, rv, o, h1, h2, n, h3⟩ := y
  have e3 := ClsV.all hc rv
  subst e3
  obtain ⟨oc, odd, dt, sl⟩ := o
  simp only at h2 h3
  subst h2 h3
  exact PySem.W.kia_tup (PySem.W.kitx_exc (x := a) (ox := oe) (od := some od) C.cl C.ga C.gt C.sb C.kl C.gs C.tk C.mo) I.kIn J h1 z (fun z => nomatch z) fun tk => ⟨.bl b, H, I.tok tk, rfl, q⟩
/-- e.value of a caught exception that is kept -/
def tXv (K : PySem.W.Frag) (te : TE) : TE := fun σ H Q => te σ H fun x H1 => ∃ (a D d : Addr) (fs : List (Str × V)) (v : V), x = .ref a ∧ ErrC K D ∧ H1 a = some (exk a (.ref D) (some d)) ∧ H1 d = some (.xd fs) ∧ fs.lookup ("value" : Str) = some v ∧ Q v H1
theorem pe_xv {e : Expr} {te : TE} {pos : Pos} (he : PE X e te) (hb : attributeBase e "value" X.env (eval e X.env) = eval e X.env := by rfl) : PE X (.Attribute e "value" pos) (tXv X.K te) := by
  refine ⟨fun pins s σ H Q I h => attr_of hb (thn (he.run pins s σ H _ I h) fun u s1 hh => ?_)⟩
  obtain ⟨x, H1, I1, rx, a, D, d, fs, v, rfl, C, e1, k, l, q⟩ := hh
  obtain rfl : u = Value.ref a := rx
  obtain ⟨oe, od, mA, J, hl, hr⟩ := inst_of I1 e1 k
  obtain ⟨u, hu, ru⟩ := RelO.some_of (v := v) (o := mA "value") (by rw [← l]; exact hr ("value" : Str))
  exact HandSPX.exc_get I1.kIn J C.ga C.gt C.sb (PySem.W.findObj_own C.hd C.no rfl (by rw [hl, hu])) (handed_of ru) ⟨v, H1, I1.tok _, ru, q⟩
/-- an object that is there and not tracked is tracked -/
theorem track {a : Addr} {o : HO} {oe : Obj} {vs : Array Value} (I : Inv X pins σ H s) (he : s.heap.get? a = some oe) (hd : oe.data = .fields vs) (n0 : X.s_0.heap.get? a = none) (na : H a = none) (nl : a ≠ X.env.locals)
    (np : ∀ p ∈ X.pn ++ pins, p.1 ≠ a) (new : ObjOk X.prog X.w (upd H a o) s.heap a o) : Inv X pins σ (upd H a o) s := by
  have cell : ∀ y c, X.env.cells.lookup y = some c → c ≠ a := fun y c q z => by
    obtain ⟨v, o', e1, e2⟩ := I.cell y c q
    rw [z, he] at e1
    cases e1
    rw [hd] at e2
    cases e2
  have nb : ∀ {b : Addr} {u : Obj}, X.s_0.heap.get? b = some u → b ≠ a := fun {b u} q z => by
    rw [z, n0] at q
    cases q
  exact {
    ok := I.ok, os := I.os, bare := I.bare, loc := I.loc, cell := I.cell, len := I.len
    base := { keep := I.base.keep, slot := I.base.slot, there := I.base.there
              free := fun b u q n x => by rw [upd_ne (nb q)]; exact I.base.free b u q n x
              tups := fun b xs q => by have z := I.base.tups b xs q; rw [upd_ne (ne_of_none z na)]; exact z
              frzs := fun b u v q => by have z := I.base.frzs b u v q; rw [upd_ne (ne_of_none z na)]; exact z
              tbls := fun b ps q => by
                obtain ⟨more, z⟩ := I.base.tbls b ps q
                exact ⟨more, by rw [upd_ne (ne_of_none z na)]; exact z⟩ }
    free := by rw [upd_ne (Ne.symm nl)]; exact I.free
    freeC := fun y c q => by rw [upd_ne (cell y c q)]; exact I.freeC y c q
    pin := fun p hp => by
      obtain ⟨h1, h2, h3⟩ := I.pin p hp
      exact ⟨h1, by rw [upd_ne (np p hp)]; exact h2, h3⟩
    hok := fun b u q => by
      by_cases hb : b = a
      · subst hb
        rw [upd_same] at q
        cases q
        exact new
      · rw [upd_ne hb] at q
        exact (I.hok b u q).stay (fun _ _ _ z => z) (fun c z => by rw [upd_ne (ne_of_none z na)]; exact z) fun c xs z => by rw [upd_ne (ne_of_none z na)]; exact z }
end
/-- what «except x as n: suite» wishes: behind the suite the exception stays, tracked at a -/
def wKeep (K : PySem.W.Frag) (c : Value) (i : Nat) (ts : Addr → Value → Option Addr → TS) (D : Ends) : WX := fun cls d σ H =>
  PySem.W.exmOne K cls c = some true ∧ ∀ a, H a = none → ts a cls d { nx := fun σ' H' => D.nx (σ'.set i none) (upd H' a (exk a cls d)), rt := fun _ _ => False } (σ.set i (some (.ref a))) H
section
variable {X : Cx} {x n : Str} {c : Value} {i : Nat} {body suite : List Stmt} {b₀ : Stmt} {np pos pos' : Pos} {tb : WX → TS} {ts : Addr → Value → Option Addr → TS}
theorem ps_try_keep (hs : X.stack = X.env :: X.outer) (hf : X.env.frame = some X.env.locals) (hex : X.ex = []) (nodup : X.N.Nodup) (hi : X.N[i]? = some n) (isloc : X.env.kindOf n = some .local) (nm : Names X x c)
    (hb : ∀ (W : WX) (pn : List (Addr × Obj)) (xe : Value → Shared → Prop), Takes (X.tr pn xe) W → PassesOwn (model X.prog X.w) X.A X.env xe → PSs (X.tr pn xe) body (tb W))
    (hsu : ∀ (a : Addr) (oe : Obj) (cls : Value) (d : Option Addr) (pn : List (Addr × Obj)), Zc cls d oe → (∃ vs, oe.data = .fields vs) → PSs (X.suite a ((a, oe) :: pn)) (b₀ :: suite) (ts a cls d)) :
    PS X (.Try body [.ExceptHandler (some (.Name x np)) (some n) (b₀ :: suite) pos'] [] [] pos) (fun D σ H => tb (wKeep X.K c i ts D) D σ H) := by
  refine ⟨fun pins s σ H D I h => wpAny_Try_except ?_⟩
  have ok := I.ok
  have fr : X.A.frames = some (X.env :: X.outer) := ok.frames.trans (by rw [hs])
  let clause : List ExceptHandler := [.ExceptHandler (some (.Name x np)) (some n) (b₀ :: suite) pos']
  refine wpAny_mono ((hb (wKeep X.K c i ts D) (X.pn ++ pins) (fun e s₁ => wpAny (model X.prog X.w) X.A (noteFrame e X.env) (fun _ s₂ => wpAny (model X.prog X.w) X.A (setFlight e none) (fun _ s₃ =>
    wpAny (model X.prog X.w) X.A (handleBy e X.env clause) (SP X pins D) X.xe s₃) X.xe s₂) X.xe s₁) (fun u s' xx => ?_) PassesOwn.looking).run [] s σ H D (I.toTry _) h) (fun f s1 hsp => ?_) (fun e s1 he => he)
  · obtain ⟨a, B, sI, pins', σ', H', cls, d, rfl, J', nb, up, sky, na, os, ag, hm, hyes⟩ := xx
    have J : Inv X pins σ' H' sI := J'.ofTry ok
    have sky' : Sky B (X.env :: X.outer) a (Zc cls d) X.env.locals s'.heap := hs ▸ sky
    show wpAny (model X.prog X.w) X.A (noteFrame (.ref a) X.env) _ _ _
    refine Sky.land Zc.steady fr hf sky' fun h3 fl3 up3 => ?_
    have J3 : Inv X pins σ' H' { s' with heap := h3 } := J.landed nb fl3.1 (up.trans up3) os ag
    obtain ⟨oe3, vs3, he3, hz3, hd3⟩ := fl3.there
    have apart : ∀ {h : Heap} {o : Obj} {vs : Array Value}, h.FunFrames B (X.env :: X.outer) → h.get? a = some o → o.data = .fields vs → a ∉ frs (X.env :: X.outer) := fun {h o vs} ff e dd hm => by
      obtain ⟨_, o', e', hnf⟩ := ff.mem hm
      cases e.symm.trans e'
      exact hnf _ dd
    have nfr := apart fl3.2.2.1 he3 hd3
    have nL : a ≠ X.env.locals := fun z => nfr (List.mem_filterMap.mpr ⟨X.env, List.mem_cons_self, hf.trans (congrArg some z.symm)⟩)
    have nF : a ∉ X.fs := fun q => by
      obtain ⟨e, he, r⟩ := List.mem_filterMap.mp q
      exact nfr (List.mem_filterMap.mpr ⟨e, List.mem_cons_of_mem _ he, r⟩)
    -- nothing of before stands at a: the ground has no object there
    have ground : ∀ {b : Addr} {o : Obj}, sI.heap.get? b = some o → b = a → False := fun {b o} q z => by
      subst z
      have y := nb b o q (by rw [hs]; exact nfr)
      have g : B.get? b = none := fl3.2.1
      rw [g] at y
      cases y
    have n0 : X.s_0.heap.get? a = none := by
      cases q : X.s_0.heap.get? a with
      | none => rfl
      | some o =>
        obtain ⟨o', q'⟩ := J.base.there a o q (by rw [hex]; simp)
        exact (ground q' rfl).elim
    have npin : ∀ p ∈ X.pn ++ pins, p.1 ≠ a := fun p hp z => ground (J.pin p hp).1 z
    have S3 := J3.suite he3 hd3 na nL nF
    refine wpAny_handleBy_cons (codeAny_handlers_test ?_) (by intro q; cases q)
    have isc : PySem.W.Looks (model X.prog X.w) h3 (typeOf (.ref a)) cls := fun A Q E s k q => wpAny_typeOf_ref (k _ _ he3) (by rw [hz3.1]; exact q)
    have named : ∀ {Q : Value → Shared → Prop} {E : Value → Shared → Prop}, Q c { s' with heap := h3 } → wpAny (model X.prog X.w) (X.A.mark (some (.ref a))) (eval (.Name x np) X.env) Q E { s' with heap := h3 } := fun {Q E} q => by
      rcases nm with ⟨hg, hdbg, hmm | ⟨hmm, hv, hnn⟩⟩
      · exact ld_glob (X := X.suite a ((a, oe3) :: (X.pn ++ pins))) S3 hg hmm q hdbg
      · exact ld_blt (X := X.suite a ((a, oe3) :: (X.pn ++ pins))) S3 hg hmm hv q hnn hdbg
    refine named ((PySem.W.exm_one (M := model X.prog X.w) J3.kIn isc hm).here (codeAny_handlers_suite_as (HandSPX.lands_againZ fl3 fun h4 fl4 up4 => ?_)))
    have J4 : Inv X pins σ' H' { s' with heap := h4 } := J.landed nb fl4.1 ((up.trans up3).trans up4) os ag
    obtain ⟨oe4, vs4, he4, hz4, hd4⟩ := fl4.there
    refine store_ok (X := X.suite a ((a, oe4) :: (X.pn ++ pins))) (v := .ref a) (J4.suite he4 hd4 na nL nF) nodup hi (.inl isloc) rfl (fun s5 S5 => ?_) (.inr isloc)
    refine wpAny_mono ((hsu a oe4 cls d (X.pn ++ pins) hz4 ⟨_, hd4⟩).run [] s5 _ H' _ S5 (hyes a na)) (fun f s6 hsp => ?_) (fun _ _ z => False.elim z)
    cases f with
    | next =>
      obtain ⟨σ6, H6, S6, q6⟩ := hsp
      refine gone_ok (X := X.suite a ((a, oe4) :: (X.pn ++ pins))) S6 nodup hi isloc fun s7 S7 => ?_
      obtain ⟨p1, p2, _⟩ := S7.pin (a, oe4) (List.mem_append_left _ List.mem_cons_self)
      exact ⟨_, _, track (S7.unsuite ok) p1 hd4 n0 p2 nL npin (exk_ok p1 hz4.1 hz4.2 hd4), q6⟩
    | brk =>
      obtain ⟨_, _, _, z⟩ := hsp
      exact z.elim
    | cont =>
      obtain ⟨_, _, _, z⟩ := hsp
      exact z.elim
    | ret u =>
      obtain ⟨_, _, _, _, _, z⟩ := hsp
      exact z.elim
  · cases f with
    | next =>
      obtain ⟨σ', H', K', q⟩ := hsp
      exact wpAny_execs_nil ⟨σ', H', K'.ofTry ok, q⟩
    | brk =>
      obtain ⟨σ', H', K', q⟩ := hsp
      exact ⟨σ', H', K'.ofTry ok, q⟩
    | cont =>
      obtain ⟨σ', H', K', q⟩ := hsp
      exact ⟨σ', H', K'.ofTry ok, q⟩
    | ret u =>
      obtain ⟨v, σ', H', K', r, q⟩ := hsp
      exact ⟨v, σ', H', K'.ofTry ok, r, q⟩
end
/-! ### which class is under which -/
section
variable {K : PySem.W.Frag} {A B : Addr} {b : Bool}
theorem kit_ref (hB : ErrC K B) (h : PySem.W.subIn K (.ref A) (.ref B) = some b) : PySem.W.kitOne K (.ref A) (.ref B) = some b := by
  unfold PySem.W.kitOne
  by_cases e : A = B
  · subst e
    have q : b = true := Option.some.inj (h.symm.trans hB.me)
    rw [q, beq_self_eq_true, if_pos rfl]
  · rw [show (Value.ref A == Value.ref B) = false from beq_eq_false_iff_ne.mpr (fun z => e (Value.ref.inj z)), if_neg Bool.false_ne_true]
    show (if ((PySem.W.clsIn K B).isSome && PySem.W.typeIn K (.ref B) == some (.type "type")) = true then PySem.W.subIn K (.ref A) (.ref B) else none) = some b
    rw [hB.cl, hB.ex.tyC, h]
    rfl
theorem kit_VE (hA : ErrC K A) : PySem.W.kitOne K (.ref A) (.type "ValueError") = some true := by
  unfold PySem.W.kitOne
  rw [show (Value.ref A == Value.type "ValueError") = false from beq_eq_false_iff_ne.mpr (fun z => nomatch z), if_neg Bool.false_ne_true]
  show (if PySem.W.kitMeta "ValueError" = true then PySem.W.subIn K (.ref A) (.type "ValueError") else none) = some true
  rw [show PySem.W.kitMeta "ValueError" = true by decide +kernel, if_pos rfl, hA.ve]
theorem exm_of2 (hB : ErrC K B) (h : PySem.W.subIn K (.ref A) (.ref B) = some b) : PySem.W.exmOne K (.ref A) (.ref B) = some b := PySem.W.exm_ref hB.sb hB.hd hB.ex.tyC h
end
/-! ### an error is raised -/
/-- __init__ of the errors: self.value = value -/
def sp_err (K : PySem.W.Frag) : Sp := fun vs H Q _ => ∃ (a C : Addr) (y : V), vs = [.ref a, y] ∧ OexC K C ∧ PySem.W.findIn K (.ref C) "value" = some none ∧ H a = some (exo a C none) ∧
  ∀ dx, H dx = none → dx ≠ a → Q .non (upd (upd H dx (exd dx [(("value" : Str), y)])) a (exo a C (some dx)))
/-- the class at C, called x, is made by this __init__ -/
structure ErrAt (P : Program) (w : World) (K : PySem.W.Frag) (mg : Str → Option Value) (base : Heap) (x : Str) (C : Addr) : Prop where
  ex : ∃ (fI : Addr) (fd : FuncData), ErrC K C ∧ PySem.W.findIn K (.ref C) "__init__" = some (some (.ref fI)) ∧ PySem.W.typeIn K (.ref fI) = some (.type "function") ∧ FnOk P w K mg base CX0 1 fI fd ["self", "value"] (sp_err K) ∧ Binds K fd ["self", "value"] [] ∧ mg x = some (.ref C)
theorem ok_err {P : Program} {w : World} {K : PySem.W.Frag} {mg : Str → Option Value} {base : Heap} {q : Str} {st : Stmt} {f : Addr} {fd : FuncData} (F : Fun K "__init__" q st f fd) (S : FnScope ["self", "value"] ["self", "value"] (defScope st))
    (body : ∀ (cdv : Value) (A : Around) (outer : List Env) (s : Shared) (H : Hp) (E : XK), PSs (cxOf CX0 P w K mg base ["self", "value"] q (defScope st) f cdv A outer s H E).nox (defBody st) (tOst K "value" (tVar 0) (tVar 1))) : FnOk P w K mg base CX0 1 f fd ["self", "value"] (sp_err K) := by
  refine F.ok S (fun vs H Q E h => ?_) (fun cdv A outer s H vs Q E hr h => ?_)
  · obtain ⟨a, C, y, rfl, _⟩ := h
    rfl
  · obtain ⟨a, C, y, rfl, T, no, ha, k⟩ := h
    exact ⟨_, body cdv A outer s H E, y, rfl, _, rfl, a, C, rfl, T, no, .inl ⟨ha, fun dx n ne => k dx n ne⟩⟩
theorem pe_err {X : Cx} {x : Str} {C : Addr} {k : Nat} {e : Expr} {es : List Expr} {ta : TA} {p pos : Pos} (c : ErrAt X.prog X.w X.K X.mg X.base x C) (hr : Room k X.A) (hk : 2 ≤ k) (hg : Gl X x) (ha : PA X (e :: es) ta) (hdb : (x == ("__debug__" : Str)) = false := by decide)
    (he : starEach (e :: es) X.env = (false, eval e X.env) :: starEach es X.env := by rfl) (hpl : (backTo pos (starEach es X.env)).any (·.1) = false := by rfl) : PMk X (.Call (.Name x p) (e :: es) [] pos) (tMkO C (sp_err X.K) [] ta) := by
  obtain ⟨fI, fd, E, i, t, F, b, m⟩ := c.ex
  exact pmk_oex E.ex i t F (hr.mono hk) b .nil pass0 hg m ha hdb he hpl
/-- raise X(e) -/
theorem ps_err {X : Cx} {W : WX} {x : Str} {C : Addr} {k : Nat} {e : Expr} {es : List Expr} {ta : TA} {p pos pos' : Pos} (hc : X.calm = true) (tk : Takes X W) (c : ErrAt X.prog X.w X.K X.mg X.base x C) (hr : Room k X.A) (hk : 2 ≤ k) (hg : Gl X x) (ha : PA X (e :: es) ta)
    (hdb : (x == ("__debug__" : Str)) = false := by decide) (he : starEach (e :: es) X.env = (false, eval e X.env) :: starEach es X.env := by rfl) (hpl : (backTo pos (starEach es X.env)).any (·.1) = false := by rfl) :
    PS X (.Raise (some (.Call (.Name x p) (e :: es) [] pos)) none pos') (fun _ σ H => tMkO C (sp_err X.K) [] ta σ H fun cls d H' => W cls d σ H') := ps_raise hc tk (pe_err c hr hk hg ha hdb he hpl)
theorem x_mk {σ : L2.St} {H : Hp} {K : PySem.W.Frag} {C : Addr} {ta : TA} {Q : XK} (h : ta σ H fun vs H1 => vs.length ≤ 1000 ∧ ∀ a, H1 a = none → sp_err K (.ref a :: (vs ++ [])) (upd H1 a (exo a C none))
  (fun v H2 => v = .non ∧ ∃ (d : Addr) (fs : List (Str × V)), H2 a = some (exo a C (some d)) ∧ H2 d = some (exd d fs) ∧ H1 d = none ∧ Q (.ref C) (some d) (upd (del H2 a) d (.xd fs))) (fun _ _ _ => False)) : tMkO C (sp_err K) [] ta σ H Q := h
/-- the error's own dict is new; nothing else is told -/
theorem x_err {H : Hp} {K : PySem.W.Frag} {C : Addr} {y : V} {Q : XK} (c : ErrC K C) (h : ∀ d, H d = none → Q (.ref C) (some d) (upd H d (.xd [(("value" : Str), y)]))) : [y].length ≤ 1000 ∧ ∀ a, H a = none → sp_err K (.ref a :: ([y] ++ [])) (upd H a (exo a C none))
  (fun v H2 => v = .non ∧ ∃ (d : Addr) (fs : List (Str × V)), H2 a = some (exo a C (some d)) ∧ H2 d = some (exd d fs) ∧ H d = none ∧ Q (.ref C) (some d) (upd (del H2 a) d (.xd fs))) (fun _ _ _ => False) := by
  refine ⟨by simp, fun a ha => ⟨a, C, y, rfl, c.ex, c.no, upd_same, fun dx hd ne => ⟨rfl, dx, _, upd_same, by rw [upd_ne ne, upd_same], ?_, ?_⟩⟩⟩
  · rw [upd_ne ne] at hd
    exact hd
  · have hd' : H dx = none := by
      rw [upd_ne ne] at hd
      exact hd
    have e : upd (del (upd (upd (upd H a (exo a C none)) dx (exd dx [(("value" : Str), y)])) a (exo a C (some dx))) a) dx (.xd [(("value" : Str), y)]) = upd H dx (.xd [(("value" : Str), y)]) := by
      funext b
      by_cases hb : b = dx
      · rw [hb, upd_same, upd_same]
      · rw [upd_ne hb, upd_ne hb]
        by_cases hz : b = a
        · rw [hz, del_same, ha]
        · rw [del_ne hz, upd_ne hz, upd_ne hb, upd_ne hz]
    rw [e]
    exact h dx hd'
/-- f(e, ..) that may raise, in a try -/
theorem pe_cs {X : Cx} {k j : Nat} {x : Str} {sp : Sp} {st : Stmt} {ps : List Str} {p pos : Pos} {e : Expr} {es : List Expr} {t : TA} {W : WX} (c : FnAt X.prog X.w X.K X.mg X.base (L2.CX X.prog X.w) k x st ps sp) (hr : Room j X.A) (hk : k ≤ j) (hg : Gl X x) (tk : Takes X W) (ha : PA X (e :: es) t)
    (hdb : (x == ("__debug__" : Str)) = false := by decide) (he : starEach (e :: es) X.env = (false, eval e X.env) :: starEach es X.env := by rfl) (hpl : (backTo pos (starEach es X.env)).any (·.1) = false := by rfl) :
    PE X (.Call (.Name x p) (e :: es) [] pos) (tCallSD sp [] (WE W) t) := by
  obtain ⟨f, fd, F, hm, fn, b⟩ := c.ex
  exact pe_callSD F (hr.mono hk) hg hm fn.kp b .nil (fun σ => passAt tk σ) ha hdb he hpl
theorem x_callSD {sp : Sp} {E : L2.St → XK} {t : TA} {σ : L2.St} {H : Hp} {Q : VK} (h : t σ H fun vs H1 => sp vs H1 Q (E σ)) : tCallSD sp [] E t σ H Q := by
  show t σ H fun vs H1 => sp (vs ++ []) H1 Q (E σ)
  simp only [List.append_nil]
  exact h
/-- a def called from a def that lets its errors out -/
theorem pe_cx {X : Cx} {k j : Nat} {x : Str} {sp : Sp} {st : Stmt} {ps : List Str} {p pos : Pos} {e : Expr} {es : List Expr} {t : TA} {E : XK} (c : FnAt X.prog X.w X.K X.mg X.base (L2.CX X.prog X.w) k x st ps sp) (hr : Room j X.A) (hk : k ≤ j) (hg : Gl X x) (tk : Takes X (fun cls d _ H => E cls d H)) (ha : PA X (e :: es) t)
    (hdb : (x == ("__debug__" : Str)) = false := by decide) (he : starEach (e :: es) X.env = (false, eval e X.env) :: starEach es X.env := by rfl) (hpl : (backTo pos (starEach es X.env)).any (·.1) = false := by rfl) :
    PE X (.Call (.Name x p) (e :: es) [] pos) (tCall sp [] E t) := by
  obtain ⟨f, fd, F, hm, fn, b⟩ := c.ex
  exact pe_call F (hr.mono hk) hg hm fn.kp b .nil (fun pins σ H s e s' I q => passes_call tk (fun _ _ _ _ z => z) pins σ H s e s' I q) ha hdb he hpl
section
variable {K : PySem.W.Frag} {H : Hp} {Q : VK} {a D C d p : Addr} {fs : List (Str × V)} {b : Bool}
/-- a caught error of the class at D, that holds v, stands at a -/
structure Caught (K : PySem.W.Frag) (H : Hp) (a D : Addr) (v : V) : Prop where
  c : ErrC K D
  at_ : ∃ d, H a = some (exk a (.ref D) (some d)) ∧ H d = some (.xd [(("value" : Str), v)])
theorem x_isX {v : V} (h : Caught K H a D v) (c : ErrC K C) (e : PySem.W.subIn K (.ref D) (.ref C) = some b) (q : Q (.bl b) H) : rIsX K [.ref a, .ref C] H Q := by
  obtain ⟨d, h1, h2⟩ := h.at_
  exact ⟨a, D, d, _, .ref C, .ref C, b, rfl, h.c, h1, h2, .own C, kit_ref c e, q⟩
theorem x_isVE {v : V} (h : Caught K H a D v) (q : Q (.bl true) H) : rIsX K [.ref a, .ty "ValueError"] H Q := by
  obtain ⟨d, h1, h2⟩ := h.at_
  exact ⟨a, D, d, _, .ty "ValueError", .type "ValueError", true, rfl, h.c, h1, h2, .ty "ValueError", kit_VE h.c, q⟩
/-- none of several classes -/
theorem kit_none : ∀ {cs : List Addr}, (∀ c ∈ cs, ErrC K c ∧ PySem.W.subIn K (.ref D) (.ref c) = some false) → PySem.W.kitAny K (.ref D) (cs.map Value.ref) = some false
  | [], _ => rfl
  | c :: cs, h => by
    obtain ⟨h1, h2⟩ := h c List.mem_cons_self
    exact kitAny_cons (kit_ref h1 h2) (fun _ => kit_none fun x hx => h x (List.mem_cons_of_mem _ hx)) (fun z => by cases z)
theorem paired_own : ∀ cs : List Addr, Paired ClsV (cs.map V.ref) (cs.map Value.ref)
  | [] => .nil
  | c :: cs => .cons (.own c) (paired_own cs)
theorem x_isXn {v : V} (cs : List Addr) (h : Caught K H a D v) (hp : H p = some (.tup (cs.map V.ref))) (hc : ∀ c ∈ cs, ErrC K c ∧ PySem.W.subIn K (.ref D) (.ref c) = some false) (q : Q (.bl false) H) : rIsXT K [.ref a, .ref p] H Q := by
  obtain ⟨d, h1, h2⟩ := h.at_
  exact ⟨a, D, d, p, _, cs.map V.ref, cs.map Value.ref, false, rfl, h.c, h1, h2, hp, paired_own cs, kit_none hc, q⟩
theorem x_xv {te : TE} {σ : L2.St} (h : te σ H fun x H1 => ∃ (a D d : Addr) (fs : List (Str × V)) (v : V), x = .ref a ∧ ErrC K D ∧ H1 a = some (exk a (.ref D) (some d)) ∧ H1 d = some (.xd fs) ∧ fs.lookup ("value" : Str) = some v ∧ Q v H1) : tXv K te σ H Q := h
theorem x_xv1 {v : V} {R : V → Prop} (h : Caught K H a D v) (q : R v) :
    ∃ (a' D d : Addr) (fs : List (Str × V)) (v : V), V.ref a = .ref a' ∧ ErrC K D ∧ H a' = some (exk a' (.ref D) (some d)) ∧ H d = some (.xd fs) ∧ fs.lookup ("value" : Str) = some v ∧ R v := by
  obtain ⟨d, h1, h2⟩ := h.at_
  exact ⟨a, D, d, _, v, rfl, h.c, h1, h2, by simp [List.lookup], q⟩
/-- behind the try -/
theorem caught_mk {v : V} (c : ErrC K D) (hd : H d = none) (ha : upd H d (.xd [(("value" : Str), v)]) a = none) : Caught K (upd (upd H d (.xd [(("value" : Str), v)])) a (exk a (.ref D) (some d))) a D v := by
  have ne : d ≠ a := fun z => by
    rw [z, upd_same] at ha
    cases ha
  exact ⟨c, d, upd_same, by rw [upd_ne ne, upd_same]⟩
theorem Caught.keep {H' : Hp} {v : V} (h : Caught K H a D v) (k : ∀ b o, H b = some o → H' b = some o) : Caught K H' a D v := by
  obtain ⟨d, h1, h2⟩ := h.at_
  exact ⟨h.c, d, k _ _ h1, k _ _ h2⟩
end
/-! ### calls by keywords, in a try -/
def tCallKS (sp : Sp) (gV : List V → List V → List V) (E : L2.St → XK) (t tk : TA) : TE := fun σ H Q => t σ H fun vs H1 => tk σ H1 fun zs H2 => sp (gV vs zs) H2 Q (E σ)
theorem x_callKS {sp : Sp} {gV : List V → List V → List V} {E : L2.St → XK} {t tk : TA} {σ : L2.St} {H : Hp} {Q : VK} (h : t σ H fun vs H1 => tk σ H1 fun zs H2 => sp (gV vs zs) H2 Q (E σ)) : tCallKS sp gV E t tk σ H Q := h
theorem pe_cks {X : Cx} {k j : Nat} {x : Str} {sp : Sp} {st : Stmt} {ps ks : List Str} {g : List Value → List Value → List Value} {gV : List V → List V → List V} {p pos : Pos} {kws : List Keyword} {t : TA} {W : WX}
    (c : FnAt X.prog X.w X.K X.mg X.base (L2.CX X.prog X.w) k x st ps sp) (kb : KB st ps ks g gV) (hr : Room j X.A) (hk : k ≤ j) (hg : Gl X x) (tk : Takes X W) (hkw : PK X kws t)
    (hall : (backToKw pos (keywordEach kws X.env)).all (·.1.isSome) = true := by rfl) (hks : (backToKw pos (keywordEach kws X.env)).filterMap (·.1) = ks := by rfl) (hdb : (x == ("__debug__" : Str)) = false := by decide)
    (hpl : ((backTo pos (starEach [] X.env)).any (·.1) || (backToKw pos (keywordEach kws X.env)).any (·.1.isNone)) = false := by rfl) :
    PE X (.Call (.Name x p) [] kws pos) (tCallKS sp gV (WE W) tNil t) := by
  obtain ⟨f, fd, F, hm, fn, b⟩ := c.ex
  refine ⟨fun pins s σ H Q I h => wpAny_Call_Name_kw (ld_glob I hg hm ?_ hdb)⟩
  refine PySem.W.callWith_KW0 (h₀ := X.base) I.ok.mod.kin fn.kp hall (thn (hkw.run pos pins s σ H _ I h) fun ws s2 ⟨zs, H2, I2, rz, q2⟩ => ⟨I2.kIn, ?_⟩) hpl
  rw [hks]
  have K := Fun.kb fn kb
  have r2 := K.rel (vs := []) (us := []) .nil rz
  have hl : (g [] ws).length = ps.length := (r2.length).symm.trans (F.len _ _ _ _ q2)
  refine wpAny_call (codeAny_mono (F.run X.A X.stack s2 H2 ⟨[], ks.zip ws⟩ (g [] ws) (gV [] zs) Q (WE W σ) (hr.mono hk) I2.env0 (K.to s2 [] ws I2.kIn hl) r2 q2) fun r s' hq => ?_)
  rcases r with e | (_ | _ | _ | u)
  · exact passAt tk σ pins H2 s2 e s' I2 hq
  · exact False.elim hq
  · exact False.elim hq
  · exact False.elim hq
  · exact I2.after hq
/-! ### what the head says -/
/-- a def of the text stands at f -/
abbrev DefL (K : PySem.W.Frag) (x q : Str) (st : Stmt) (f : Addr) : Prop := ∃ (oc : Value) (od an : Option Addr) (sl : Array (Option Value)) (kV dc pm cd ct : Value),
  K.lookup f = some ⟨oc, od, .func (PySem.W.fnOf x q (defArgs st) (defBody st) (defScope st) .none kV dc pm an cd ct), sl⟩ ∧ PySem.W.codeIn K cd q = true ∧ PySem.W.keepIn K (.ref f) = true
/-- a class of errors stands at C -/
abbrev ErrL (K : PySem.W.Frag) (C : Addr) (bm : List Value) : Prop := ∃ (nm q : Str) (N : Addr) (bs : List Value) (sn : List Str) (sub : List Value) (ab : Bool) (col : Option Bool) (dd : Option Addr) (k0 k1 k2 k3 k5 : Option Value),
  K.lookup C = some (PySem.excClassObj nm q C N bs bm true sn sub ab col dd k0 k1 k2 k3 k5 "ValueError.__new__")
section
variable {K : PySem.W.Frag} {mg : Str → Option Value} {h : Heap}
theorem mkDef {x : Str} {st : Stmt} {f : Addr} {ps : List Str} (X : K.In h) (G : h.Ns mainGlobals mg) (a : PySem.W.nsIn K mainGlobals x = some (some (.ref f))) (l : DefL K x x st f)
    (b : ∀ (kV doc pm : Value) (an : Option Addr) (cdv ct : Value) (us : List Value), us.length = ps.length → bindArgs (PySem.W.fnOf x x (defArgs st) (defBody st) (defScope st) .none kV doc pm an cdv ct) ⟨us, []⟩ = pure (ps.zip us)) : DefAt K mg x st ps := by
  obtain ⟨oc, od, an, sl, kV, dc, pm, cd, ct, l, c, k⟩ := l
  have F := fun_mk (st := st) l c k
  exact ⟨f, _, PySem.W.mg_of X G a, F, F.binds b⟩
theorem mkFun {x q : Str} {st : Stmt} {f : Addr} {ps : List Str} (l : DefL K x q st f)
    (b : ∀ (kV doc pm : Value) (an : Option Addr) (cdv ct : Value) (us : List Value), us.length = ps.length → bindArgs (PySem.W.fnOf x q (defArgs st) (defBody st) (defScope st) .none kV doc pm an cdv ct) ⟨us, []⟩ = pure (ps.zip us)) : ∃ fd : FuncData, Fun K x q st f fd ∧ Binds K fd ps [] := by
  obtain ⟨oc, od, an, sl, kV, dc, pm, cd, ct, l, c, k⟩ := l
  have F := fun_mk (st := st) l c k
  exact ⟨_, F, F.binds b⟩
theorem mkErr {C : Addr} {bm : List Value} (l : ErrL K C bm) (rf : PySem.HandSPX.refsVE bm = true) (sa : PySem.W.findIn K (.ref C) "__setattr__" = some (some (.builtin "object.__setattr__")))
    (ga : PySem.W.findIn K (.ref C) "__getattribute__" = some (some (.builtin "BaseException.__getattribute__"))) (gt : PySem.W.findIn K (.ref C) "__getattr__" = some none)
    (sb : PySem.W.subIn K (.ref C) (.type "BaseException") = some true) (ty : PySem.W.typeIn K (.ref C) = some (.type "type")) (kp : PySem.W.keepIn K (.ref C) = true) (hd : PySem.W.hasDictIn K C = true) (cl : PySem.W.isClsIn K C = true)
    (kl : PySem.W.findIn K (.ref C) "__class__" = some (some (.builtin "object.__class__"))) (gs : PySem.W.specialIn K (.builtin "object.__class__") "__get__" = some (some (.builtin "getset_descriptor.__get__")))
    (tk : PySem.W.takesIn K (.builtin "object.__class__") = some true) (mo : PySem.W.mroIn K C (.type "object") = some true) (no : PySem.W.findIn K (.ref C) "value" = some none)
    (me : PySem.W.subIn K (.ref C) (.ref C) = some true) (ve : PySem.W.subIn K (.ref C) (.type "ValueError") = some true) : ErrC K C := by
  obtain ⟨nm, q, N, bs, sn, sub, ab, col, dd, k0, k1, k2, k3, k5, l⟩ := l
  exact ⟨cl, ga, gt, sb, hd, kl, gs, tk, mo, no, ⟨⟨nm, q, N, bs, bm, sn, sub, ab, col, dd, k0, k1, k2, k3, k5, l, rf⟩, sa, sb, ty, kp⟩, me, ve⟩
end
end TW

local macro_rules | `(tactic| walk_at "ne") => `(tactic| first | with_reducible assumption | (with_reducible refine Ne.symm ?_; with_reducible assumption) | (with_reducible refine' L2.ne_of_none ?h1 ?h2; (case h2 => with_reducible assumption); (case h1 => with_reducible assumption)) | (with_reducible refine' Ne.symm (L2.ne_of_none ?h1 ?h2); (case h2 => with_reducible assumption); (case h1 => with_reducible assumption)))
local macro_rules | `(tactic| walk_at "hp") => `(tactic| first
  | with_reducible assumption | with_reducible exact L2.upd_same
  | ((with_reducible refine' Eq.trans (L2.upd_ne ?n) ?r); (case n => walk_at "ne"); (case r => walk_at "hp")))
local macro_rules | `(tactic| walk_at "heap") => `(tactic| first
  | with_reducible assumption | ((with_reducible refine' L2.SqL.of ?h); (case h => walk_at "hp")) | ((with_reducible refine' L2.SqT.of ?h); (case h => walk_at "hp")) | walk_at "hp")
local macro_rules | `(tactic| walk_at "lit") => `(tactic| first | with_unfolding_all rfl | with_unfolding_all decide)
local macro_rules | `(tactic| walk_at "size") => `(tactic| first | with_unfolding_all decide | ((simp only [List.length_cons, List.length_nil, Nat.zero_add, Nat.reduceAdd]); with_unfolding_all decide))
local macro_rules | `(tactic| walk_at "cond") => `(tactic| first
  | with_reducible assumption | ((with_reducible show (_ : Int) < _); omega) | ((with_reducible show (_ : Int) ≠ _); omega) | exact TW.cmulL (by omega) (by omega) | exact TW.cmulR (by omega) (by omega) | exact TW.cpow (by omega) (by omega) (by omega) (by omega)
  | ((with_reducible show L2.CDivW _ _); exact TW.cdivW (by omega) (by decide +kernel)) | (with_unfolding_all decide) | omega)
local macro_rules | `(tactic| walk_at "one") => `(tactic| first
  | (with_reducible first
  | refine TW.x_seq ?_ | refine TW.x_asg ?_ | refine TW.x_ifs ?_ | refine TW.x_ret ?_ | refine TW.x_drop ?_ | refine TW.x_next ?_ | refine TW.x_par ?_ | refine TW.x_for ?_ | refine TW.x_iL ?_ | refine TW.x_iT ?_ | refine TW.x_iR ?_ | refine TW.x_iZ ?_ | refine TW.x_iZA ?_ | refine TW.x_gcons ?_ | refine TW.x_gnil ?_ | refine TW.x_par2 ?_
  | refine TW.x_var rfl ?_ | refine TW.x_c ?_ | refine TW.x_op ?_ | refine TW.x_un ?_ | refine TW.x_rI0 ?_ | refine TW.x_rU ?_
  | refine TW.x_rEqIe ?_ | refine TW.x_rNeIe ?_ | refine TW.x_rEqSe ?_ | refine TW.x_rNeSe ?_ | refine TW.x_rEqBe ?_ | refine TW.x_rNeBe ?_ | refine TW.x_rEqI ?_ | refine TW.x_rNeI ?_ | refine TW.x_rEqS ?_ | refine TW.x_rNeS ?_ | refine TW.x_rEqB ?_ | refine TW.x_rNeB ?_
  | refine TW.x_test ?_ | refine TW.x_B ?_ | refine TW.x_bl ?_
  | refine TW.x_and ?_ | refine TW.x_or ?_ | refine TW.x_not ?_ | refine TW.x_andV ?_ | refine TW.x_orV ?_ | refine TW.x_notV ?_ | refine TW.x_ifE ?_
  | refine TW.x_cons ?_ | refine TW.x_nil ?_ | refine TW.x_call ?_ | refine TW.x_callK ?_ | refine TW.x_callKS ?_ | refine TW.x_callSD ?_ | refine TW.x_mk ?_ | refine TW.x_xv ?_ | refine TW.x_CB ?_ | refine TW.x_BM0 ?_ | refine TW.x_BM ?_ | refine TW.x_tup ?_ | refine TW.x_lst ?_ | refine TW.x_gname ?_ | refine TW.x_gsub ?_
  | refine TW.x_isN0 ?_ | refine TW.x_isNi ?_ | refine TW.x_isNb ?_ | refine TW.x_isNs ?_ | refine TW.x_isNr ?_ | refine TW.x_int1 ?_ | refine TW.x_intB ?_ | refine TW.x_abs ?_ | refine TW.x_min2 ?_ | refine TW.x_max2 ?_ | refine TW.x_gcd ?_ | refine L2.iteF ?_ | refine L2.iteT ?_ | refine TW.x_nT ?_ | refine TW.x_nF ?_)
  | ((with_reducible refine' TW.x_ixL ?s ?e ?_); (case s => walk_at "heap"); (case e => walk_at "lit"))
  | ((with_reducible refine' TW.x_setL ?s ?e ?_); (case s => walk_at "heap"); (case e => walk_at "lit"))
  | ((with_reducible refine' TW.x_pop0 ?s ?e ?_); (case s => walk_at "heap"); (case e => assumption))
  | ((with_reducible refine' TW.x_lenL ?s ?_); (case s => walk_at "heap"))
  | ((with_reducible refine' TW.x_lenT ?s ?_); (case s => walk_at "heap"))
  | ((with_reducible refine' TW.x_ixT ?s ?e ?_); (case s => walk_at "heap"); (case e => walk_at "lit"))
  | ((with_reducible refine' TW.x_gtup ?s ?e ?_); (case s => walk_at "heap"); (case e => walk_at "lit"))
  | ((with_reducible refine TW.x_rI ?c ?_); (case c => walk_at "cond"))
  | ((with_reducible refine ⟨?c, fun p hp => ?_⟩); (case c => (with_reducible show _ ≤ PySem.sizeLine); walk_at "size")))
local macro_rules | `(tactic| walk_at "s") => `(tactic| repeat walk_at "one")
local macro_rules | `(tactic| walk_at "K") => `(tactic| try dsimp only [L2.cxOf, L2.Cx.nox, L2.Cx.wish])
local macro_rules | `(tactic| walk_at "tell") => `(tactic| repeat (first | walk_at "one" | refine TW.x_iteT (by decide) ?_ | refine TW.x_iteF (by decide) ?_))

namespace TW
open PySem PySem.Spec PyProof.Rows L2
/-! ### data in the heap; what stays -/
/-- what stands at an address that is ok stands behind as it stood, and so does each tuple; nothing is let go -/
structure Fr (ok : Addr → Prop) (H H' : Hp) : Prop where
  keep : ∀ b o, ok b → H b = some o → H' b = some o
  tups : ∀ b xs, H b = some (.tup xs) → H' b = some (.tup xs)
  back : ∀ b, H' b = none → H b = none
section
variable {ok ok' : Addr → Prop} {H H' H1 H2 : Hp} {p a b : Addr} {o o' : HO} {xs ys : List V} {K : PySem.W.Frag}
theorem Fr.refl : Fr ok H H := ⟨fun _ _ _ e => e, fun _ _ e => e, fun _ e => e⟩
theorem Fr.trans (h : Fr ok H H1) (k : Fr ok H1 H2) : Fr ok H H2 := ⟨fun b o q e => k.keep b o q (h.keep b o q e), fun b xs e => k.tups b xs (h.tups b xs e), fun b e => h.back b (k.back b e)⟩
theorem Fr.mono (h : Fr ok' H H') (m : ∀ b, ok b → ok' b) : Fr ok H H' := ⟨fun b o q e => h.keep b o (m b q) e, h.tups, h.back⟩
theorem Fr.new (h : H p = none) : Fr ok H (upd H p o) :=
  ⟨fun b u _ e => by rw [upd_ne (ne_of_none e h)]; exact e, fun b xs e => by rw [upd_ne (ne_of_none e h)]; exact e, fun b e => by
    by_cases q : b = p
    · rw [q, upd_same] at e
      cases e
    · rw [upd_ne q] at e
      exact e⟩
/-- a list that is not ok is changed -/
theorem Fr.set (n : ¬ ok p) (h : H p = some (.lst xs)) : Fr ok H (upd H p (.lst ys)) :=
  ⟨fun b u q e => by rw [upd_ne (fun z => by rw [z] at q; exact n q)]; exact e, fun b zs e => by
    rw [upd_ne (fun z => by rw [z, h] at e; cases e)]
    exact e, fun b e => by
    by_cases q : b = p
    · rw [q, upd_same] at e
      cases e
    · rw [upd_ne q] at e
      exact e⟩
/-- an object that H does not know is changed -/
theorem Fr.mut (h : Fr ok H H1) (hn : H p = none) : Fr ok H (upd H1 p o) :=
  ⟨fun b u q e => by rw [upd_ne (ne_of_none e hn)]; exact h.keep b u q e, fun b xs e => by rw [upd_ne (ne_of_none e hn)]; exact h.tups b xs e, fun b e => by
    by_cases q : b = p
    · rw [q, upd_same] at e
      cases e
    · rw [upd_ne q] at e
      exact h.back b e⟩
theorem Fr.alloc (h : Fr ok H H1) (hn : H1 p = none) : Fr ok H (upd H1 p o) := h.mut (h.back p hn)
theorem Fr.sqL (f : Fr ok H H') (q : ok a) (h : SqL K H a xs) : SqL K H' a xs := by
  rcases h with (h | ⟨o, h⟩) | h
  · exact .inl (.inl (f.keep _ _ q h))
  · exact .inl (.inr ⟨o, f.keep _ _ q h⟩)
  · exact .inr h
theorem Fr.same (f : Fr (fun _ => True) H H') : Same H H' := fun b o e => f.keep b o trivial e
theorem ne_lst {q : Addr} (h : H p = some (.lst xs)) (k : H q = some (.tup ys)) : q ≠ p := fun z => by rw [z, h] at k; cases k
end
end TW

namespace TW
open PySem PySem.Spec PyProof.Rows L2
/-! ### data: what a value stands for; its lists are at addresses that are ok -/
mutual
inductive Rep (ok : Addr → Prop) (H : Hp) : V → PyData → Prop
  | non : Rep ok H .non .none
  | bl (b : Bool) : Rep ok H (.bl b) (.bool b)
  | int (i : Int) : Rep ok H (.int i) (.int i)
  | str (x : Str) : Rep ok H (.str x) (.str x)
  | lst {a : Addr} {xs : List V} {ds : List PyData} (q : ok a) (e : H a = some (.lst xs)) (r : RepAll ok H xs ds) : Rep ok H (.ref a) (.list ds)
  | tup {a : Addr} {xs : List V} {ds : List PyData} (e : H a = some (.tup xs)) (r : RepAll ok H xs ds) : Rep ok H (.ref a) (.tuple ds)
inductive RepAll (ok : Addr → Prop) (H : Hp) : List V → List PyData → Prop
  | nil : RepAll ok H [] []
  | cons {v : V} {vs : List V} {d : PyData} {ds : List PyData} (h : Rep ok H v d) (t : RepAll ok H vs ds) : RepAll ok H (v :: vs) (d :: ds)
end
section
variable {ok ok' : Addr → Prop} {H H' : Hp} {v : V} {d : PyData} {vs : List V} {ds : List PyData}
mutual
theorem Rep.fr (f : Fr ok H H') : ∀ {d : PyData} {v : V}, Rep ok H v d → Rep ok H' v d
  | _, _, .non => .non
  | _, _, .bl b => .bl b
  | _, _, .int i => .int i
  | _, _, .str x => .str x
  | _, _, .lst q e r => .lst q (f.keep _ _ q e) (RepAll.fr f r)
  | _, _, .tup e r => .tup (f.tups _ _ e) (RepAll.fr f r)
theorem RepAll.fr (f : Fr ok H H') : ∀ {ds : List PyData} {vs : List V}, RepAll ok H vs ds → RepAll ok H' vs ds
  | _, _, .nil => .nil
  | _, _, .cons h t => .cons (Rep.fr f h) (RepAll.fr f t)
end
mutual
theorem Rep.mono (m : ∀ a, ok a → ok' a) : ∀ {d : PyData} {v : V}, Rep ok H v d → Rep ok' H v d
  | _, _, .non => .non
  | _, _, .bl b => .bl b
  | _, _, .int i => .int i
  | _, _, .str x => .str x
  | _, _, .lst q e r => .lst (m _ q) e (RepAll.mono m r)
  | _, _, .tup e r => .tup e (RepAll.mono m r)
theorem RepAll.mono (m : ∀ a, ok a → ok' a) : ∀ {ds : List PyData} {vs : List V}, RepAll ok H vs ds → RepAll ok' H vs ds
  | _, _, .nil => .nil
  | _, _, .cons h t => .cons (Rep.mono m h) (RepAll.mono m t)
end
theorem RepAll.len : ∀ {vs : List V} {ds : List PyData}, RepAll ok H vs ds → vs.length = ds.length
  | _, _, .nil => rfl
  | _, _, .cons _ t => by rw [List.length_cons, List.length_cons, RepAll.len t]
theorem RepAll.get : ∀ {vs : List V} {ds : List PyData} {i : Nat} {v : V}, RepAll ok H vs ds → vs[i]? = some v → ∃ d, ds[i]? = some d ∧ Rep ok H v d
  | _, _, _, _, .nil, e => by simp at e
  | _, _, 0, _, .cons h t, e => by
    have e' := Option.some.inj e
    subst e'
    exact ⟨_, rfl, h⟩
  | _, _, i + 1, _, .cons h t, e => RepAll.get (i := i) t e
theorem RepAll.at : ∀ {vs : List V} {ds : List PyData} {i : Nat} {d : PyData}, RepAll ok H vs ds → ds[i]? = some d → ∃ v, vs[i]? = some v ∧ Rep ok H v d
  | _, _, _, _, .nil, e => by simp at e
  | _, _, 0, _, .cons h t, e => by
    have e' := Option.some.inj e
    subst e'
    exact ⟨_, rfl, h⟩
  | _, _, i + 1, _, .cons h t, e => RepAll.at (i := i) t e
theorem RepAll.app : ∀ {vs : List V} {ds : List PyData}, RepAll ok H vs ds → Rep ok H v d → RepAll ok H (vs ++ [v]) (ds ++ [d])
  | _, _, .nil, h => .cons h .nil
  | _, _, .cons g t, h => .cons g (RepAll.app t h)
/-- the name of a datum's type -/
def tyN : PyData → String
  | .none => "NoneType" | .bool _ => "bool" | .int _ => "int" | .str _ => "str" | .list _ => "list" | .tuple _ => "tuple" | .dict _ => "dict"
theorem Rep.ty {K : PySem.W.Frag} (h : Rep ok H v d) : TyX K H v (.type (tyN d)) := by
  cases h with
  | non => exact .base .non
  | bl b => exact .base (.bl b)
  | int i => exact .base (.int i)
  | str x => exact .base (.str x)
  | lst q e r => exact .base (.lst e)
  | tup e r => exact .base (.tup e)
/-- isinstance(x, T), x a datum -/
theorem x_isi {K : PySem.W.Frag} {T : String} {b : Bool} {Q : VK} (h : Rep ok H v d) (e : kitB (tyN d) T = some b) (q : Q (.bl b) H) : rIsi K [v, .ty T] H Q := ⟨v, .ty T, _, _, b, rfl, .ty T, h.ty, kit_ty e, q⟩
/-- isinstance(x, (S, T)) -/
theorem x_isi2 {K : PySem.W.Frag} {S T : String} {b c r : Bool} {p : Addr} {Q : VK} (h : Rep ok H v d) (hp : H p = some (.tup [.ty S, .ty T])) (e : kitB (tyN d) S = some b) (e2 : kitB (tyN d) T = some c) (er : (b || c) = r) (q : Q (.bl r) H) : rIsiT K [v, .ref p] H Q := by
  subst er
  refine ⟨v, p, _, _, [.type S, .type T], b || c, rfl, hp, .cons (.ty S) (.cons (.ty T) .nil), h.ty, ?_, q⟩
  refine kitAny_cons (kit_ty e) (fun hb => ?_) (fun hb => by rw [hb]; rfl)
  refine kitAny_cons (kit_ty e2) (fun hc => ?_) (fun hc => by rw [hc, hb]; rfl)
  rw [hb, hc]
  exact kitAny_nil
end
end TW
namespace TW
open PySem PySem.Spec PyProof.Rows L2
/-- an item of a written list, at a drawn place -/
theorem pick {r : Int} (l : List Int) (h0 : 0 ≤ r) (h1 : r < (l.length : Int)) : ∃ x, x ∈ l ∧ atI (l.map V.int) r = some (.int x) := by
  have hr : r.toNat < l.length := by omega
  refine ⟨l[r.toNat], List.getElem_mem hr, at_of (j := r.toNat) (by omega) ?_⟩
  rw [List.getElem?_map, List.getElem?_eq_getElem hr]
  rfl
end TW

namespace K
open PySem PySem.Spec PyProof.Rows L2 TW
def topS (i : Nat) : Stmt := PySem.Challenge.pw_textworths_k02_sums_products_quotients_p.main.body.getD i (.Pass ⟨0, 0, 0, 0⟩)
abbrev s_WorthError___init__ : Stmt := inClass (topS 2) 0
abbrev n_WorthError___init__ : List Str := ["self", "value"]
theorem sc_WorthError___init__ : FnScope n_WorthError___init__ ["self", "value"] (defScope s_WorthError___init__) := ⟨rfl, rfl, rfl, by decide +kernel, rfl, by decide +kernel, by decide +kernel⟩
abbrev s_number : Stmt := topS 9
abbrev n_number : List Str := ["above", "below", "common"]
theorem sc_number : FnScope n_number ["above", "below"] (defScope s_number) := ⟨rfl, rfl, rfl, by decide +kernel, rfl, by decide +kernel, by decide +kernel⟩
abbrev s_added : Stmt := topS 10
abbrev n_added : List Str := ["one", "other"]
theorem sc_added : FnScope n_added ["one", "other"] (defScope s_added) := ⟨rfl, rfl, rfl, by decide +kernel, rfl, by decide +kernel, by decide +kernel⟩
abbrev s_product : Stmt := topS 11
abbrev n_product : List Str := ["one", "other"]
theorem sc_product : FnScope n_product ["one", "other"] (defScope s_product) := ⟨rfl, rfl, rfl, by decide +kernel, rfl, by decide +kernel, by decide +kernel⟩
abbrev s_quotient : Stmt := topS 12
abbrev n_quotient : List Str := ["one", "other"]
theorem sc_quotient : FnScope n_quotient ["one", "other"] (defScope s_quotient) := ⟨rfl, rfl, rfl, by decide +kernel, rfl, by decide +kernel, by decide +kernel⟩
abbrev s_power : Stmt := topS 13
abbrev n_power : List Str := ["one", "times", "above", "below", "_"]
theorem sc_power : FnScope n_power ["one", "times"] (defScope s_power) := ⟨rfl, rfl, rfl, by decide +kernel, rfl, by decide +kernel, by decide +kernel⟩
abbrev s_is_number : Stmt := topS 14
abbrev n_is_number : List Str := ["pair", "above", "below"]
theorem sc_is_number : FnScope n_is_number ["pair"] (defScope s_is_number) := ⟨rfl, rfl, rfl, by decide +kernel, rfl, by decide +kernel, by decide +kernel⟩
abbrev s_check_number : Stmt := topS 15
abbrev n_check_number : List Str := ["pair"]
theorem sc_check_number : FnScope n_check_number ["pair"] (defScope s_check_number) := ⟨rfl, rfl, rfl, by decide +kernel, rfl, by decide +kernel, by decide +kernel⟩
abbrev s_check_numbers : Stmt := topS 16
abbrev n_check_numbers : List Str := ["pairs", "pair"]
theorem sc_check_numbers : FnScope n_check_numbers ["pairs"] (defScope s_check_numbers) := ⟨rfl, rfl, rfl, by decide +kernel, rfl, by decide +kernel, by decide +kernel⟩
abbrev s__law_deck : Stmt := topS 18
abbrev n__law_deck : List Str := ["_law_script", "_law_mark", "_law_great", "_law_cell"]
theorem sc__law_deck : FnScope n__law_deck ["_law_script"] (defScope s__law_deck) := ⟨rfl, rfl, rfl, by decide +kernel, rfl, by decide +kernel, by decide +kernel⟩
abbrev s__law_draw : Stmt := topS 19
abbrev n__law_draw : List Str := ["_law_deck_here", "_law_limit", "_law_found", "_law_stir"]
theorem sc__law_draw : FnScope n__law_draw ["_law_deck_here", "_law_limit"] (defScope s__law_draw) := ⟨rfl, rfl, rfl, by decide +kernel, rfl, by decide +kernel, by decide +kernel⟩
abbrev s__law_gcd : Stmt := topS 20
abbrev n__law_gcd : List Str := ["_law_one", "_law_other"]
theorem sc__law_gcd : FnScope n__law_gcd ["_law_one", "_law_other"] (defScope s__law_gcd) := ⟨rfl, rfl, rfl, by decide +kernel, rfl, by decide +kernel, by decide +kernel⟩
abbrev s__law_pair : Stmt := topS 21
abbrev n__law_pair : List Str := ["_law_above", "_law_below", "_law_common"]
theorem sc__law_pair : FnScope n__law_pair ["_law_above", "_law_below"] (defScope s__law_pair) := ⟨rfl, rfl, rfl, by decide +kernel, rfl, by decide +kernel, by decide +kernel⟩
abbrev s__law_alike : Stmt := topS 22
abbrev n__law_alike : List Str := ["_law_found", "_law_due_here", "_law_one", "_law_other"]
theorem sc__law_alike : FnScope n__law_alike ["_law_found", "_law_due_here"] (defScope s__law_alike) := ⟨rfl, rfl, rfl, by decide +kernel, rfl, by decide +kernel, by decide +kernel⟩
abbrev s__law_number : Stmt := topS 23
abbrev n__law_number : List Str := ["_law_deck_here", "_law_great", "_law_below"]
theorem sc__law_number : FnScope n__law_number ["_law_deck_here"] (defScope s__law_number) := ⟨rfl, rfl, rfl, by decide +kernel, rfl, by decide +kernel, by decide +kernel⟩
abbrev s__law_two : Stmt := topS 24
abbrev n__law_two : List Str := ["_law_deck_here", "_law_one", "_law_other", "_law_kind"]
theorem sc__law_two : FnScope n__law_two ["_law_deck_here"] (defScope s__law_two) := ⟨rfl, rfl, rfl, by decide +kernel, rfl, by decide +kernel, by decide +kernel⟩
abbrev s__law_wrong : Stmt := topS 25
abbrev n__law_wrong : List Str := ["_law_deck_here", "_law_one", "_law_kind", "_law_factor"]
theorem sc__law_wrong : FnScope n__law_wrong ["_law_deck_here", "_law_one"] (defScope s__law_wrong) := ⟨rfl, rfl, rfl, by decide +kernel, rfl, by decide +kernel, by decide +kernel⟩
abbrev s__law_is_number : Stmt := topS 26
abbrev n__law_is_number : List Str := ["_law_one"]
theorem sc__law_is_number : FnScope n__law_is_number ["_law_one"] (defScope s__law_is_number) := ⟨rfl, rfl, rfl, by decide +kernel, rfl, by decide +kernel, by decide +kernel⟩
abbrev s__law_told : Stmt := topS 27
abbrev n__law_told : List Str := ["_law_name", "_law_one", "_law_other", "_law_found", "_law_caught", "e"]
theorem sc__law_told : FnScope n__law_told ["_law_name", "_law_one", "_law_other"] (defScope s__law_told) := ⟨rfl, rfl, rfl, by decide +kernel, rfl, by decide +kernel, by decide +kernel⟩
abbrev s__law_due : Stmt := topS 28
abbrev n__law_due : List Str := ["_law_name", "_law_one", "_law_other", "_law_found", "_law_k", "_law_total", "_law_times"]
theorem sc__law_due : FnScope n__law_due ["_law_name", "_law_one", "_law_other"] (defScope s__law_due) := ⟨rfl, rfl, rfl, by decide +kernel, rfl, by decide +kernel, by decide +kernel⟩
abbrev s_law : Stmt := topS 29
abbrev n_law : List Str := ["_law_script", "_law_deck_here", "_law_k", "_law_good", "_law_bent", "_law_place", "_law_times", "_law_one", "_law_other", "_law_name", "_law_many"]
theorem sc_law : FnScope n_law ["_law_script"] (defScope s_law) := ⟨rfl, rfl, rfl, by decide +kernel, rfl, by decide +kernel, by decide +kernel⟩
/-- what the top has written -/
structure Txt (K : PySem.W.Frag) (mg : Str → Option Value) (C_WorthError : Addr) (C_InvalidNumber : Addr) (C_InvalidSigns : Addr) (C_UnknownSign : Addr) (C_InvalidMachine : Addr) (C_UnlikeSigns : Addr) (f_err : Addr) : Prop where
  d_number : TW.DefAt K mg "number" s_number ["above", "below"]
  d_added : TW.DefAt K mg "added" s_added ["one", "other"]
  d_product : TW.DefAt K mg "product" s_product ["one", "other"]
  d_quotient : TW.DefAt K mg "quotient" s_quotient ["one", "other"]
  d_power : TW.DefAt K mg "power" s_power ["one", "times"]
  d_is_number : TW.DefAt K mg "is_number" s_is_number ["pair"]
  d_check_number : TW.DefAt K mg "check_number" s_check_number ["pair"]
  d_check_numbers : TW.DefAt K mg "check_numbers" s_check_numbers ["pairs"]
  d__law_deck : TW.DefAt K mg "_law_deck" s__law_deck ["_law_script"]
  d__law_draw : TW.DefAt K mg "_law_draw" s__law_draw ["_law_deck_here", "_law_limit"]
  d__law_gcd : TW.DefAt K mg "_law_gcd" s__law_gcd ["_law_one", "_law_other"]
  d__law_pair : TW.DefAt K mg "_law_pair" s__law_pair ["_law_above", "_law_below"]
  d__law_alike : TW.DefAt K mg "_law_alike" s__law_alike ["_law_found", "_law_due_here"]
  d__law_number : TW.DefAt K mg "_law_number" s__law_number ["_law_deck_here"]
  d__law_two : TW.DefAt K mg "_law_two" s__law_two ["_law_deck_here"]
  d__law_wrong : TW.DefAt K mg "_law_wrong" s__law_wrong ["_law_deck_here", "_law_one"]
  d__law_is_number : TW.DefAt K mg "_law_is_number" s__law_is_number ["_law_one"]
  d__law_told : TW.DefAt K mg "_law_told" s__law_told ["_law_name", "_law_one", "_law_other"]
  d__law_due : TW.DefAt K mg "_law_due" s__law_due ["_law_name", "_law_one", "_law_other"]
  d_law : TW.DefAt K mg "law" s_law ["_law_script"]
  mg_gcd : mg "gcd" = some (.builtin "math.gcd")
  no_ValueError : mg "ValueError" = none
  no_abs : mg "abs" = none
  no_bool : mg "bool" = none
  no_int : mg "int" = none
  no_isinstance : mg "isinstance" = none
  no_len : mg "len" = none
  no_list : mg "list" = none
  no_range : mg "range" = none
  no_str : mg "str" = none
  no_tuple : mg "tuple" = none
  no_zip : mg "zip" = none
  cl_WorthError : mg "WorthError" = some (.ref C_WorthError)
  cl_InvalidNumber : mg "InvalidNumber" = some (.ref C_InvalidNumber)
  cl_InvalidSigns : mg "InvalidSigns" = some (.ref C_InvalidSigns)
  cl_UnknownSign : mg "UnknownSign" = some (.ref C_UnknownSign)
  cl_InvalidMachine : mg "InvalidMachine" = some (.ref C_InvalidMachine)
  cl_UnlikeSigns : mg "UnlikeSigns" = some (.ref C_UnlikeSigns)
  ty_err : PySem.W.typeIn K (.ref f_err) = some (.type "function")
  fn_err : ∃ fd : FuncData, Fun K "__init__" "WorthError.__init__" s_WorthError___init__ f_err fd ∧ Binds K fd ["self", "value"] []
  ec_WorthError : TW.ErrC K C_WorthError
  ec_InvalidNumber : TW.ErrC K C_InvalidNumber
  in_InvalidNumber : PySem.W.findIn K (.ref C_InvalidNumber) "__init__" = some (some (.ref f_err))
  ec_InvalidSigns : TW.ErrC K C_InvalidSigns
  ec_UnknownSign : TW.ErrC K C_UnknownSign
  ec_InvalidMachine : TW.ErrC K C_InvalidMachine
  ec_UnlikeSigns : TW.ErrC K C_UnlikeSigns
  sb_InvalidNumber_WorthError : PySem.W.subIn K (.ref C_InvalidNumber) (.ref C_WorthError) = some true
  sb_InvalidNumber_InvalidNumber : PySem.W.subIn K (.ref C_InvalidNumber) (.ref C_InvalidNumber) = some true
  sb_InvalidNumber_InvalidSigns : PySem.W.subIn K (.ref C_InvalidNumber) (.ref C_InvalidSigns) = some false
  sb_InvalidNumber_UnknownSign : PySem.W.subIn K (.ref C_InvalidNumber) (.ref C_UnknownSign) = some false
  sb_InvalidNumber_InvalidMachine : PySem.W.subIn K (.ref C_InvalidNumber) (.ref C_InvalidMachine) = some false
  sb_InvalidNumber_UnlikeSigns : PySem.W.subIn K (.ref C_InvalidNumber) (.ref C_UnlikeSigns) = some false
theorem kb_power_times_one : TW.KB s_power ["one", "times"] ["times", "one"] (fun us ws => match us, ws with | [], [w0, w1] => [w1, w0] | _, _ => []) (fun us ws => match us, ws with | [], [w0, w1] => [w1, w0] | _, _ => []) := by
  constructor
  · intro x qual kV doc pm an cdv ct us ws h
    rcases us with _ | ⟨a0, _⟩ <;> rcases ws with _ | ⟨b0, _ | ⟨b1, _ | ⟨b2, _⟩⟩⟩ <;> first | rfl | (exact absurd h (by simp))
  · intro vs us zs ws r q
    rcases r with _ | ⟨r0, _⟩ <;> rcases q with _ | ⟨q0, _ | ⟨q1, _ | ⟨q2, _⟩⟩⟩ <;> first | exact .nil | (repeat (first | exact .nil | refine .cons (by assumption) ?_))
theorem kb_quotient_other_one : TW.KB s_quotient ["one", "other"] ["other", "one"] (fun us ws => match us, ws with | [], [w0, w1] => [w1, w0] | _, _ => []) (fun us ws => match us, ws with | [], [w0, w1] => [w1, w0] | _, _ => []) := by
  constructor
  · intro x qual kV doc pm an cdv ct us ws h
    rcases us with _ | ⟨a0, _⟩ <;> rcases ws with _ | ⟨b0, _ | ⟨b1, _ | ⟨b2, _⟩⟩⟩ <;> first | rfl | (exact absurd h (by simp))
  · intro vs us zs ws r q
    rcases r with _ | ⟨r0, _⟩ <;> rcases q with _ | ⟨q0, _ | ⟨q1, _ | ⟨q2, _⟩⟩⟩ <;> first | exact .nil | (repeat (first | exact .nil | refine .cons (by assumption) ?_))
theorem kb_added_other_one : TW.KB s_added ["one", "other"] ["other", "one"] (fun us ws => match us, ws with | [], [w0, w1] => [w1, w0] | _, _ => []) (fun us ws => match us, ws with | [], [w0, w1] => [w1, w0] | _, _ => []) := by
  constructor
  · intro x qual kV doc pm an cdv ct us ws h
    rcases us with _ | ⟨a0, _⟩ <;> rcases ws with _ | ⟨b0, _ | ⟨b1, _ | ⟨b2, _⟩⟩⟩ <;> first | rfl | (exact absurd h (by simp))
  · intro vs us zs ws r q
    rcases r with _ | ⟨r0, _⟩ <;> rcases q with _ | ⟨q0, _ | ⟨q1, _ | ⟨q2, _⟩⟩⟩ <;> first | exact .nil | (repeat (first | exact .nil | refine .cons (by assumption) ?_))
theorem kb_product_other_one : TW.KB s_product ["one", "other"] ["other", "one"] (fun us ws => match us, ws with | [], [w0, w1] => [w1, w0] | _, _ => []) (fun us ws => match us, ws with | [], [w0, w1] => [w1, w0] | _, _ => []) := by
  constructor
  · intro x qual kV doc pm an cdv ct us ws h
    rcases us with _ | ⟨a0, _⟩ <;> rcases ws with _ | ⟨b0, _ | ⟨b1, _ | ⟨b2, _⟩⟩⟩ <;> first | rfl | (exact absurd h (by simp))
  · intro vs us zs ws r q
    rcases r with _ | ⟨r0, _⟩ <;> rcases q with _ | ⟨q0, _ | ⟨q1, _ | ⟨q2, _⟩⟩⟩ <;> first | exact .nil | (repeat (first | exact .nil | refine .cons (by assumption) ?_))
section
variable {P : Program} {w : World} {K : PySem.W.Frag} {mg : Str → Option Value} {base : Heap} {C_WorthError C_InvalidNumber C_InvalidSigns C_UnknownSign C_InvalidMachine C_UnlikeSigns f_err : Addr}
theorem ok_init {f_err : Addr} {fd : FuncData} (F : Fun K "__init__" "WorthError.__init__" s_WorthError___init__ f_err fd) : FnOk P w K mg base CX0 1 f_err fd ["self", "value"] (TW.sp_err K) :=
  TW.ok_err F sc_WorthError___init__ fun cdv A outer s H E => pss_one (ps_ost (pv 0) (pv 1))
theorem er_InvalidNumber (T : Txt K mg C_WorthError C_InvalidNumber C_InvalidSigns C_UnknownSign C_InvalidMachine C_UnlikeSigns f_err) : TW.ErrAt P w K mg base "InvalidNumber" C_InvalidNumber := by
  obtain ⟨fd, F, b⟩ := T.fn_err
  exact ⟨f_err, fd, T.ec_InvalidNumber, T.in_InvalidNumber, T.ty_err, ok_init F, b, T.cl_InvalidNumber⟩
structure DeckC (H : Hp) (a g : Addr) (cur mark cnt : Int) (gs : List Int) : Prop where
  cell : H a = some (.lst [.ref g, .int cur, .int mark, .int cnt])
  great : H g = some (.lst (gs.map V.int))
  ne : a ≠ g
  cur0 : 0 ≤ cur
  mark0 : 0 ≤ mark ∧ mark ≤ 1000000000000000003
  cnt0 : 0 ≤ cnt
  gs0 : ∀ z ∈ gs, 0 ≤ z
  gsl : gs.length ≤ 63
/-- the deck at a, its great cells at g; at most 16000000 draws, n of them are still free -/
def Deck (H : Hp) (a g : Addr) (n : Nat) : Prop := ∃ cur mark cnt gs, DeckC H a g cur mark cnt gs ∧ cnt + n ≤ 16000000
def Off (a g : Addr) : Addr → Prop := fun b => b ≠ a ∧ b ≠ g
def sp_draw : Sp := fun vs H Q _ => ∃ (a g : Addr) (n : Nat) (lim : Int), vs = [.ref a, .int lim] ∧ Deck H a g (n + 1) ∧ 0 < lim ∧ lim ≤ 1000000000000000000000000000000000 ∧ ∀ (H' : Hp) (r : Int), TW.Fr (Off a g) H H' → Deck H' a g n → 0 ≤ r → r < lim → Q (.int r) H'
theorem dpInts {H : Hp} : ∀ gs : List Int, DpAll K H (gs.map V.int) (gs.map PyData.int)
  | [] => .nil
  | z :: gs => .cons (.int z) (dpInts gs)
theorem layInts : ∀ gs : List Int, PyData.canLayAll0 (gs.map PyData.int) = true
  | [] => by simp [PyData.canLayAll0]
  | z :: gs => by simp [PyData.canLayAll0, PyData.canLay0, layInts gs]
theorem depthInts : ∀ gs : List Int, PyData.depthAll (gs.map PyData.int) = 0
  | [] => by simp [PyData.depthAll]
  | z :: gs => by simp [PyData.depthAll, PyData.depth, depthInts gs]
theorem shapedInts (gs : List Int) : SeqAt.shaped (.list (gs.map PyData.int)) = true := by
  show (PyData.canLay0 (.list (gs.map PyData.int)) && decide (PyData.depth (.list (gs.map PyData.int)) ≤ 64)) = true
  rw [Bool.and_eq_true]
  refine ⟨by simp only [PyData.canLay0]; exact layInts gs, decide_eq_true ?_⟩
  simp only [PyData.depth, depthInts]
  decide
theorem x_neNil {H : Hp} {g p : Addr} {gs : List Int} {Q : VK} (hg : SqL K H g (gs.map V.int)) (hp : SqL K H p []) (h : Q (.bl (!decide (gs = []))) H) : rNeD K (.ref g) (.ref p) H Q := by
  refine ⟨.list (gs.map PyData.int), .list [], .lst hg (dpInts gs), .lst hp .nil, shapedInts gs, by decide, ?_⟩
  have e : PyData.eqv (.list (gs.map PyData.int)) (.list []) = decide (gs = []) := by
    cases gs with
    | nil => decide
    | cons z gs => simp [PyData.eqv, PyData.eqvAll]
  rw [e]
  exact h
theorem c__law_draw (T : Txt K mg C_WorthError C_InvalidNumber C_InvalidSigns C_UnknownSign C_InvalidMachine C_UnlikeSigns f_err) : FnAt P w K mg base CX0 1 "_law_draw" s__law_draw ["_law_deck_here", "_law_limit"] sp_draw := by
  refine TW.mkFn T.d__law_draw sc__law_draw (fun vs H Q E h => ?_) (fun f cdv A outer s H vs Q E hr h => ?_)
  · obtain ⟨a, g, n, lim, rfl, _⟩ := h
    rfl
  · obtain ⟨a, g, n, lim, rfl, D, hl, hl9, k⟩ := h
    refine ⟨_, (Evl.pss_cut (ps_if (PW.pt (pw_and (pt_cmpR op_eq (pe_ix ix_list (pv 0) pe_int (fun _ _ => rfl)) pe_int (nomark _)) (pw_and1 (pt_cmpR (op_neD (hr.units)) (pe_ix ix_list (pv 0) pe_int (fun _ _ => rfl)) (pe_lst pa_nil) (nomark _))))) (pss_one (ps_asg (pe_bm0 PySem.F.plainAttrs_list PySem.F.slot_list_pop PySem.F.type_list_pop mt_pop (pe_ix ix_list (pv 0) pe_int (fun _ _ => rfl))) (pg_sub (pv 0) pe_int set_list))) pss_nil)
  (pss_cons (ps_if (pt_cmpR op_gt (pe_ix ix_list (pv 0) pe_int (fun _ _ => rfl)) pe_int (nomark _)) (pss_cons (ps_set (i := 2) sc__law_draw.nd rfl (.inl rfl) (pe_op op_mod (pe_callTy TW.call_int (by rfl) T.no_int (by decide +kernel) (pa_cons (pe_ix ix_list (pv 0) pe_int (fun _ _ => rfl)) pa_nil)) (pv 1)))
  (pss_cons (ps_asg (pe_op op_fdivW (pe_ix ix_list (pv 0) pe_int (fun _ _ => rfl)) (pv 1)) (pg_sub (pv 0) pe_int set_list))
  (pss_one (ps_ret (pv 2))))) pss_nil)
  (pss_cons (ps_asg (pe_op op_add (pe_ix ix_list (pv 0) pe_int (fun _ _ => rfl)) pe_int) (pg_sub (pv 0) pe_int set_list))
  (pss_cons (ps_set (i := 3) sc__law_draw.nd rfl (.inl rfl) (pe_op op_mod (pe_callTy TW.call_int (by rfl) T.no_int (by decide +kernel) (pa_cons (pe_op op_pow (pe_op op_add (pe_ix ix_list (pv 0) pe_int (fun _ _ => rfl)) (pe_op op_mul (pe_op op_mul pe_int (pe_ix ix_list (pv 0) pe_int (fun _ _ => rfl))) (pe_ix ix_list (pv 0) pe_int (fun _ _ => rfl)))) pe_int) pa_nil)) pe_int))
  (pss_one (ps_ret (pe_op op_mod (pe_op op_fdivW (pe_op op_mod (pe_callTy TW.call_int (by rfl) T.no_int (by decide +kernel) (pa_cons (pe_op op_mulW (pv 3) (pe_op op_add (pv 3) pe_int)) pa_nil)) pe_int) pe_int) (pv 1)))))))), ?_⟩
    obtain ⟨cur, mark, cnt, gs, D, hn⟩ := D
    have hc := D.cell
    have hg := D.great
    have hne := D.ne
    have hd : CDivW 0 lim := TW.cdivW hl (Nat.lt_of_le_of_lt (show lim.natAbs ≤ 1000000000000000000000000000000000 by omega) (by decide +kernel))
    walk_at "K"
    refine TW.x_cut (fun σ H1 => σ = [some (.ref a), some (.int lim), none, none] ∧ TW.Fr (Off a g) H H1 ∧ ∃ cur1 gs1, DeckC H1 a g cur1 mark cnt gs1) ?_ ?_
    · walk_at "s"
      refine TW.x_ite (fun c1 => ?_) (fun c1 => ?_)
      · walk_at "s"
        rename_i p hp
        have hgp := ne_of_none hg hp
        have hap := ne_of_none hc hp
        refine x_neNil (gs := gs) (by walk_at "heap") (by walk_at "heap") ?_
        walk_at "s"
        have fp : TW.Fr (Off a g) H (upd H p (.lst [])) := TW.Fr.new hp
        refine TW.x_iteN (fun c2 => ?_) (fun c2 => ?_)
        · have hl2 : gs.getLast? = some (gs.getLast c2) := List.getLast?_eq_some_getLast c2
          have hl3 : (gs.map V.int).getLast? = some (V.int (gs.getLast c2)) := by rw [List.getLast?_map, hl2]; rfl
          walk_at "s"
          refine ⟨rfl, (fp.trans (TW.Fr.set (fun z => z.2 rfl) (by walk_at "hp"))).trans (TW.Fr.set (fun z => z.1 rfl) (by walk_at "hp")), gs.getLast c2, gs.dropLast, upd_same, ?_, hne, D.gs0 _ (List.getLast_mem c2), D.mark0, D.cnt0, fun z hz => D.gs0 z (List.dropLast_subset _ hz), ?_⟩
          · rw [upd_ne hne.symm, upd_same, List.map_dropLast]
          · rw [List.length_dropLast]
            have := D.gsl
            omega
        · walk_at "s"
          exact ⟨rfl, fp, cur, gs, by walk_at "hp", by walk_at "hp", hne, D.cur0, D.mark0, D.cnt0, D.gs0, D.gsl⟩
      · walk_at "s"
        exact ⟨rfl, TW.Fr.refl, cur, gs, D⟩
    · rintro σ H1 ⟨rfl, f1, cur1, gs1, D1⟩
      have hc1 := D1.cell
      have hg1 := D1.great
      walk_at "s"
      refine TW.x_ite (fun c1 => ?_) (fun c1 => ?_)
      · have hd : CDivW cur1 lim := hd
        walk_at "s"
        refine k _ _ (f1.trans (TW.Fr.set (fun z => z.1 rfl) hc1)) ⟨cur1 / lim, mark, cnt, gs1, ⟨upd_same, by walk_at "hp", hne, Int.ediv_nonneg D1.cur0 (by omega), D1.mark0, D1.cnt0, D1.gs0, D1.gsl⟩, by omega⟩ (Int.emod_nonneg _ (by omega)) (Int.emod_lt_of_pos _ hl)
      · have hm := D1.mark0
        have h0 := D1.cnt0
        have hq : 7907 * (cnt + 1) * (cnt + 1) ≤ 7907 * 16000000 * 16000000 := Int.mul_le_mul (by omega) (by omega) (by omega) (by omega)
        have hq0 : 0 ≤ 7907 * (cnt + 1) * (cnt + 1) := Int.mul_nonneg (by omega) (by omega)
        walk_at "s"
        have s0 : 0 ≤ (mark + 7907 * (cnt + 1) * (cnt + 1)) ^ Int.toNat 2 % 1000000000000000000000007 := Int.emod_nonneg _ (by decide)
        have s1 : (mark + 7907 * (cnt + 1) * (cnt + 1)) ^ Int.toNat 2 % 1000000000000000000000007 < 1000000000000000000000007 := Int.emod_lt_of_pos _ (by decide)
        generalize (mark + 7907 * (cnt + 1) * (cnt + 1)) ^ Int.toNat 2 % 1000000000000000000000007 = stir at s0 s1 ⊢
        refine TW.x_rI (wide_mul (a := 90) (b := 90) (Nat.lt_of_le_of_lt (show stir.natAbs ≤ 1000000000000000000000007 by omega) (by decide +kernel)) (Nat.lt_of_le_of_lt (show (stir + 41).natAbs ≤ 1000000000000000000000107 by omega) (by decide +kernel)) (by decide) (by decide) (by decide)) ?_
        walk_at "s"
        exact k _ _ (f1.trans (TW.Fr.set (fun z => z.1 rfl) hc1)) ⟨cur1, mark, cnt + 1, gs1, ⟨upd_same, by walk_at "hp", hne, D1.cur0, D1.mark0, by omega, D1.gs0, D1.gsl⟩, by omega⟩ (Int.emod_nonneg _ (by omega)) (Int.emod_lt_of_pos _ hl)
def sp_deck (K : PySem.W.Frag) : Sp := fun vs H Q _ => ∃ (l : Addr) (ns : List Int), vs = [.ref l] ∧ SqL K H l (ns.map V.int) ∧ ns.length ≤ 63 ∧
  ∀ (H' : Hp) (a g : Addr), TW.Fr (fun _ => True) H H' → H a = none → H g = none → Deck H' a g 16000000 → Q (.ref a) H'
theorem ten18 : (10 : Int) ^ Int.toNat 18 = 1000000000000000000 := by decide +kernel
theorem c__law_deck (T : Txt K mg C_WorthError C_InvalidNumber C_InvalidSigns C_UnknownSign C_InvalidMachine C_UnlikeSigns f_err) : FnAt P w K mg base CX0 1 "_law_deck" s__law_deck ["_law_script"] (sp_deck K) := by
  refine TW.mkFn T.d__law_deck sc__law_deck (fun vs H Q E h => ?_) (fun f cdv A outer s H vs Q E hr h => ?_)
  · obtain ⟨l, ns, rfl, _⟩ := h
    rfl
  · obtain ⟨l, ns, rfl, hS, hlen, k⟩ := h
    refine ⟨_, (pss_cons (ps_par (i := 1) (j := 2) (by rfl) sc__law_deck.nd rfl rfl (by decide) rfl rfl (pa_cons pe_int (pa_cons (pe_lst pa_nil) pa_nil)) (by rfl))
  (pss_cons (ps_for PassesOwn.never rfl (pi_list (pv 0)) (pg_name (i := 3) sc__law_deck.nd rfl (.inl rfl)) (pss_one (ps_if (pt_cmpR op_ge (pv 3) (pe_op op_pow pe_int pe_int) (nomark _)) (pss_one (ps_expr (pe_bm PySem.F.plainAttrs_list PySem.F.slot_list_insert PySem.F.type_list_insert TW.mt_insertC (pv 2) (pa_cons pe_int (pa_cons (pe_op op_sub (pv 3) (pe_op op_pow pe_int pe_int)) pa_nil))))) (pss_one (ps_set (i := 1) sc__law_deck.nd rfl (.inl rfl) (pe_op op_add (pe_op op_mod (pe_callTy TW.call_int (by rfl) T.no_int (by decide +kernel) (pa_cons (pe_op op_pow (pe_op op_add (pv 1) (pe_op op_mod (pe_callTy TW.call_int (by rfl) T.no_int (by decide +kernel) (pa_cons (pv 3) pa_nil)) pe_int)) pe_int) pa_nil)) pe_int) pe_int))))))
  (pss_one (ps_ret (pe_lst (pa_cons (pv 2) (pa_cons pe_int (pa_cons (pv 1) (pa_cons pe_int pa_nil))))))))), ?_⟩
    walk_at "K"
    walk_at "s"
    rename_i g hg
    refine TW.x_forL (xs := ns.map V.int) (Fr.sqL (Fr.new hg) (ok := fun _ => True) trivial hS) (fun i σ H1 => ∃ (mark : Int) (gs : List Int) (v : Option V), σ = [some (.ref l), some (.int mark), some (.ref g), v] ∧ TW.Fr (fun _ => True) H H1 ∧
      H1 g = some (.lst (gs.map V.int)) ∧ 0 ≤ mark ∧ mark ≤ 1000000000000000003 ∧ (∀ z ∈ gs, 0 ≤ z) ∧ gs.length ≤ i)
      ⟨40961, [], none, rfl, Fr.new hg, upd_same, by omega, by omega, (fun z hz => by cases hz), Nat.le_refl _⟩ (fun i σ H1 _ h => ?_) ?_ ?_
    · obtain ⟨_, _, _, _, f1, _⟩ := h
      exact f1.sqL trivial hS
    · rintro i x σ H1 hx ⟨mark, gs, v, rfl, f1, h1, m0, m1, g0, gl⟩
      have hi : i < ns.length := by
        have q := (List.getElem?_eq_some_iff.mp hx).1
        rwa [List.length_map] at q
      obtain ⟨z, rfl⟩ : ∃ z, x = V.int z := by
        rw [List.getElem?_map] at hx
        cases e : ns[i]? with
        | none =>
          rw [e] at hx
          cases hx
        | some u =>
          rw [e] at hx
          exact ⟨u, (Option.some.inj hx).symm⟩
      walk_at "s"
      refine TW.x_ite (fun c1 => ?_) (fun c1 => ?_)
      · walk_at "s"
        rw [ten18] at c1
        refine TW.x_ty (SqL.of h1) ?_
        walk_at "s"
        rw [ten18]
        refine TW.x_ins0 h1 (by rw [List.length_map]; omega) ?_
        exact ⟨mark, (z - 1000000000000000000) :: gs, some (.int z), rfl, f1.mut hg, upd_same, m0, m1, fun y hy => (List.mem_cons.mp hy).elim (fun e => by omega) (g0 y), by rw [List.length_cons]; omega⟩
      · have q0 := Int.emod_nonneg z (b := 1000000000039) (by decide)
        have q1 := Int.emod_lt_of_pos z (b := 1000000000039) (by decide)
        walk_at "s"
        have r0 := Int.emod_nonneg ((mark + z % 1000000000039) ^ Int.toNat 3) (b := 1000000000000000003) (by decide)
        have r1 := Int.emod_lt_of_pos ((mark + z % 1000000000039) ^ Int.toNat 3) (b := 1000000000000000003) (by decide)
        exact ⟨_, gs, some (.int z), rfl, f1, h1, by omega, by omega, g0, by omega⟩
    · rintro σ H1 ⟨mark, gs, v, rfl, f1, h1, m0, m1, g0, gl⟩
      rw [List.length_map] at gl
      walk_at "s"
      rename_i a ha
      have hga := ne_of_none h1 ha
      exact k _ a g (f1.alloc ha) (f1.back a ha) hg ⟨0, mark, 0, gs, ⟨upd_same, by walk_at "hp", hga.symm, by omega, ⟨m0, m1⟩, by omega, g0, by omega⟩, by omega⟩

/-! ### the law's own gcd, pair -/
def sp_gcd : Sp := fun vs H Q _ => ∃ m n : Int, vs = [.int m, .int n] ∧ Q (.int ((Nat.gcd m.natAbs n.natAbs : Nat) : Int)) H
theorem c__law_gcd (T : Txt K mg C_WorthError C_InvalidNumber C_InvalidSigns C_UnknownSign C_InvalidMachine C_UnlikeSigns f_err) : FnAt P w K mg base CX0 1 "_law_gcd" s__law_gcd ["_law_one", "_law_other"] sp_gcd := by
  refine TW.mkFn T.d__law_gcd sc__law_gcd (fun vs H Q E h => ?_) (fun f cdv A outer s H vs Q E hr h => ?_)
  · obtain ⟨m, n, rfl, _⟩ := h
    rfl
  · obtain ⟨m, n, rfl, k⟩ := h
    refine ⟨_, (pss_cons (ps_par (i := 0) (j := 1) (by rfl) sc__law_gcd.nd rfl rfl (by decide) rfl rfl (pa_cons (pe_callB TW.call_absC (by rfl) T.no_abs (by decide +kernel) (pa_cons (pv 0) pa_nil)) (pa_cons (pe_callB TW.call_absC (by rfl) T.no_abs (by decide +kernel) (pa_cons (pv 1) pa_nil)) pa_nil)) (by rfl))
  (pss_cons (ps_while PassesOwn.never (pt_cmpR op_ne (pv 1) pe_int (nomark _)) (pss_one (ps_par (i := 0) (j := 1) (by rfl) sc__law_gcd.nd rfl rfl (by decide) rfl rfl (pa_cons (pv 1) (pa_cons (pe_op op_mod (pe_callTy TW.call_int (by rfl) T.no_int (by decide +kernel) (pa_cons (pv 0) pa_nil)) (pv 1)) pa_nil)) (by rfl))))
  (pss_one (ps_ret (pv 0))))), ?_⟩
    walk_at "K"
    walk_at "s"
    refine TW.x_while (fun j σ H1 => H1 = H ∧ ∃ a b : Nat, σ = [some (.int (a : Int)), some (.int (b : Int))] ∧ j = b ∧ Nat.gcd a b = Nat.gcd m.natAbs n.natAbs) n.natAbs ⟨rfl, m.natAbs, n.natAbs, rfl, rfl, rfl⟩ ?_ ?_
    · rintro j σ H1 ⟨rfl, a, b, rfl, rfl, e⟩
      walk_at "s"
      refine TW.x_iteN (fun c1 => ?_) (fun c1 => ?_)
      · walk_at "s"
        have e2 : ((a : Int) % (j : Int)) = ((a % j : Nat) : Int) := by omega
        have hlt : a % j < j := Nat.mod_lt _ (by omega)
        rw [e2]
        refine ⟨a % j, hlt, rfl, j, a % j, rfl, rfl, ?_⟩
        rw [← e, Nat.gcd_comm a j, Nat.gcd_rec j a, Nat.gcd_comm]
      · walk_at "s"
        have e0 : j = 0 := by omega
        subst e0
        rw [Nat.gcd_zero_right] at e
        rw [e]
        exact k
    · intro σ H1 Q1 Q2 hm h
      obtain ⟨x, hx, y⟩ := h
      exact ⟨x, hx, y.1, by
        obtain ⟨z, hz⟩ := y
        obtain ⟨q, e, r⟩ := hz
        exact ⟨q, e, hm _ _ r⟩⟩
/-- the number of two integers -/
def ncom (m n : Int) : Int := if n < 0 then -((Nat.gcd m.natAbs n.natAbs : Nat) : Int) else ((Nat.gcd m.natAbs n.natAbs : Nat) : Int)
def nab (m n : Int) : Int := m.fdiv (ncom m n)
def nbe (m n : Int) : Int := n.fdiv (ncom m n)
/-- at t: the tuple of two integers -/
def Pr (H : Hp) (v : V) (m n : Int) : Prop := ∃ t, v = .ref t ∧ H t = some (.tup [.int m, .int n])
theorem Pr.fr {ok : Addr → Prop} {H H' : Hp} {v : V} {m n : Int} (f : Fr ok H H') (h : Pr H v m n) : Pr H' v m n := by
  obtain ⟨t, e, k⟩ := h
  exact ⟨t, e, f.tups _ _ k⟩
theorem Pr.rep {H : Hp} {v : V} {m n : Int} (h : Pr H v m n) : Rep (fun _ => True) H v (.tuple [.int m, .int n]) := by
  obtain ⟨t, rfl, k⟩ := h
  exact .tup k (.cons (.int m) (.cons (.int n) .nil))
theorem depth2 (m n : Int) : PyData.depth (.tuple [.int m, .int n]) < 2 := by simp [PyData.depth, PyData.depthAll]
def sp_pair : Sp := fun vs H Q _ => ∃ m n : Int, vs = [.int m, .int n] ∧ n ≠ 0 ∧ n.natAbs < 2 ^ 8000 ∧ ∀ (H' : Hp) (v : V), TW.Fr (fun _ => True) H H' → Pr H' v (nab m n) (nbe m n) → Q v H'
theorem gcd_wide {m n : Int} (h0 : n ≠ 0) (h : n.natAbs < 2 ^ 8000) : ((Nat.gcd m.natAbs n.natAbs : Nat) : Int) ≠ 0 ∧ ((Nat.gcd m.natAbs n.natAbs : Nat) : Int).natAbs < 2 ^ 8999 := by
  have p : 0 < n.natAbs := by omega
  have q : Nat.gcd m.natAbs n.natAbs ≤ n.natAbs := Nat.le_of_dvd p (Nat.gcd_dvd_right _ _)
  have z := Nat.gcd_pos_of_pos_right m.natAbs p
  refine ⟨by omega, ?_⟩
  rw [Int.natAbs_natCast]
  exact Nat.lt_of_le_of_lt q (Nat.lt_of_lt_of_le h (Nat.pow_le_pow_right (by decide) (by decide)))
theorem c__law_pair (T : Txt K mg C_WorthError C_InvalidNumber C_InvalidSigns C_UnknownSign C_InvalidMachine C_UnlikeSigns f_err) : FnAt P w K mg base CX0 2 "_law_pair" s__law_pair ["_law_above", "_law_below"] sp_pair := by
  refine TW.mkFn T.d__law_pair sc__law_pair (fun vs H Q E h => ?_) (fun f cdv A outer s H vs Q E hr h => ?_)
  · obtain ⟨m, n, rfl, _⟩ := h
    rfl
  · obtain ⟨m, n, rfl, hn, hw, k⟩ := h
    refine ⟨_, (pss_cons (ps_set (i := 2) sc__law_pair.nd rfl (.inl rfl) (TW.pe_c ((c__law_gcd) T) hr (by decide) rfl (pa_cons (pv 0) (pa_cons (pv 1) pa_nil))))
  (pss_cons (ps_if (pt_cmpR op_lt (pv 1) pe_int (nomark _)) (pss_one (ps_set (i := 2) sc__law_pair.nd rfl (.inl rfl) (pe_op op_sub pe_int (pv 2)))) pss_nil)
  (pss_one (ps_ret (pe_tup (pa_cons (pe_op TW.op_fdivWN (pv 0) (pv 2)) (pa_cons (pe_op TW.op_fdivWN (pv 1) (pv 2)) pa_nil))))))), ?_⟩
    walk_at "K"
    walk_at "s"
    refine ⟨m, n, rfl, ?_⟩
    obtain ⟨hg, hb⟩ := gcd_wide (m := m) hn hw
    walk_at "s"
    refine TW.x_ite (fun c1 => ?_) (fun c1 => ?_)
    · have ec : ncom m n = 0 - ((Nat.gcd m.natAbs n.natAbs : Nat) : Int) := by rw [ncom, if_pos c1]; omega
      have cd : ∀ i : Int, CDivWN i (0 - ((Nat.gcd m.natAbs n.natAbs : Nat) : Int)) := fun i => cdivWN (by omega) (by rw [show (0 - ((Nat.gcd m.natAbs n.natAbs : Nat) : Int)).natAbs = ((Nat.gcd m.natAbs n.natAbs : Nat) : Int).natAbs by omega]; exact hb)
      have c1 := cd m
      have c2 := cd n
      walk_at "s"
      rename_i t ht
      refine k _ _ (Fr.new ht) ⟨t, rfl, ?_⟩
      rw [nab, nbe, ec]
      exact upd_same
    · have ec : ncom m n = ((Nat.gcd m.natAbs n.natAbs : Nat) : Int) := by rw [ncom, if_neg c1]
      have cd : ∀ i : Int, CDivWN i ((Nat.gcd m.natAbs n.natAbs : Nat) : Int) := fun i => cdivWN hg hb
      have c1 := cd m
      have c2 := cd n
      walk_at "s"
      rename_i t ht
      refine k _ _ (Fr.new ht) ⟨t, rfl, ?_⟩
      rw [nab, nbe, ec]
      exact upd_same

/-! ### _law_alike: two values that stand for one datum -/
def sp_alike (n : Nat) : Sp := fun vs H Q _ => ∃ (v u : V) (d : PyData), vs = [v, u] ∧ Rep (fun _ => True) H v d ∧ Rep (fun _ => True) H u d ∧ PyData.depth d < n ∧ ∀ H' : Hp, Fr (fun _ => True) H H' → Q (.bl true) H'
theorem depth_get : ∀ {ds : List PyData} {i : Nat} {d : PyData}, ds[i]? = some d → PyData.depth d ≤ PyData.depthAll ds
  | [], _, _, h => by simp at h
  | a :: ds, 0, d, h => by
    have e : a = d := Option.some.inj h
    subst e
    simp only [PyData.depthAll]
    omega
  | a :: ds, i + 1, d, h => by
    have q := depth_get (ds := ds) (i := i) h
    simp only [PyData.depthAll]
    omega
theorem alike_step (T : Txt K mg C_WorthError C_InvalidNumber C_InvalidSigns C_UnknownSign C_InvalidMachine C_UnlikeSigns f_err) (n : Nat) (ih : FnAt P w K mg base CX0 n "_law_alike" s__law_alike ["_law_found", "_law_due_here"] (sp_alike n)) : FnAt P w K mg base CX0 (n + 1) "_law_alike" s__law_alike ["_law_found", "_law_due_here"] (sp_alike (n + 1)) := by
  refine TW.mkFn T.d__law_alike sc__law_alike (fun vs H Q E h => ?_) (fun f cdv A outer s H vs Q E hr h => ?_)
  · obtain ⟨v, u, d, rfl, _⟩ := h
    rfl
  · obtain ⟨v, u, d, rfl, hv, hu, hd, k⟩ := h
    refine ⟨_, (pss_cons (ps_if (pt_cmpR TW.op_isNC (pv 1) pe_non (nomark _)) (pss_one (ps_ret (pe_cmpR TW.op_isNC (pv 0) pe_non (nomark _)))) pss_nil)
  (pss_cons (ps_if (pt_val (pe_callB call_isiT (by rfl) T.no_isinstance (by decide +kernel) (pa_cons (pv 1) (pa_cons (pe_tup (pa_cons (pe_bltn (v := .ty "list") (u := .type "list") (by rfl) T.no_list (by decide +kernel) rfl) (pa_cons (pe_bltn (v := .ty "tuple") (u := .type "tuple") (by rfl) T.no_tuple (by decide +kernel) rfl) pa_nil))) pa_nil)))) (pss_cons (ps_if (PW.pt (pw_or (pt_not (pt_val (pe_callB call_isiT (by rfl) T.no_isinstance (by decide +kernel) (pa_cons (pv 0) (pa_cons (pe_tup (pa_cons (pe_bltn (v := .ty "list") (u := .type "list") (by rfl) T.no_list (by decide +kernel) rfl) (pa_cons (pe_bltn (v := .ty "tuple") (u := .type "tuple") (by rfl) T.no_tuple (by decide +kernel) rfl) pa_nil))) pa_nil))))) (pw_or1 (pt_cmpR op_ne (pe_callB call_isi (by rfl) T.no_isinstance (by decide +kernel) (pa_cons (pv 0) (pa_cons (pe_bltn (v := .ty "list") (u := .type "list") (by rfl) T.no_list (by decide +kernel) rfl) pa_nil))) (pe_callB call_isi (by rfl) T.no_isinstance (by decide +kernel) (pa_cons (pv 1) (pa_cons (pe_bltn (v := .ty "list") (u := .type "list") (by rfl) T.no_list (by decide +kernel) rfl) pa_nil))) (nomark _))))) (pss_one (ps_ret pe_bl)) pss_nil)
  (pss_cons (ps_if (pt_cmpR op_ne (pe_callB TW.call_len_seqC (by rfl) T.no_len PySem.boot_len (pa_cons (pv 0) pa_nil)) (pe_callB TW.call_len_seqC (by rfl) T.no_len PySem.boot_len (pa_cons (pv 1) pa_nil)) (nomark _)) (pss_one (ps_ret pe_bl)) pss_nil)
  (pss_cons (ps_for PassesOwn.never rfl (RZ.pi_zipA (by rfl) T.no_zip (pa_cons (pv 0) (pa_cons (pv 1) pa_nil))) (pg_tup (by rfl) (pgs_cons (pg_name (i := 2) sc__law_alike.nd rfl (.inl rfl)) (pgs_cons (pg_name (i := 3) sc__law_alike.nd rfl (.inl rfl)) pgs_nil))) (pss_one (ps_if (pt_not (pt_val (TW.pe_c ((fun _ => ih) T) hr (Nat.le_refl _) rfl (pa_cons (pv 2) (pa_cons (pv 3) pa_nil))))) (pss_one (ps_ret pe_bl)) pss_nil)))
  (pss_one (ps_ret pe_bl))))) pss_nil)
  (pss_cons (ps_if (pt_val (pe_callB call_isi (by rfl) T.no_isinstance (by decide +kernel) (pa_cons (pv 1) (pa_cons (pe_bltn (v := .ty "str") (u := .type "str") (by rfl) T.no_str (by decide +kernel) rfl) pa_nil)))) (pss_one (ps_ret (pe_and (pe_callB call_isi (by rfl) T.no_isinstance (by decide +kernel) (pa_cons (pv 0) (pa_cons (pe_bltn (v := .ty "str") (u := .type "str") (by rfl) T.no_str (by decide +kernel) rfl) pa_nil))) (pe_one (pe_cmpR op_eq (pv 0) (pv 1) (nomark _)))))) pss_nil)
  (pss_cons (ps_if (pt_cmpR op_ne (pe_callB call_isi (by rfl) T.no_isinstance (by decide +kernel) (pa_cons (pv 0) (pa_cons (pe_bltn (v := .ty "bool") (u := .type "bool") (by rfl) T.no_bool (by decide +kernel) rfl) pa_nil))) (pe_callB call_isi (by rfl) T.no_isinstance (by decide +kernel) (pa_cons (pv 1) (pa_cons (pe_bltn (v := .ty "bool") (u := .type "bool") (by rfl) T.no_bool (by decide +kernel) rfl) pa_nil))) (nomark _)) (pss_one (ps_ret pe_bl)) pss_nil)
  (pss_one (ps_ret (pe_and (pe_callB call_isi (by rfl) T.no_isinstance (by decide +kernel) (pa_cons (pv 0) (pa_cons (pe_bltn (v := .ty "int") (u := .type "int") (by rfl) T.no_int (by decide +kernel) rfl) pa_nil))) (pe_one (pe_cmpR op_eq (pv 0) (pv 1) (nomark _)))))))))), ?_⟩
    walk_at "K"
    have tr : ∀ {H : Hp} {p : Addr} {o : HO}, H p = none → Fr (fun _ => True) H (upd H p o) := fun h => Fr.new h
    cases hv with
    | non =>
      cases hu
      walk_at "s"
      exact k _ Fr.refl
    | int i =>
      cases hu
      walk_at "s"
      rename_i p hp
      refine x_isi2 (ok := fun _ => True) (r := false) (Rep.int i) upd_same kI_int_list kI_int_tuple rfl ?_
      walk_at "s"
      refine x_isi (ok := fun _ => True) (Rep.int i) kI_int_str ?_
      walk_at "s"
      refine x_isi (ok := fun _ => True) (Rep.int i) kI_int_bool ?_
      walk_at "s"
      refine x_isi (ok := fun _ => True) (Rep.int i) kI_int_bool ?_
      walk_at "s"
      refine x_isi (ok := fun _ => True) (Rep.int i) kI_int_int ?_
      walk_at "s"
      exact k _ (Fr.new hp)
    | bl b =>
      cases hu
      walk_at "s"
      rename_i p hp
      refine x_isi2 (ok := fun _ => True) (r := false) (Rep.bl b) upd_same kI_bool_list kI_bool_tuple rfl ?_
      walk_at "s"
      refine x_isi (ok := fun _ => True) (Rep.bl b) kI_bool_str ?_
      walk_at "s"
      refine x_isi (ok := fun _ => True) (Rep.bl b) kI_bool_bool ?_
      walk_at "s"
      refine x_isi (ok := fun _ => True) (Rep.bl b) kI_bool_bool ?_
      walk_at "s"
      refine x_isi (ok := fun _ => True) (Rep.bl b) kI_bool_int ?_
      walk_at "s"
      exact k _ (Fr.new hp)
    | str x =>
      cases hu
      walk_at "s"
      rename_i p hp
      refine x_isi2 (ok := fun _ => True) (r := false) (Rep.str x) upd_same kI_str_list kI_str_tuple rfl ?_
      walk_at "s"
      refine x_isi (ok := fun _ => True) (Rep.str x) kI_str_str ?_
      walk_at "s"
      refine x_isi (ok := fun _ => True) (Rep.str x) kI_str_str ?_
      walk_at "s"
      exact k _ (Fr.new hp)
    | @tup a xs ds e r =>
      cases hu with
      | @tup b ys ds' e2 r2 =>
      have hl : xs.length = ys.length := by rw [r.len, r2.len]
      walk_at "s"
      rename_i p hp
      have f1 := tr (o := .tup [V.ty "list", V.ty "tuple"]) hp
      have ra := (Rep.tup (ok := fun _ => True) e r).fr f1
      have rb := (Rep.tup (ok := fun _ => True) e2 r2).fr f1
      refine x_isi2 (r := true) rb upd_same kI_tuple_list kI_tuple_tuple rfl ?_
      walk_at "s"
      rename_i p2 hp2
      have f2 := f1.trans (tr (o := .tup [V.ty "list", V.ty "tuple"]) hp2)
      have ra := ra.fr (tr (o := .tup [V.ty "list", V.ty "tuple"]) hp2)
      have rb := rb.fr (tr (o := .tup [V.ty "list", V.ty "tuple"]) hp2)
      refine x_isi2 (r := true) ra upd_same kI_tuple_list kI_tuple_tuple rfl ?_
      walk_at "s"
      refine x_isi ra kI_tuple_list ?_
      walk_at "s"
      refine x_isi rb kI_tuple_list ?_
      walk_at "s"
      generalize upd (upd H p (.tup [V.ty "list", V.ty "tuple"])) p2 (.tup [V.ty "list", V.ty "tuple"]) = H2 at f2 ⊢
      have e1 := f2.tups _ _ e
      have e3 := f2.tups _ _ e2
      walk_at "s"
      refine x_iteNF (by rw [hl]) ?_
      walk_at "s"
      refine x_forZT (xs := xs) (ys := ys) (by walk_at "heap") (by walk_at "heap") hl (fun i σ H1 => ∃ x y : Option V, σ = [some (.ref a), some (.ref b), x, y] ∧ Fr (fun _ => True) H H1) ⟨none, none, rfl, f2⟩ (fun i σ H1 h => ?_) ?_ ?_
      · obtain ⟨x, y, rfl, f3⟩ := h
        exact ⟨.of (f3.tups _ _ e), .of (f3.tups _ _ e2)⟩
      · rintro i x y t σ H1 hx hy ⟨_, _, rfl, f3⟩ ht
        obtain ⟨d, hd1, rx⟩ := r.get hx
        obtain ⟨d', hd2, ry⟩ := r2.get hy
        obtain rfl : d = d' := Option.some.inj (hd1.symm.trans hd2)
        have f4 := f3.alloc (o := .tup [x, y]) ht
        walk_at "s"
        refine ⟨x, y, d, rfl, rx.fr f4, ry.fr f4, ?_, fun H5 f5 => ?_⟩
        · have q := depth_get hd1
          simp only [PyData.depth] at hd
          omega
        · walk_at "s"
          exact ⟨some x, some y, rfl, f4.trans f5⟩
      · rintro σ H1 ⟨x, y, rfl, f3⟩
        walk_at "s"
        exact k _ f3
    | @lst a xs ds q e r =>
      cases hu with
      | @lst b ys ds' q2 e2 r2 =>
      have hl : xs.length = ys.length := by rw [r.len, r2.len]
      walk_at "s"
      rename_i p hp
      have f1 := tr (o := .tup [V.ty "list", V.ty "tuple"]) hp
      have ra := (Rep.lst (ok := fun _ => True) trivial e r).fr f1
      have rb := (Rep.lst (ok := fun _ => True) trivial e2 r2).fr f1
      refine x_isi2 (r := true) rb upd_same kI_list_list kI_list_tuple rfl ?_
      walk_at "s"
      rename_i p2 hp2
      have f2 := f1.trans (tr (o := .tup [V.ty "list", V.ty "tuple"]) hp2)
      have ra := ra.fr (tr (o := .tup [V.ty "list", V.ty "tuple"]) hp2)
      have rb := rb.fr (tr (o := .tup [V.ty "list", V.ty "tuple"]) hp2)
      refine x_isi2 (r := true) ra upd_same kI_list_list kI_list_tuple rfl ?_
      walk_at "s"
      refine x_isi ra kI_list_list ?_
      walk_at "s"
      refine x_isi rb kI_list_list ?_
      walk_at "s"
      generalize upd (upd H p (.tup [V.ty "list", V.ty "tuple"])) p2 (.tup [V.ty "list", V.ty "tuple"]) = H2 at f2 ⊢
      have e1 := f2.keep _ _ trivial e
      have e3 := f2.keep _ _ trivial e2
      walk_at "s"
      refine x_iteNF (by rw [hl]) ?_
      walk_at "s"
      refine x_forZL (xs := xs) (ys := ys) (by walk_at "heap") (by walk_at "heap") hl (fun i σ H1 => ∃ x y : Option V, σ = [some (.ref a), some (.ref b), x, y] ∧ Fr (fun _ => True) H H1) ⟨none, none, rfl, f2⟩ (fun i σ H1 h => ?_) ?_ ?_
      · obtain ⟨x, y, rfl, f3⟩ := h
        exact ⟨.of (f3.keep _ _ trivial e), .of (f3.keep _ _ trivial e2)⟩
      · rintro i x y t σ H1 hx hy ⟨_, _, rfl, f3⟩ ht
        obtain ⟨d, hd1, rx⟩ := r.get hx
        obtain ⟨d', hd2, ry⟩ := r2.get hy
        obtain rfl : d = d' := Option.some.inj (hd1.symm.trans hd2)
        have f4 := f3.alloc (o := .tup [x, y]) ht
        walk_at "s"
        refine ⟨x, y, d, rfl, rx.fr f4, ry.fr f4, ?_, fun H5 f5 => ?_⟩
        · have q := depth_get hd1
          simp only [PyData.depth] at hd
          omega
        · walk_at "s"
          exact ⟨some x, some y, rfl, f4.trans f5⟩
      · rintro σ H1 ⟨x, y, rfl, f3⟩
        walk_at "s"
        exact k _ f3
theorem c__law_alike (T : Txt K mg C_WorthError C_InvalidNumber C_InvalidSigns C_UnknownSign C_InvalidMachine C_UnlikeSigns f_err) : ∀ n : Nat, FnAt P w K mg base CX0 n "_law_alike" s__law_alike ["_law_found", "_law_due_here"] (sp_alike n)
  | 0 => by
    obtain ⟨f, fd, h1, h2, h3⟩ := T.d__law_alike.ex
    exact ⟨f, fd, ⟨fun vs H Q E h => by obtain ⟨_, _, _, _, _, _, z, _⟩ := h; omega, fun A outer s H args us vs Q E hr he hb hv h => by obtain ⟨_, _, _, _, _, _, z, _⟩ := h; omega⟩, h1, h2, h3⟩
  | n + 1 => alike_step T n (c__law_alike T n)

/-! ### numbers.number -/
theorem c_number (T : Txt K mg C_WorthError C_InvalidNumber C_InvalidSigns C_UnknownSign C_InvalidMachine C_UnlikeSigns f_err) : FnAt P w K mg base CX0 3 "number" s_number ["above", "below"] sp_pair := by
  refine TW.mkFn T.d_number sc_number (fun vs H Q E h => ?_) (fun f cdv A outer s H vs Q E hr h => ?_)
  · obtain ⟨m, n, rfl, _⟩ := h
    rfl
  · obtain ⟨m, n, rfl, hn, hw, k⟩ := h
    refine ⟨_, (pss_cons (ps_if (pt_cmpR op_eq (pv 1) pe_int (nomark _)) (pss_one ps_never) pss_nil)
  (pss_cons (ps_set (i := 2) sc_number.nd rfl (.inl rfl) (pe_callBfun cr_gcd (by rfl) T.mg_gcd (pa_cons (pv 0) (pa_cons (pv 1) pa_nil))))
  (pss_cons (ps_if (pt_cmpR op_lt (pv 1) pe_int (nomark _)) (pss_one (ps_set (i := 2) sc_number.nd rfl (.inl rfl) (pe_un un_neg (pv 2)))) pss_nil)
  (pss_one (ps_ret (pe_tup (pa_cons (pe_op TW.op_fdivWN (pv 0) (pv 2)) (pa_cons (pe_op TW.op_fdivWN (pv 1) (pv 2)) pa_nil)))))))), ?_⟩
    walk_at "K"
    walk_at "s"
    refine TW.x_iteF hn ?_
    obtain ⟨hg, hb⟩ := gcd_wide (m := m) hn hw
    walk_at "s"
    refine TW.x_ite (fun c1 => ?_) (fun c1 => ?_)
    · have ec : ncom m n = -((Nat.gcd m.natAbs n.natAbs : Nat) : Int) := by rw [ncom, if_pos c1]
      have cd : ∀ i : Int, CDivWN i (-((Nat.gcd m.natAbs n.natAbs : Nat) : Int)) := fun i => cdivWN (by omega) (by rw [Int.natAbs_neg]; exact hb)
      have c1 := cd m
      have c2 := cd n
      walk_at "s"
      rename_i t ht
      refine k _ _ (Fr.new ht) ⟨t, rfl, ?_⟩
      rw [nab, nbe, ec]
      exact upd_same
    · have ec : ncom m n = ((Nat.gcd m.natAbs n.natAbs : Nat) : Int) := by rw [ncom, if_neg c1]
      have cd : ∀ i : Int, CDivWN i ((Nat.gcd m.natAbs n.natAbs : Nat) : Int) := fun i => cdivWN hg hb
      have c1 := cd m
      have c2 := cd n
      walk_at "s"
      rename_i t ht
      refine k _ _ (Fr.new ht) ⟨t, rfl, ?_⟩
      rw [nab, nbe, ec]
      exact upd_same

/-! ### numbers.py: the checks, each with its error -/
def OkN (p q : Int) : Prop := 1 ≤ q ∧ Nat.gcd p.natAbs q.natAbs = 1
instance (p q : Int) : Decidable (OkN p q) := inferInstanceAs (Decidable (_ ∧ _))
/-- what an error leaves, wherever it is raised behind H: its dict d, new, holds the value -/
def ErrF (C : Addr) (y : V) (H : Hp) (E : XK) : Prop := ∀ (H' : Hp) (d : Addr), Fr (fun _ => True) H H' → H' d = none → E (.ref C) (some d) (upd H' d (.xd [(("value" : Str), y)]))
theorem ErrF.fr {C : Addr} {y : V} {H H' : Hp} {E : XK} (h : ErrF C y H E) (f : Fr (fun _ => True) H H') : ErrF C y H' E := fun H2 d f2 hd => h H2 d (f.trans f2) hd
theorem ErrF.go {C : Addr} {y : V} {H : Hp} {E : XK} (h : ErrF C y H E) : ∀ d, H d = none → E (.ref C) (some d) (upd H d (.xd [(("value" : Str), y)])) := fun d hd => h H d Fr.refl hd
/-- is_number(v) -/
def sp_isnumP : Sp := fun vs H Q _ => ∃ (v : V) (p q : Int), vs = [v] ∧ Pr H v p q ∧ ∀ H' : Hp, Fr (fun _ => True) H H' → Q (.bl (decide (OkN p q))) H'
theorem c_is_number (T : Txt K mg C_WorthError C_InvalidNumber C_InvalidSigns C_UnknownSign C_InvalidMachine C_UnlikeSigns f_err) : FnAt P w K mg base CX0 1 "is_number" s_is_number ["pair"] sp_isnumP := by
  refine TW.mkFn T.d_is_number sc_is_number (fun vs H Q E h => ?_) (fun f cdv A outer s H vs Q E hr h => ?_)
  · obtain ⟨v, p, q, rfl, _⟩ := h
    rfl
  · obtain ⟨v, p, q, rfl, ⟨t, rfl, ht⟩, k⟩ := h
    refine ⟨_, (pss_cons (ps_asg (pv 0) (pg_tup (by rfl) (pgs_cons (pg_name (i := 1) sc_is_number.nd rfl (.inl rfl)) (pgs_cons (pg_name (i := 2) sc_is_number.nd rfl (.inl rfl)) pgs_nil))))
  (pss_one (ps_ret (pe_and (pe_cmpR op_ge (pv 2) pe_int (nomark _)) (pe_one (pe_cmpR op_eq (pe_callBfun cr_gcd (by rfl) T.mg_gcd (pa_cons (pv 1) (pa_cons (pv 2) pa_nil))) pe_int (nomark _))))))), ?_⟩
    walk_at "K"
    walk_at "s"
    refine TW.x_ite (fun c1 => ?_) (fun c1 => ?_)
    · walk_at "s"
      have e : decide (((Nat.gcd p.natAbs q.natAbs : Nat) : Int) = 1) = decide (OkN p q) := by
        refine decide_eq_decide.mpr ⟨fun z => ⟨by omega, by omega⟩, fun z => by have := z.2; omega⟩
      rw [e]
      exact k _ Fr.refl
    · walk_at "s"
      have e : false = decide (OkN p q) := (decide_eq_false (fun z => by have := z.1; omega)).symm
      rw [e]
      exact k _ Fr.refl
/-- check_number(v) -/
def sp_check (C : Addr) : Sp := fun vs H Q E => ∃ (v : V) (p q : Int), vs = [v] ∧ Pr H v p q ∧ (OkN p q → ∀ H' : Hp, Fr (fun _ => True) H H' → Q .non H') ∧ (¬ OkN p q → ErrF C v H E)
theorem cx_check_number (T : Txt K mg C_WorthError C_InvalidNumber C_InvalidSigns C_UnknownSign C_InvalidMachine C_UnlikeSigns f_err) : FnAt P w K mg base (L2.CX P w) 3 "check_number" s_check_number ["pair"] (sp_check C_InvalidNumber) := by
  refine TW.mkFnX T.d_check_number sc_check_number (fun vs H Q E h => ?_) (fun f cdv A outer s H vs Q E hr h => ?_)
  · obtain ⟨v, p, q, rfl, _⟩ := h
    rfl
  · obtain ⟨v, p, q, rfl, hp, k1, k2⟩ := h
    refine ⟨_, (pss_one (ps_if (pt_not (pt_val (TW.pe_c ((c_is_number) T) hr (by decide) rfl (pa_cons (pv 0) pa_nil)))) (pss_one (TW.ps_err rfl (takes_of rfl rfl rfl rfl) (er_InvalidNumber T) hr (by decide) rfl (pa_cons (pv 0) pa_nil))) pss_nil)), ?_⟩
    walk_at "K"
    walk_at "s"
    refine ⟨v, p, q, rfl, hp, fun H1 f1 => ?_⟩
    walk_at "s"
    refine TW.x_iteN (fun c1 => ?_) (fun c1 => ?_)
    · walk_at "s"
      exact TW.x_err T.ec_InvalidNumber ((k2 c1).fr f1).go
    · walk_at "s"
      exact k1 c1 _ f1
/-- check_numbers(vs): all are numbers, or the first that is none -/
def sp_checks (K : PySem.W.Frag) (C : Addr) : Sp := fun vs H Q E => ∃ (a : Addr) (xs : List V) (ns : List (Int × Int)), vs = [.ref a] ∧ SqL K H a xs ∧ (∀ H', Fr (fun _ => True) H H' → SqL K H' a xs) ∧ xs.length = ns.length ∧ (∀ (i : Nat) (v : V) (n : Int × Int), xs[i]? = some v → ns[i]? = some n → Pr H v n.1 n.2) ∧
  ((∀ (i : Nat) (n : Int × Int), ns[i]? = some n → OkN n.1 n.2) → ∀ H' : Hp, Fr (fun _ => True) H H' → Q .non H') ∧
  ∀ (i : Nat) (v : V) (n : Int × Int), xs[i]? = some v → ns[i]? = some n → ¬ OkN n.1 n.2 → (∀ (j : Nat) (m : Int × Int), j < i → ns[j]? = some m → OkN m.1 m.2) → ErrF C v H E
theorem cx_check_numbers (T : Txt K mg C_WorthError C_InvalidNumber C_InvalidSigns C_UnknownSign C_InvalidMachine C_UnlikeSigns f_err) : FnAt P w K mg base (L2.CX P w) 4 "check_numbers" s_check_numbers ["pairs"] (sp_checks K C_InvalidNumber) := by
  refine TW.mkFnX T.d_check_numbers sc_check_numbers (fun vs H Q E h => ?_) (fun f cdv A outer s H vs Q E hr h => ?_)
  · obtain ⟨a, xs, ns, rfl, _⟩ := h
    rfl
  · obtain ⟨a, xs, ns, rfl, hS, st, hl, hp, k1, k2⟩ := h
    refine ⟨_, (pss_one (ps_for (passes_of rfl) rfl (pi_list (pv 0)) (pg_name (i := 1) sc_check_numbers.nd rfl (.inl rfl)) (pss_one (ps_expr (TW.pe_cx (cx_check_number T) hr (by decide) rfl (takes_of rfl rfl rfl rfl) (pa_cons (pv 1) pa_nil)))))), ?_⟩
    walk_at "K"
    walk_at "s"
    refine TW.x_forL (xs := xs) hS (fun i σ H1 => ∃ v : Option V, σ = [some (.ref a), v] ∧ Fr (fun _ => True) H H1 ∧ ∀ (j : Nat) (m : Int × Int), j < i → ns[j]? = some m → OkN m.1 m.2) ⟨none, rfl, Fr.refl, fun j m h => by omega⟩ (fun i σ H1 _ h => ?_) ?_ ?_
    · obtain ⟨_, _, f1, _⟩ := h
      exact st _ f1
    · rintro i v σ H1 hv ⟨_, rfl, f1, hok⟩
      have hi : i < ns.length := hl ▸ (List.getElem?_eq_some_iff.mp hv).1
      obtain ⟨n, hn⟩ : ∃ n, ns[i]? = some n := ⟨_, List.getElem?_eq_getElem hi⟩
      walk_at "s"
      refine ⟨v, n.1, n.2, rfl, (hp i v n hv hn).fr f1, fun ok H2 f2 => ?_, fun no => (k2 i v n hv hn no hok).fr f1⟩
      walk_at "s"
      refine ⟨some v, rfl, f1.trans f2, fun j m hj hm => ?_⟩
      by_cases e : j = i
      · subst e
        rw [hn] at hm
        cases hm
        exact ok
      · exact hok j m (by omega) hm
    · rintro σ H1 ⟨v, rfl, f1, hok⟩
      walk_at "s"
      exact k1 (fun j m hm => hok j m (hl ▸ (List.getElem?_eq_some_iff.mp hm).1) hm) _ f1
/-- two numbers are handed in: both are, or the first that is none, the second -/
theorem checks2 {K : PySem.W.Frag} {C : Addr} {H : Hp} {a : Addr} {v1 v2 : V} {p1 q1 p2 q2 : Int} {Q : VK} {E : XK} (ha : H a = some (.lst [v1, v2])) (h1 : Pr H v1 p1 q1) (h2 : Pr H v2 p2 q2)
    (k : OkN p1 q1 → OkN p2 q2 → ∀ H' : Hp, Fr (fun _ => True) H H' → Q .non H') (e1 : ¬ OkN p1 q1 → ErrF C v1 H E) (e2 : OkN p1 q1 → ¬ OkN p2 q2 → ErrF C v2 H E) : sp_checks K C [.ref a] H Q E := by
  refine ⟨a, [v1, v2], [(p1, q1), (p2, q2)], rfl, SqL.of ha, fun H' f => SqL.of (f.keep _ _ trivial ha), rfl, fun i v n hv hn => ?_, fun ok => k (ok 0 _ rfl) (ok 1 _ rfl), fun i v n hv hn no hj => ?_⟩
  · rcases i with _ | _ | i
    · cases hv
      cases hn
      exact h1
    · cases hv
      cases hn
      exact h2
    · simp at hv
  · rcases i with _ | _ | i
    · cases hv
      cases hn
      exact e1 no
    · cases hv
      cases hn
      exact e2 (hj 0 _ (by omega) rfl) no
    · simp at hv
/-- within 200 bits -/
def Sm (n : Int) : Prop := n.natAbs < 2 ^ 200
theorem Sm.mul {m n : Int} (h : Sm m) (k : Sm n) : CMulW m n := wide_mul h k (by decide) (by decide) (by decide)
theorem Sm.mul2 {m n : Int} (h : Sm m) (k : Sm n) : (m * n).natAbs < 2 ^ 400 := wide_lt h k
theorem Sm.den {m n : Int} (h : Sm m) (k : Sm n) : (m * n).natAbs < 2 ^ 8000 := Nat.lt_of_lt_of_le (h.mul2 k) (Nat.pow_le_pow_right (by decide) (by decide))
theorem ok_ne {p q r s : Int} (h : OkN p q) (k : OkN r s) : q * s ≠ 0 := by
  have := h.1
  have := k.1
  intro z
  rcases Int.mul_eq_zero.mp z with e | e <;> omega
/-- a number made of two: z says which integers -/
def sp_two (C : Addr) (bad : Int → Int → Int → Int → Prop) (za zb : Int → Int → Int → Int → Int) : Sp := fun vs H Q E => ∃ (v1 v2 : V) (p1 q1 p2 q2 : Int), vs = [v1, v2] ∧ Pr H v1 p1 q1 ∧ Pr H v2 p2 q2 ∧ Sm p1 ∧ Sm q1 ∧ Sm p2 ∧ Sm q2 ∧
  (OkN p1 q1 → OkN p2 q2 → ¬ bad p1 q1 p2 q2 → ∀ (H' : Hp) (v : V), Fr (fun _ => True) H H' → Pr H' v (nab (za p1 q1 p2 q2) (zb p1 q1 p2 q2)) (nbe (za p1 q1 p2 q2) (zb p1 q1 p2 q2)) → Q v H') ∧
  (¬ OkN p1 q1 → ErrF C v1 H E) ∧ (OkN p1 q1 → ¬ OkN p2 q2 → ErrF C v2 H E) ∧ (OkN p1 q1 → OkN p2 q2 → bad p1 q1 p2 q2 → ErrF C v2 H E)
abbrev sp_product (C : Addr) : Sp := sp_two C (fun _ _ _ _ => False) (fun p1 _ p2 _ => p1 * p2) (fun _ q1 _ q2 => q1 * q2)
abbrev sp_added (C : Addr) : Sp := sp_two C (fun _ _ _ _ => False) (fun p1 q1 p2 q2 => p1 * q2 + p2 * q1) (fun _ q1 _ q2 => q1 * q2)
abbrev sp_quotient (C : Addr) : Sp := sp_two C (fun _ _ p2 _ => p2 = 0) (fun p1 _ _ q2 => p1 * q2) (fun _ q1 p2 _ => q1 * p2)
theorem cx_product (T : Txt K mg C_WorthError C_InvalidNumber C_InvalidSigns C_UnknownSign C_InvalidMachine C_UnlikeSigns f_err) : FnAt P w K mg base (L2.CX P w) 5 "product" s_product ["one", "other"] (sp_product C_InvalidNumber) := by
  refine TW.mkFnX T.d_product sc_product (fun vs H Q E h => ?_) (fun f cdv A outer s H vs Q E hr h => ?_)
  · obtain ⟨v1, v2, p1, q1, p2, q2, rfl, _⟩ := h
    rfl
  · obtain ⟨v1, v2, p1, q1, p2, q2, rfl, h1, h2, sp1, sq1, sp2, sq2, k, e1, e2, e3⟩ := h
    refine ⟨_, (pss_cons (ps_expr (TW.pe_cx (cx_check_numbers T) hr (by decide) rfl (takes_of rfl rfl rfl rfl) (pa_cons (pe_lst (pa_cons (pv 0) (pa_cons (pv 1) pa_nil))) pa_nil)))
  (pss_one (ps_ret (TW.pe_c ((c_number) T) hr (by decide) rfl (pa_cons (pe_op op_mulW (pe_ix ix_tup (pv 0) pe_int (fun _ _ => rfl)) (pe_ix ix_tup (pv 1) pe_int (fun _ _ => rfl))) (pa_cons (pe_op op_mulW (pe_ix ix_tup (pv 0) pe_int (fun _ _ => rfl)) (pe_ix ix_tup (pv 1) pe_int (fun _ _ => rfl))) pa_nil)))))), ?_⟩
    walk_at "K"
    walk_at "s"
    rename_i l hl
    have f0 : Fr (fun _ => True) H (upd H l (.lst [v1, v2])) := Fr.new hl
    refine checks2 upd_same (h1.fr f0) (h2.fr f0) (fun o1 o2 H1 f1 => ?_) (fun n1 => (e1 n1).fr f0) (fun o1 n2 => (e2 o1 n2).fr f0)
    have g1 := (h1.fr f0).fr f1
    have g2 := (h2.fr f0).fr f1
    obtain ⟨t1, rfl, ht1⟩ := g1
    obtain ⟨t2, rfl, ht2⟩ := g2
    have m1 := sp1.mul sp2
    have m2 := sq1.mul sq2
    have m3 := sp1.mul sq2
    have m4 := sp2.mul sq1
    have m5 := sq1.mul sp2
    walk_at "s"
    exact ⟨_, _, rfl, ok_ne o1 o2, sq1.den sq2, fun H2 v f2 pv => k o1 o2 id H2 v ((f0.trans f1).trans f2) pv⟩
theorem cx_added (T : Txt K mg C_WorthError C_InvalidNumber C_InvalidSigns C_UnknownSign C_InvalidMachine C_UnlikeSigns f_err) : FnAt P w K mg base (L2.CX P w) 5 "added" s_added ["one", "other"] (sp_added C_InvalidNumber) := by
  refine TW.mkFnX T.d_added sc_added (fun vs H Q E h => ?_) (fun f cdv A outer s H vs Q E hr h => ?_)
  · obtain ⟨v1, v2, p1, q1, p2, q2, rfl, _⟩ := h
    rfl
  · obtain ⟨v1, v2, p1, q1, p2, q2, rfl, h1, h2, sp1, sq1, sp2, sq2, k, e1, e2, e3⟩ := h
    refine ⟨_, (pss_cons (ps_expr (TW.pe_cx (cx_check_numbers T) hr (by decide) rfl (takes_of rfl rfl rfl rfl) (pa_cons (pe_lst (pa_cons (pv 0) (pa_cons (pv 1) pa_nil))) pa_nil)))
  (pss_one (ps_ret (TW.pe_c ((c_number) T) hr (by decide) rfl (pa_cons (pe_op op_add (pe_op op_mulW (pe_ix ix_tup (pv 0) pe_int (fun _ _ => rfl)) (pe_ix ix_tup (pv 1) pe_int (fun _ _ => rfl))) (pe_op op_mulW (pe_ix ix_tup (pv 1) pe_int (fun _ _ => rfl)) (pe_ix ix_tup (pv 0) pe_int (fun _ _ => rfl)))) (pa_cons (pe_op op_mulW (pe_ix ix_tup (pv 0) pe_int (fun _ _ => rfl)) (pe_ix ix_tup (pv 1) pe_int (fun _ _ => rfl))) pa_nil)))))), ?_⟩
    walk_at "K"
    walk_at "s"
    rename_i l hl
    have f0 : Fr (fun _ => True) H (upd H l (.lst [v1, v2])) := Fr.new hl
    refine checks2 upd_same (h1.fr f0) (h2.fr f0) (fun o1 o2 H1 f1 => ?_) (fun n1 => (e1 n1).fr f0) (fun o1 n2 => (e2 o1 n2).fr f0)
    have g1 := (h1.fr f0).fr f1
    have g2 := (h2.fr f0).fr f1
    obtain ⟨t1, rfl, ht1⟩ := g1
    obtain ⟨t2, rfl, ht2⟩ := g2
    have m1 := sp1.mul sp2
    have m2 := sq1.mul sq2
    have m3 := sp1.mul sq2
    have m4 := sp2.mul sq1
    have m5 := sq1.mul sp2
    walk_at "s"
    exact ⟨_, _, rfl, ok_ne o1 o2, sq1.den sq2, fun H2 v f2 pv => k o1 o2 id H2 v ((f0.trans f1).trans f2) pv⟩
theorem cx_quotient (T : Txt K mg C_WorthError C_InvalidNumber C_InvalidSigns C_UnknownSign C_InvalidMachine C_UnlikeSigns f_err) : FnAt P w K mg base (L2.CX P w) 5 "quotient" s_quotient ["one", "other"] (sp_quotient C_InvalidNumber) := by
  refine TW.mkFnX T.d_quotient sc_quotient (fun vs H Q E h => ?_) (fun f cdv A outer s H vs Q E hr h => ?_)
  · obtain ⟨v1, v2, p1, q1, p2, q2, rfl, _⟩ := h
    rfl
  · obtain ⟨v1, v2, p1, q1, p2, q2, rfl, h1, h2, sp1, sq1, sp2, sq2, k, e1, e2, e3⟩ := h
    refine ⟨_, (pss_cons (ps_expr (TW.pe_cx (cx_check_numbers T) hr (by decide) rfl (takes_of rfl rfl rfl rfl) (pa_cons (pe_lst (pa_cons (pv 0) (pa_cons (pv 1) pa_nil))) pa_nil)))
  (pss_cons (ps_if (pt_cmpR op_eq (pe_ix ix_tup (pv 1) pe_int (fun _ _ => rfl)) pe_int (nomark _)) (pss_one (TW.ps_err rfl (takes_of rfl rfl rfl rfl) (er_InvalidNumber T) hr (by decide) rfl (pa_cons (pv 1) pa_nil))) pss_nil)
  (pss_one (ps_ret (TW.pe_c ((c_number) T) hr (by decide) rfl (pa_cons (pe_op op_mulW (pe_ix ix_tup (pv 0) pe_int (fun _ _ => rfl)) (pe_ix ix_tup (pv 1) pe_int (fun _ _ => rfl))) (pa_cons (pe_op op_mulW (pe_ix ix_tup (pv 0) pe_int (fun _ _ => rfl)) (pe_ix ix_tup (pv 1) pe_int (fun _ _ => rfl))) pa_nil))))))), ?_⟩
    walk_at "K"
    walk_at "s"
    rename_i l hl
    have f0 : Fr (fun _ => True) H (upd H l (.lst [v1, v2])) := Fr.new hl
    refine checks2 upd_same (h1.fr f0) (h2.fr f0) (fun o1 o2 H1 f1 => ?_) (fun n1 => (e1 n1).fr f0) (fun o1 n2 => (e2 o1 n2).fr f0)
    have g1 := (h1.fr f0).fr f1
    have g2 := (h2.fr f0).fr f1
    obtain ⟨t1, rfl, ht1⟩ := g1
    obtain ⟨t2, rfl, ht2⟩ := g2
    have m1 := sp1.mul sp2
    have m2 := sq1.mul sq2
    have m3 := sp1.mul sq2
    have m4 := sp2.mul sq1
    have m5 := sq1.mul sp2
    walk_at "s"
    refine TW.x_ite (fun c1 => ?_) (fun c1 => ?_)
    · walk_at "s"
      exact TW.x_err T.ec_InvalidNumber ((e3 o1 o2 c1).fr (f0.trans f1)).go
    · walk_at "s"
      have hq : q1 * p2 ≠ 0 := fun z => by
        have := o1.1
        rcases Int.mul_eq_zero.mp z with e | e
        · omega
        · exact c1 e
      exact ⟨_, _, rfl, hq, sq1.den sp2, fun H2 v f2 pv => k o1 o2 c1 H2 v ((f0.trans f1).trans f2) pv⟩
/-- power(v, t) -/
def sp_power (C : Addr) : Sp := fun vs H Q E => ∃ (v : V) (p q t : Int), vs = [v, .int t] ∧ Pr H v p q ∧ Sm p ∧ Sm q ∧ t ≤ 41 ∧
  (OkN p q → 0 ≤ t → ∀ (H' : Hp) (v' : V), Fr (fun _ => True) H H' → Pr H' v' (p ^ t.toNat) (q ^ t.toNat) → Q v' H') ∧ (¬ OkN p q → ErrF C v H E) ∧ (OkN p q → t < 0 → ErrF C (.int t) H E)
theorem pow_small {p : Int} (h : Sm p) : ∀ n : Nat, n ≤ 41 → (p ^ n).natAbs < 2 ^ (200 * n + 1)
  | 0, _ => by simp
  | n + 1, hn => by
    have q := pow_small h n (by omega)
    rw [Int.pow_succ, Int.natAbs_mul]
    have e : 2 ^ (200 * (n + 1) + 1) = 2 ^ (200 * n + 1) * 2 ^ 200 := by rw [← Nat.pow_add]; congr 1
    rw [e]
    exact Nat.mul_lt_mul'' q h
theorem pow_mul {p : Int} (h : Sm p) {n : Nat} (hn : n ≤ 41) : CMulW (p ^ n) p := wide_mul (pow_small h n hn) h (by omega) (by decide) (by omega)
theorem cx_power (T : Txt K mg C_WorthError C_InvalidNumber C_InvalidSigns C_UnknownSign C_InvalidMachine C_UnlikeSigns f_err) : FnAt P w K mg base (L2.CX P w) 4 "power" s_power ["one", "times"] (sp_power C_InvalidNumber) := by
  refine TW.mkFnX T.d_power sc_power (fun vs H Q E h => ?_) (fun f cdv A outer s H vs Q E hr h => ?_)
  · obtain ⟨v, p, q, t, rfl, _⟩ := h
    rfl
  · obtain ⟨v, p, q, t, rfl, h1, hp, hq, ht, k, e1, e2⟩ := h
    refine ⟨_, (pss_cons (ps_expr (TW.pe_cx (cx_check_number T) hr (by decide) rfl (takes_of rfl rfl rfl rfl) (pa_cons (pv 0) pa_nil)))
  (pss_cons (ps_if (pt_cmpR op_lt (pv 1) pe_int (nomark _)) (pss_one (TW.ps_err rfl (takes_of rfl rfl rfl rfl) (er_InvalidNumber T) hr (by decide) rfl (pa_cons (pv 1) pa_nil))) pss_nil)
  (pss_cons (ps_asg (pe_tup (pa_cons pe_int (pa_cons pe_int pa_nil))) (pg_tup (by rfl) (pgs_cons (pg_name (i := 2) sc_power.nd rfl (.inl rfl)) (pgs_cons (pg_name (i := 3) sc_power.nd rfl (.inl rfl)) pgs_nil))))
  (pss_cons (ps_for (passes_of rfl) rfl (pi_range1 rfl T.no_range (pa_cons (pv 1) pa_nil)) (pg_name (i := 4) sc_power.nd rfl (.inl rfl)) (pss_one (ps_par (i := 2) (j := 3) (by rfl) sc_power.nd rfl rfl (by decide) rfl rfl (pa_cons (pe_op op_mulW (pv 2) (pe_ix ix_tup (pv 0) pe_int (fun _ _ => rfl))) (pa_cons (pe_op op_mulW (pv 3) (pe_ix ix_tup (pv 0) pe_int (fun _ _ => rfl))) pa_nil)) (by rfl))))
  (pss_one (ps_ret (pe_tup (pa_cons (pv 2) (pa_cons (pv 3) pa_nil))))))))), ?_⟩
    walk_at "K"
    walk_at "s"
    refine ⟨v, p, q, rfl, h1, fun o1 H1 f1 => ?_, e1⟩
    walk_at "s"
    refine TW.x_ite (fun c1 => ?_) (fun c1 => ?_)
    · walk_at "s"
      exact TW.x_err T.ec_InvalidNumber ((e2 o1 c1).fr f1).go
    · walk_at "s"
      obtain ⟨a, rfl, ha⟩ := h1.fr f1
      refine TW.x_forR (k := t.toNat) (by omega) (by omega) (fun i σ H2 => ∃ o : Option V, σ = [some (.ref a), some (.int t), some (.int (p ^ i)), some (.int (q ^ i)), o] ∧ Fr (fun _ => True) H1 H2) ⟨none, by rw [Int.pow_zero, Int.pow_zero]; rfl, Fr.new (by assumption)⟩ ?_ ?_
      · rintro i σ H2 hi ⟨o, rfl, f2⟩
        have ha2 := f2.tups _ _ ha
        have m1 := pow_mul hp (n := i) (by omega)
        have m2 := pow_mul hq (n := i) (by omega)
        walk_at "s"
        exact ⟨_, by rw [Int.pow_succ, Int.pow_succ]; rfl, f2⟩
      · rintro σ H2 ⟨o, rfl, f2⟩
        walk_at "s"
        rename_i b hb
        exact k o1 (by omega) _ _ ((f1.trans f2).alloc hb) ⟨b, rfl, upd_same⟩

theorem Fr.tup2 {ok : Addr → Prop} {H H' : Hp} {a b t : Addr} {xs : List V} (f : Fr ok H H') (e : H t = some (.tup xs)) : H' t = some (.tup xs) := f.tups _ _ e
theorem Deck.le {H : Hp} {a g : Addr} {m n : Nat} (h : Deck H a g m) (l : n ≤ m) : Deck H a g n := by
  obtain ⟨c, k, t, gs, d, e⟩ := h
  exact ⟨c, k, t, gs, d, by omega⟩
theorem Deck.fr {H H' : Hp} {a g : Addr} {n : Nat} (h : Deck H a g n) (f : Fr (fun _ => True) H H') : Deck H' a g n := by
  obtain ⟨c, k, t, gs, d, e⟩ := h
  exact ⟨c, k, t, gs, ⟨f.keep _ _ trivial d.cell, f.keep _ _ trivial d.great, d.ne, d.cur0, d.mark0, d.cnt0, d.gs0, d.gsl⟩, e⟩
theorem Deck.new {H : Hp} {a g p : Addr} {n : Nat} {o : HO} (h : Deck H a g n) (hp : H p = none) : Deck (upd H p o) a g n := h.fr (Fr.new hp)
theorem Deck.off {H : Hp} {a g p : Addr} {n : Nat} (h : Deck H a g n) (hp : H p = none) : Off a g p := by
  obtain ⟨c, k, t, gs, d, e⟩ := h
  exact ⟨(ne_of_none d.cell hp).symm, (ne_of_none d.great hp).symm⟩
theorem Deck.put {H : Hp} {a g p : Addr} {n : Nat} {o : HO} (h : Deck H a g n) (q : Off a g p) : Deck (upd H p o) a g n := by
  obtain ⟨c, k, t, gs, d, e⟩ := h
  exact ⟨c, k, t, gs, ⟨by rw [upd_ne q.1.symm]; exact d.cell, by rw [upd_ne q.2.symm]; exact d.great, d.ne, d.cur0, d.mark0, d.cnt0, d.gs0, d.gsl⟩, e⟩

/-! ### the number of two integers is in lowest terms -/
theorem ncom_abs {m n : Int} : (ncom m n).natAbs = Nat.gcd m.natAbs n.natAbs := by
  unfold ncom
  split <;> omega
theorem pair_mul {m n : Int} (h : n ≠ 0) : m = ncom m n * nab m n ∧ n = ncom m n * nbe m n := by
  have d1 : ncom m n ∣ m := Int.natAbs_dvd_natAbs.mp (by rw [ncom_abs]; exact Nat.gcd_dvd_left _ _)
  have d2 : ncom m n ∣ n := Int.natAbs_dvd_natAbs.mp (by rw [ncom_abs]; exact Nat.gcd_dvd_right _ _)
  exact ⟨(Int.mul_fdiv_cancel' d1).symm, (Int.mul_fdiv_cancel' d2).symm⟩
theorem pair_ok {m n : Int} (h : n ≠ 0) : OkN (nab m n) (nbe m n) := by
  obtain ⟨h1, h2⟩ := pair_mul (m := m) h
  have hg : 0 < Nat.gcd m.natAbs n.natAbs := Nat.gcd_pos_of_pos_right _ (by omega)
  have e1 : m.natAbs = Nat.gcd m.natAbs n.natAbs * (nab m n).natAbs := by
    rw [← ncom_abs, ← Int.natAbs_mul, ← h1]
  have e2 : n.natAbs = Nat.gcd m.natAbs n.natAbs * (nbe m n).natAbs := by
    rw [← ncom_abs, ← Int.natAbs_mul, ← h2]
  constructor
  · -- the sign
    have hz : nbe m n ≠ 0 := fun z => by
      rw [z, Int.mul_zero] at h2
      exact h h2
    by_cases c : n < 0
    · have e : ncom m n = -((Nat.gcd m.natAbs n.natAbs : Nat) : Int) := by rw [ncom, if_pos c]
      by_cases q : 1 ≤ nbe m n
      · exact q
      · have : 0 ≤ ncom m n * nbe m n := Int.mul_nonneg_of_nonpos_of_nonpos (by omega) (by omega)
        omega
    · have e : ncom m n = ((Nat.gcd m.natAbs n.natAbs : Nat) : Int) := by rw [ncom, if_neg c]
      by_cases q : 1 ≤ nbe m n
      · exact q
      · have : 0 ≤ ncom m n * -(nbe m n) := Int.mul_nonneg (by omega) (by omega)
        rw [Int.mul_neg] at this
        omega
  · have e3 : Nat.gcd m.natAbs n.natAbs * Nat.gcd (nab m n).natAbs (nbe m n).natAbs = Nat.gcd m.natAbs n.natAbs := by
      rw [← Nat.gcd_mul_left, ← e1, ← e2]
    exact Nat.eq_of_mul_eq_mul_left hg (by rw [e3, Nat.mul_one])
/-- within 10 ^ 45 -/
def Bd (n : Int) : Prop := -1000000000000000000000000000000000000000000000 ≤ n ∧ n ≤ 1000000000000000000000000000000000000000000000
theorem Bd.sm {n : Int} (h : Bd n) : Sm n := Nat.lt_of_le_of_lt (show n.natAbs ≤ 1000000000000000000000000000000000000000000000 by have := h.1; have := h.2; omega) (by decide +kernel)
theorem Sm.bits {n : Int} (h : Sm n) : n.natAbs < 2 ^ 8000 := Nat.lt_of_lt_of_le h (Nat.pow_le_pow_right (by decide) (by decide))
/-- within 10 ^ 31 -/
def Bs (n : Int) : Prop := -10000000000000000000000000000000 ≤ n ∧ n ≤ 10000000000000000000000000000000
theorem Bs.bd {n : Int} (h : Bs n) : Bd n := ⟨by have := h.1; omega, by have := h.2; omega⟩
theorem Bs.pair {m n : Int} (h : Bs m) (k : Bs n) : Bs (nab m n) ∧ Bs (nbe m n) := by
  have a1 := Int.natAbs_fdiv_le_natAbs m (ncom m n)
  have a2 := Int.natAbs_fdiv_le_natAbs n (ncom m n)
  have e1 : (nab m n).natAbs ≤ m.natAbs := a1
  have e2 : (nbe m n).natAbs ≤ n.natAbs := a2
  have := h.1
  have := h.2
  have := k.1
  have := k.2
  exact ⟨⟨by omega, by omega⟩, ⟨by omega, by omega⟩⟩
theorem Bd.mul {a b : Int} (ha : a.natAbs ≤ 10000000000000000000000000000000) (hb : b.natAbs ≤ 10000000000000) : Bd (a * b) := by
  have e : (a * b).natAbs ≤ 10000000000000000000000000000000 * 10000000000000 := by
    rw [Int.natAbs_mul]
    exact Nat.mul_le_mul ha hb
  exact ⟨by omega, by omega⟩

def sp_num : Sp := fun vs H Q _ => ∃ (a g : Addr) (n : Nat), vs = [.ref a] ∧ Deck H a g (n + 4) ∧ ∀ (H' : Hp) (v : V) (p q : Int), Fr (Off a g) H H' → Deck H' a g n → Pr H' v p q → Bs p → Bs q → q ≠ 0 → Q v H'
theorem c__law_number (T : Txt K mg C_WorthError C_InvalidNumber C_InvalidSigns C_UnknownSign C_InvalidMachine C_UnlikeSigns f_err) : FnAt P w K mg base CX0 3 "_law_number" s__law_number ["_law_deck_here"] sp_num := by
  refine TW.mkFn T.d__law_number sc__law_number (fun vs H Q E h => ?_) (fun f cdv A outer s H vs Q E hr h => ?_)
  · obtain ⟨a, g, n, rfl, _⟩ := h
    rfl
  · obtain ⟨a, g, n, rfl, D, k⟩ := h
    refine ⟨_, (pss_cons (ps_set (i := 1) sc__law_number.nd rfl (.inl rfl) (pe_ix ix_list (pe_lst (pa_cons pe_int (pa_cons pe_int (pa_cons (pe_op op_pow pe_int pe_int) (pa_cons (pe_op op_pow pe_int pe_int) pa_nil))))) (TW.pe_c ((c__law_draw) T) hr (by decide) rfl (pa_cons (pv 0) (pa_cons pe_int pa_nil))) (fun _ _ => rfl)))
  (pss_cons (ps_set (i := 2) sc__law_number.nd rfl (.inl rfl) (pe_op op_add pe_int (TW.pe_c ((c__law_draw) T) hr (by decide) rfl (pa_cons (pv 0) (pa_cons (pe_ix ix_list (pe_lst (pa_cons pe_int (pa_cons pe_int (pa_cons (pe_op op_sub (pv 1) pe_int) pa_nil)))) (TW.pe_c ((c__law_draw) T) hr (by decide) rfl (pa_cons (pv 0) (pa_cons pe_int pa_nil))) (fun _ _ => rfl)) pa_nil)))))
  (pss_one (ps_ret (TW.pe_c ((c__law_pair) T) hr (by decide) rfl (pa_cons (pe_op op_sub (TW.pe_c ((c__law_draw) T) hr (by decide) rfl (pa_cons (pv 0) (pa_cons (pv 1) pa_nil))) (pe_op op_fdivW (pv 1) pe_int)) (pa_cons (pv 2) pa_nil))))))), ?_⟩
    walk_at "K"
    walk_at "s"
    rename_i p1 hp1
    have f1 : Fr (Off a g) H (upd H p1 (.lst [V.int 4, V.int 100, V.int (10 ^ Int.toNat 9), V.int (10 ^ Int.toNat 30)])) := Fr.new hp1
    refine ⟨a, g, n + 3, 4, rfl, D.new hp1, by decide, by decide, fun H2 r f2 D2 r0 r1 => ?_⟩
    obtain ⟨gr, hgr, egr⟩ := pick [4, 100, 10 ^ Int.toNat 9, 10 ^ Int.toNat 30] r0 r1
    have bgr : 4 ≤ gr ∧ gr ≤ 1000000000000000000000000000000 := (by decide +kernel : ∀ x ∈ [(4 : Int), 100, 10 ^ Int.toNat 9, 10 ^ Int.toNat 30], 4 ≤ x ∧ x ≤ 1000000000000000000000000000000) gr hgr
    refine x_ixL (SqL.of (f2.keep _ _ (D.off hp1) upd_same)) egr ?_
    walk_at "s"
    rename_i p2 hp2
    refine ⟨a, g, n + 2, 3, rfl, D2.new hp2, by decide, by decide, fun H3 z f3 D3 z0 z1 => ?_⟩
    obtain ⟨y, hy, ey⟩ := pick [1, 6, gr - 1] z0 z1
    have by1 : 1 ≤ y ∧ y ≤ 1000000000000000000000000000000 := by
      rcases List.mem_cons.mp hy with e | e
      · omega
      · rcases List.mem_cons.mp e with e | e
        · omega
        · obtain rfl := List.mem_singleton.mp e
          omega
    refine x_ixL (SqL.of (f3.keep _ _ (D2.off hp2) upd_same)) ey ?_
    walk_at "s"
    refine ⟨a, g, n + 1, y, rfl, D3, by omega, by omega, fun H4 b f4 D4 b0 b1 => ?_⟩
    walk_at "s"
    refine ⟨a, g, n, gr, rfl, D4, by omega, by omega, fun H5 u f5 D5 u0 u1 => ?_⟩
    walk_at "s"
    have bu : Bs (u - gr / 2) := ⟨by omega, by omega⟩
    have bb : Bs (1 + b) := ⟨by omega, by omega⟩
    refine ⟨_, _, rfl, by omega, bb.bd.sm.bits, fun H6 v f6 pv => ?_⟩
    have q := bu.pair bb
    have o := pair_ok (m := u - gr / 2) (n := 1 + b) (by omega)
    have f7 := ((f1.trans f2).alloc (o := .lst [V.int 1, V.int 6, V.int (gr - 1)]) hp2).trans (f3.trans (f4.trans f5))
    exact k _ _ _ _ (f7.trans (f6.mono fun _ _ => trivial)) (D5.fr f6) pv q.1 q.2 (by have := o.1; omega)
def sp_isnum : Sp := fun vs H Q _ => ∃ (v : V) (p q : Int), vs = [v] ∧ Pr H v p q ∧ ∀ b : Bool, (b = true ↔ OkN p q) → Q (.bl b) H
theorem c__law_is_number (T : Txt K mg C_WorthError C_InvalidNumber C_InvalidSigns C_UnknownSign C_InvalidMachine C_UnlikeSigns f_err) : FnAt P w K mg base CX0 2 "_law_is_number" s__law_is_number ["_law_one"] sp_isnum := by
  refine TW.mkFn T.d__law_is_number sc__law_is_number (fun vs H Q E h => ?_) (fun f cdv A outer s H vs Q E hr h => ?_)
  · obtain ⟨v, p, q, rfl, _⟩ := h
    rfl
  · obtain ⟨v, p, q, rfl, ⟨t, rfl, ht⟩, k⟩ := h
    refine ⟨_, (pss_one (ps_ret (pe_and (pe_cmpR op_ge (pe_ix ix_tup (pv 0) pe_int (fun _ _ => rfl)) pe_int (nomark _)) (pe_one (pe_cmpR op_eq (TW.pe_c ((c__law_gcd) T) hr (by decide) rfl (pa_cons (pe_ix ix_tup (pv 0) pe_int (fun _ _ => rfl)) (pa_cons (pe_ix ix_tup (pv 0) pe_int (fun _ _ => rfl)) pa_nil))) pe_int (nomark _)))))), ?_⟩
    walk_at "K"
    walk_at "s"
    refine TW.x_ite (fun c1 => ?_) (fun c1 => ?_)
    · walk_at "s"
      refine ⟨p, q, rfl, ?_⟩
      walk_at "s"
      exact k _ (by rw [decide_eq_true_iff]; exact ⟨fun z => ⟨c1, by omega⟩, fun z => by have := z.2; omega⟩)
    · walk_at "s"
      exact k _ ⟨fun z => (by cases z), fun z => absurd z.1 c1⟩
def sp_wrong : Sp := fun vs H Q _ => ∃ (a g : Addr) (n : Nat) (v : V) (p q : Int), vs = [.ref a, v] ∧ Deck H a g (n + 3) ∧ Pr H v p q ∧ Bs p ∧ Bs q ∧ ∀ (H' : Hp) (v' : V) (p' q' : Int), Fr (Off a g) H H' → Deck H' a g n → Pr H' v' p' q' → Bd p' → Bd q' → Q v' H'
theorem c__law_wrong (T : Txt K mg C_WorthError C_InvalidNumber C_InvalidSigns C_UnknownSign C_InvalidMachine C_UnlikeSigns f_err) : FnAt P w K mg base CX0 2 "_law_wrong" s__law_wrong ["_law_deck_here", "_law_one"] sp_wrong := by
  refine TW.mkFn T.d__law_wrong sc__law_wrong (fun vs H Q E h => ?_) (fun f cdv A outer s H vs Q E hr h => ?_)
  · obtain ⟨a, g, n, v, p, q, rfl, _⟩ := h
    rfl
  · obtain ⟨a, g, n, v, p, q, rfl, D, ⟨t, rfl, ht⟩, bp, bq, k⟩ := h
    refine ⟨_, (pss_cons (ps_set (i := 2) sc__law_wrong.nd rfl (.inl rfl) (TW.pe_c ((c__law_draw) T) hr (by decide) rfl (pa_cons (pv 0) (pa_cons pe_int pa_nil))))
  (pss_cons (ps_if (pt_cmpR op_eq (pv 2) pe_int (nomark _)) (pss_one (ps_ret (pe_tup (pa_cons (pe_ix ix_tup (pv 1) pe_int (fun _ _ => rfl)) (pa_cons pe_int pa_nil))))) pss_nil)
  (pss_cons (ps_if (pt_cmpR op_eq (pv 2) pe_int (nomark _)) (pss_one (ps_ret (pe_tup (pa_cons (pe_ix ix_tup (pv 1) pe_int (fun _ _ => rfl)) (pa_cons (pe_op op_sub pe_int (pe_ix ix_tup (pv 1) pe_int (fun _ _ => rfl))) pa_nil))))) pss_nil)
  (pss_cons (ps_if (pt_cmpR op_eq (pv 2) pe_int (nomark _)) (pss_one (ps_ret (pe_tup (pa_cons pe_int (pa_cons (pe_op op_add pe_int (TW.pe_c ((c__law_draw) T) hr (by decide) rfl (pa_cons (pv 0) (pa_cons (pe_op op_pow pe_int pe_int) pa_nil)))) pa_nil))))) pss_nil)
  (pss_cons (ps_if (pt_cmpR op_eq (pv 2) pe_int (nomark _)) (pss_one (ps_ret (pe_tup (pa_cons (pe_ix ix_list (pe_lst (pa_cons pe_int (pa_cons pe_int (pa_cons (pe_un un_neg pe_int) pa_nil)))) (TW.pe_c ((c__law_draw) T) hr (by decide) rfl (pa_cons (pv 0) (pa_cons pe_int pa_nil))) (fun _ _ => rfl)) (pa_cons (pe_op op_sub pe_int (TW.pe_c ((c__law_draw) T) hr (by decide) rfl (pa_cons (pv 0) (pa_cons pe_int pa_nil)))) pa_nil))))) pss_nil)
  (pss_cons (ps_set (i := 3) sc__law_wrong.nd rfl (.inl rfl) (pe_op op_add pe_int (TW.pe_c ((c__law_draw) T) hr (by decide) rfl (pa_cons (pv 0) (pa_cons (pe_op op_pow pe_int pe_int) pa_nil)))))
  (pss_one (ps_ret (pe_tup (pa_cons (pe_op op_mulW (pe_op op_fdivW (pe_ix ix_tup (pv 1) pe_int (fun _ _ => rfl)) (pe_op op_pow pe_int pe_int)) (pv 3)) (pa_cons (pe_op op_mulW (pe_op op_add pe_int (pe_op op_fdivW (pe_ix ix_tup (pv 1) pe_int (fun _ _ => rfl)) (pe_op op_pow pe_int pe_int))) (pv 3)) pa_nil))))))))))), ?_⟩
    have bp1 := bp.1
    have bp2 := bp.2
    have bq1 := bq.1
    have bq2 := bq.2
    walk_at "K"
    walk_at "s"
    refine ⟨a, g, n + 2, 5, rfl, D, by decide, by decide, fun H2 r f2 D2 r0 r1 => ?_⟩
    have ht := f2.tups _ _ ht
    walk_at "s"
    refine TW.x_ite (fun c1 => ?_) (fun c1 => ?_)
    · walk_at "s"
      rename_i b hb
      exact k _ _ _ _ (f2.alloc hb) ((D2.le (by omega)).new hb) ⟨b, rfl, upd_same⟩ bp.bd ⟨by omega, by omega⟩
    walk_at "s"
    refine TW.x_ite (fun c2 => ?_) (fun c2 => ?_)
    · walk_at "s"
      rename_i b hb
      exact k _ _ _ _ (f2.alloc hb) ((D2.le (by omega)).new hb) ⟨b, rfl, upd_same⟩ bp.bd ⟨by omega, by omega⟩
    walk_at "s"
    refine TW.x_ite (fun c3 => ?_) (fun c3 => ?_)
    · have ct : (10 : Int) ^ Int.toNat 20 = 100000000000000000000 := by decide +kernel
      walk_at "s"
      refine ⟨a, g, n + 1, _, rfl, D2, by rw [ct]; decide, by rw [ct]; decide, fun H3 z f3 D3 z0 z1 => ?_⟩
      rw [ct] at z1
      walk_at "s"
      rename_i b hb
      exact k _ _ _ _ ((f2.trans f3).alloc hb) ((D3.le (by omega)).new hb) ⟨b, rfl, upd_same⟩ ⟨by omega, by omega⟩ ⟨by omega, by omega⟩
    walk_at "s"
    refine TW.x_ite (fun c4 => ?_) (fun c4 => ?_)
    · walk_at "s"
      rename_i l hl
      refine ⟨a, g, n + 1, 3, rfl, D2.new hl, by decide, by decide, fun H3 z f3 D3 z0 z1 => ?_⟩
      obtain ⟨y, hy, ey⟩ := pick [0, 1, -1] z0 z1
      have by1 : -1 ≤ y ∧ y ≤ 1 := (by decide +kernel : ∀ x ∈ [(0 : Int), 1, -1], -1 ≤ x ∧ x ≤ 1) y hy
      refine x_ixL (SqL.of (f3.keep _ _ (D2.off hl) upd_same)) ey ?_
      walk_at "s"
      refine ⟨a, g, n, 2, rfl, D3, by decide, by decide, fun H4 u f4 D4 u0 u1 => ?_⟩
      walk_at "s"
      rename_i b hb
      exact k _ _ _ _ ((((f2.alloc hl).trans f3).trans f4).alloc hb) (D4.new hb) ⟨b, rfl, upd_same⟩ ⟨by omega, by omega⟩ ⟨by omega, by omega⟩
    have ct : (10 : Int) ^ Int.toNat 12 = 1000000000000 := by decide +kernel
    have cu : (10 : Int) ^ Int.toNat 15 = 1000000000000000 := by decide +kernel
    walk_at "s"
    refine ⟨a, g, n + 1, _, rfl, D2, by rw [ct]; decide, by rw [ct]; decide, fun H3 z f3 D3 z0 z1 => ?_⟩
    rw [ct] at z1
    have ht := f3.tups _ _ ht
    have cd : ∀ i : Int, CDivW i (10 ^ Int.toNat 15) := fun i => cdivW (by decide +kernel) (by decide +kernel)
    have c5 := cd p
    have c6 := cd q
    have n1 := Bd.mul (a := p / 10 ^ Int.toNat 15) (b := 2 + z) (by rw [cu]; omega) (by omega)
    have n2 := Bd.mul (a := 1 + q / 10 ^ Int.toNat 15) (b := 2 + z) (by rw [cu]; omega) (by omega)
    have s1 : Sm (p / 10 ^ Int.toNat 15) := Bd.sm (by rw [cu]; exact ⟨by omega, by omega⟩)
    have s2 : Sm (1 + q / 10 ^ Int.toNat 15) := Bd.sm (by rw [cu]; exact ⟨by omega, by omega⟩)
    have s3 : Sm (2 + z) := Bd.sm ⟨by omega, by omega⟩
    have w1 := s1.mul s3
    have w2 := s2.mul s3
    walk_at "s"
    rename_i b hb
    exact k _ _ _ _ ((f2.trans f3).alloc hb) ((D3.le (by omega)).new hb) ⟨b, rfl, upd_same⟩ n1 n2
def sp_two2 : Sp := fun vs H Q _ => ∃ (a g : Addr) (n : Nat), vs = [.ref a] ∧ Deck H a g (n + 9) ∧ ∀ (H' : Hp) (t : Addr) (v1 v2 : V) (p1 q1 p2 q2 : Int), Fr (Off a g) H H' → Deck H' a g n → H' t = some (.tup [v1, v2]) → Pr H' v1 p1 q1 → Pr H' v2 p2 q2 → Bs p1 → Bs q1 → Bs p2 → Bs q2 → Q (.ref t) H'
theorem c__law_two (T : Txt K mg C_WorthError C_InvalidNumber C_InvalidSigns C_UnknownSign C_InvalidMachine C_UnlikeSigns f_err) : FnAt P w K mg base CX0 4 "_law_two" s__law_two ["_law_deck_here"] sp_two2 := by
  refine TW.mkFn T.d__law_two sc__law_two (fun vs H Q E h => ?_) (fun f cdv A outer s H vs Q E hr h => ?_)
  · obtain ⟨a, g, n, rfl, _⟩ := h
    rfl
  · obtain ⟨a, g, n, rfl, D, k⟩ := h
    refine ⟨_, (pss_cons (ps_par (i := 1) (j := 2) (by rfl) sc__law_two.nd rfl rfl (by decide) rfl rfl (pa_cons (TW.pe_c ((c__law_number) T) hr (by decide) rfl (pa_cons (pv 0) pa_nil)) (pa_cons (TW.pe_c ((c__law_number) T) hr (by decide) rfl (pa_cons (pv 0) pa_nil)) pa_nil)) (by rfl))
  (pss_cons (ps_set (i := 3) sc__law_two.nd rfl (.inl rfl) (TW.pe_c ((c__law_draw) T) hr (by decide) rfl (pa_cons (pv 0) (pa_cons pe_int pa_nil))))
  (pss_cons (ps_if (pt_cmpR op_eq (pv 3) pe_int (nomark _)) (pss_one (ps_ret (pe_tup (pa_cons (pv 1) (pa_cons (pv 1) pa_nil))))) pss_nil)
  (pss_cons (ps_if (pt_cmpR op_eq (pv 3) pe_int (nomark _)) (pss_one (ps_ret (pe_tup (pa_cons (pv 1) (pa_cons (pe_tup (pa_cons (pe_op op_sub pe_int (pe_ix ix_tup (pv 1) pe_int (fun _ _ => rfl))) (pa_cons (pe_ix ix_tup (pv 1) pe_int (fun _ _ => rfl)) pa_nil))) pa_nil))))) pss_nil)
  (pss_cons (ps_if (pt_cmpR op_eq (pv 3) pe_int (nomark _)) (pss_one (ps_ret (pe_tup (pa_cons (pv 1) (pa_cons (pe_tup (pa_cons pe_int (pa_cons pe_int pa_nil))) pa_nil))))) pss_nil)
  (pss_cons (ps_if (pt_cmpR op_eq (pv 3) pe_int (nomark _)) (pss_one (ps_ret (pe_tup (pa_cons (pe_tup (pa_cons pe_int (pa_cons pe_int pa_nil))) (pa_cons (pv 2) pa_nil))))) pss_nil)
  (pss_cons (ps_if (PW.pt (pw_and (pt_cmpR op_eq (pv 3) pe_int (nomark _)) (pw_and1 (pt_cmpR op_ne (pe_ix ix_tup (pv 1) pe_int (fun _ _ => rfl)) pe_int (nomark _))))) (pss_one (ps_ret (pe_tup (pa_cons (pv 1) (pa_cons (TW.pe_c ((c__law_pair) T) hr (by decide) rfl (pa_cons (pe_ix ix_tup (pv 1) pe_int (fun _ _ => rfl)) (pa_cons (pe_ix ix_tup (pv 1) pe_int (fun _ _ => rfl)) pa_nil))) pa_nil))))) pss_nil)
  (pss_cons (ps_if (pt_cmpR op_eq (pv 3) pe_int (nomark _)) (pss_one (ps_ret (pe_tup (pa_cons (pv 1) (pa_cons (TW.pe_c ((c__law_pair) T) hr (by decide) rfl (pa_cons (pe_ix ix_tup (pv 2) pe_int (fun _ _ => rfl)) (pa_cons (pe_ix ix_tup (pv 1) pe_int (fun _ _ => rfl)) pa_nil))) pa_nil))))) pss_nil)
  (pss_one (ps_ret (pe_tup (pa_cons (pv 1) (pa_cons (pv 2) pa_nil))))))))))))), ?_⟩
    walk_at "K"
    walk_at "s"
    refine ⟨a, g, n + 5, rfl, D, fun H1 v1 p1 q1 f1 D1 h1 bp1 bq1 nq1 => ?_⟩
    walk_at "s"
    refine ⟨a, g, n + 1, rfl, D1, fun H2 v2 p2 q2 f2 D2 h2 bp2 bq2 nq2 => ?_⟩
    walk_at "s"
    refine ⟨a, g, n, 8, rfl, D2, by decide, by decide, fun H3 r f3 D3 r0 r1 => ?_⟩
    have h1 := (h1.fr f2).fr f3
    have h2 := h2.fr f3
    have f4 := (f1.trans f2).trans f3
    have z0 : Bs 0 := ⟨by decide, by decide⟩
    have z1 : Bs 1 := ⟨by decide, by decide⟩
    have h1' := h1
    have h2' := h2
    obtain ⟨t1, rfl, ht1⟩ := h1
    obtain ⟨t2, rfl, ht2⟩ := h2
    walk_at "s"
    refine TW.x_ite (fun c1 => ?_) (fun c1 => ?_)
    · walk_at "s"
      rename_i b hb
      have f5 := Fr.new (ok := fun _ => True) (o := .tup [V.ref t1, V.ref t1]) hb
      exact k _ _ _ _ _ _ _ _ (f4.alloc hb) (D3.new hb) upd_same (h1'.fr f5) (h1'.fr f5) bp1 bq1 bp1 bq1
    walk_at "s"
    refine TW.x_ite (fun c2 => ?_) (fun c2 => ?_)
    · walk_at "s"
      rename_i c hc b hb
      have f5 := Fr.new (ok := fun _ => True) (o := .tup [V.int (0 - p1), V.int q1]) hc
      have f6 := Fr.new (ok := fun _ => True) (o := .tup [V.ref t1, V.ref c]) hb
      exact k _ _ _ _ _ _ _ _ ((f4.alloc hc).alloc hb) ((D3.new hc).new hb) upd_same ((h1'.fr f5).fr f6) ⟨c, rfl, f6.tups _ _ upd_same⟩ bp1 bq1 ⟨by have := bp1.2; omega, by have := bp1.1; omega⟩ bq1
    walk_at "s"
    refine TW.x_ite (fun c3 => ?_) (fun c3 => ?_)
    · walk_at "s"
      rename_i c hc b hb
      have f5 := Fr.new (ok := fun _ => True) (o := .tup [V.int 0, V.int 1]) hc
      have f6 := Fr.new (ok := fun _ => True) (o := .tup [V.ref t1, V.ref c]) hb
      exact k _ _ _ _ _ _ _ _ ((f4.alloc hc).alloc hb) ((D3.new hc).new hb) upd_same ((h1'.fr f5).fr f6) ⟨c, rfl, f6.tups _ _ upd_same⟩ bp1 bq1 z0 z1
    walk_at "s"
    refine TW.x_ite (fun c4 => ?_) (fun c4 => ?_)
    · walk_at "s"
      rename_i c hc b hb
      have f5 := Fr.new (ok := fun _ => True) (o := .tup [V.int 0, V.int 1]) hc
      have f6 := Fr.new (ok := fun _ => True) (o := .tup [V.ref c, V.ref t2]) hb
      exact k _ _ _ _ _ _ _ _ ((f4.alloc hc).alloc hb) ((D3.new hc).new hb) upd_same ⟨c, rfl, f6.tups _ _ upd_same⟩ ((h2'.fr f5).fr f6) z0 z1 bp2 bq2
    walk_at "s"
    have kind4 : ∀ H4, Fr (fun _ => True) H3 H4 → ∀ v, Pr H4 v (nab q1 p1) (nbe q1 p1) → ∀ b, H4 b = none → p1 ≠ 0 → Q (.ref b) (upd H4 b (.tup [V.ref t1, v])) := fun H4 f5 v pv b hb hp => by
      have f6 := Fr.new (ok := fun _ => True) (o := .tup [V.ref t1, v]) hb
      have q := bq1.pair bp1
      exact k _ _ _ _ _ _ _ _ ((f4.trans (f5.mono fun _ _ => trivial)).alloc hb) ((D3.fr f5).new hb) upd_same ((h1'.fr f5).fr f6) (pv.fr f6) bp1 bq1 q.1 q.2
    have rest5 : ∀ H4, Fr (fun _ => True) H3 H4 → ∀ v, Pr H4 v (nab p2 q1) (nbe p2 q1) → ∀ b, H4 b = none → Q (.ref b) (upd H4 b (.tup [V.ref t1, v])) := fun H4 f5 v pv b hb => by
      have f6 := Fr.new (ok := fun _ => True) (o := .tup [V.ref t1, v]) hb
      have q := bp2.pair bq1
      exact k _ _ _ _ _ _ _ _ ((f4.trans (f5.mono fun _ _ => trivial)).alloc hb) ((D3.fr f5).new hb) upd_same ((h1'.fr f5).fr f6) (pv.fr f6) bp1 bq1 q.1 q.2
    refine TW.x_ite (fun c5 => ?_) (fun c5 => ?_)
    · walk_at "s"
      refine TW.x_iteN (fun c6 => ?_) (fun c6 => ?_)
      · walk_at "s"
        refine ⟨q1, p1, rfl, c6, bp1.bd.sm.bits, fun H4 v f5 pv => ?_⟩
        walk_at "s"
        rename_i b hb
        exact kind4 H4 f5 v pv b hb c6
      · walk_at "s"
        refine TW.x_iteF (by omega) ?_
        walk_at "s"
        rename_i b hb
        have f6 := Fr.new (ok := fun _ => True) (o := .tup [V.ref t1, V.ref t2]) hb
        exact k _ _ _ _ _ _ _ _ (f4.alloc hb) (D3.new hb) upd_same (h1'.fr f6) (h2'.fr f6) bp1 bq1 bp2 bq2
    · walk_at "s"
      refine TW.x_ite (fun c7 => ?_) (fun c7 => ?_)
      · walk_at "s"
        refine ⟨p2, q1, rfl, nq1, bq1.bd.sm.bits, fun H4 v f5 pv => ?_⟩
        walk_at "s"
        rename_i b hb
        exact rest5 H4 f5 v pv b hb
      · walk_at "s"
        rename_i b hb
        have f6 := Fr.new (ok := fun _ => True) (o := .tup [V.ref t1, V.ref t2]) hb
        exact k _ _ _ _ _ _ _ _ (f4.alloc hb) (D3.new hb) upd_same (h1'.fr f6) (h2'.fr f6) bp1 bq1 bp2 bq2

/-! ### what is told and what is due -/
def nd (p q : Int) : PyData := .tuple [.int p, .int q]
def nm2 : Nat → Str
  | 0 => "added" | 1 => "product" | 2 => "quotient" | 3 => "quotient by name" | _ => "both by name"
def nmP : Nat → Str
  | 0 => "power" | _ => "power by name"
def dueT (p1 q1 p2 q2 : Int) : PyData := nd (nab (p1 * q2 + p2 * q1) (q1 * q2)) (nbe (p1 * q2 + p2 * q1) (q1 * q2))
def dueM (p1 q1 p2 q2 : Int) : PyData := nd (nab (p1 * p2) (q1 * q2)) (nbe (p1 * p2) (q1 * q2))
def dueQ (p1 q1 p2 q2 : Int) : PyData := nd (nab (p1 * q2) (q1 * p2)) (nbe (p1 * q2) (q1 * p2))
def dueV (k : Nat) (p1 q1 p2 q2 : Int) : PyData :=
  match k with
  | 0 => dueT p1 q1 p2 q2 | 1 => dueM p1 q1 p2 q2 | 2 => dueQ p1 q1 p2 q2 | 3 => dueQ p1 q1 p2 q2 | _ => .list [dueT p1 q1 p2 q2, dueM p1 q1 p2 q2]
def due2 (k : Nat) (p1 q1 p2 q2 : Int) : PyData :=
  if OkN p1 q1 then if OkN p2 q2 then if (k = 2 ∨ k = 3) ∧ p2 = 0 then .tuple [.bool false, nd p2 q2] else .tuple [.bool true, dueV k p1 q1 p2 q2] else .tuple [.bool false, nd p2 q2] else .tuple [.bool false, nd p1 q1]
def dueP (p q t : Int) : PyData :=
  if OkN p q then if t < 0 then .tuple [.bool false, .int t] else .tuple [.bool true, nd (p ^ t.toNat) (q ^ t.toNat)] else .tuple [.bool false, nd p q]
def sp_ask : Sp := fun vs H Q _ =>
  (∃ (k : Nat) (v1 v2 : V) (p1 q1 p2 q2 : Int), k < 5 ∧ vs = [.str (nm2 k), v1, v2] ∧ Pr H v1 p1 q1 ∧ Pr H v2 p2 q2 ∧ Sm p1 ∧ Sm q1 ∧ Sm p2 ∧ Sm q2 ∧ ∀ (H' : Hp) (u : V), Fr (fun _ => True) H H' → Rep (fun _ => True) H' u (due2 k p1 q1 p2 q2) → Q u H') ∨
  ∃ (k : Nat) (v : V) (p q t : Int), k < 2 ∧ vs = [.str (nmP k), v, .int t] ∧ Pr H v p q ∧ Sm p ∧ Sm q ∧ t ≤ 41 ∧ ∀ (H' : Hp) (u : V), Fr (fun _ => True) H H' → Rep (fun _ => True) H' u (dueP p q t) → Q u H'
theorem vs3 {vs : List V} {H : Hp} {Q : VK} {E : XK} (h : sp_ask vs H Q E) : vs.length = 3 := by
  rcases h with ⟨k, v1, v2, p1, q1, p2, q2, _, rfl, _⟩ | ⟨k, v, p, q, t, _, rfl, _⟩ <;> rfl
/-- behind the try -/
def Mid (K : PySem.W.Frag) (C : Addr) (nm v1 v2 : V) (H : Hp) (D : PyData) : L2.St → Hp → Prop := fun σ H1 => ∃ found caught : V, σ = [some nm, some v1, some v2, some found, some caught, none] ∧ Fr (fun _ => True) H H1 ∧
  ((∃ d, caught = .non ∧ Rep (fun _ => True) H1 found d ∧ D = .tuple [.bool true, d]) ∨ ∃ (a : Addr) (y : V) (d : PyData), caught = .ref a ∧ Caught K H1 a C y ∧ Rep (fun _ => True) H1 y d ∧ D = .tuple [.bool false, d])
theorem mid_good {C : Addr} {nm v1 v2 u : V} {H H1 : Hp} {D d : PyData} (f : Fr (fun _ => True) H H1) (r : Rep (fun _ => True) H1 u d) (e : D = .tuple [.bool true, d]) : Mid K C nm v1 v2 H D [some nm, some v1, some v2, some u, some .non, none] H1 :=
  ⟨u, .non, rfl, f, .inl ⟨d, rfl, r, e⟩⟩
theorem mid_bad {C a d : Addr} {nm v1 v2 y : V} {H H1 : Hp} {D dy : PyData} (c : ErrC K C) (f : Fr (fun _ => True) H H1) (hd : H1 d = none) (ha : upd H1 d (.xd [(("value" : Str), y)]) a = none) (r : Rep (fun _ => True) H y dy) (e : D = .tuple [.bool false, dy]) :
    Mid K C nm v1 v2 H D [some nm, some v1, some v2, some .non, some (.ref a), none] (upd (upd H1 d (.xd [(("value" : Str), y)])) a (exk a (.ref C) (some d))) :=
  have f2 := (f.alloc (o := .xd [(("value" : Str), y)]) hd).alloc (o := exk a (.ref C) (some d)) ha
  ⟨.non, .ref a, rfl, f2, .inr ⟨a, y, dy, rfl, caught_mk c hd ha, r.fr f2, e⟩⟩
theorem c__law_told (T : Txt K mg C_WorthError C_InvalidNumber C_InvalidSigns C_UnknownSign C_InvalidMachine C_UnlikeSigns f_err) : FnAt P w K mg base CX0 6 "_law_told" s__law_told ["_law_name", "_law_one", "_law_other"] sp_ask := by
  refine TW.mkFn T.d__law_told sc__law_told (fun vs H Q E h => vs3 h) (fun f cdv A outer s H vs Q E hr h => ?_)
  have main : ∃ (nm v1 v2 : V) (D : PyData), vs = [nm, v1, v2] ∧ (∀ (H' : Hp) (u : V), Fr (fun _ => True) H H' → Rep (fun _ => True) H' u D → Q u H') ∧
      ((∃ (k : Nat) (p1 q1 p2 q2 : Int), k < 5 ∧ nm = V.str (nm2 k) ∧ D = due2 k p1 q1 p2 q2 ∧ Pr H v1 p1 q1 ∧ Pr H v2 p2 q2 ∧ Sm p1 ∧ Sm q1 ∧ Sm p2 ∧ Sm q2) ∨
       ∃ (k : Nat) (p q t : Int), k < 2 ∧ nm = V.str (nmP k) ∧ D = dueP p q t ∧ v2 = V.int t ∧ Pr H v1 p q ∧ Sm p ∧ Sm q ∧ t ≤ 41) := by
    rcases h with ⟨k, v1, v2, p1, q1, p2, q2, hk, rfl, h1, h2, s1, s2, s3, s4, k0⟩ | ⟨k, v, p, q, t, hk, rfl, h1, s1, s2, ht, k0⟩
    · exact ⟨_, _, _, _, rfl, k0, .inl ⟨k, p1, q1, p2, q2, hk, rfl, rfl, h1, h2, s1, s2, s3, s4⟩⟩
    · exact ⟨_, _, _, _, rfl, k0, .inr ⟨k, p, q, t, hk, rfl, rfl, rfl, h1, s1, s2, ht⟩⟩
  obtain ⟨nm, v1, v2, D, rfl, k0, cond⟩ := main
  refine ⟨_, (pss_cons (ps_asg (pe_tup (pa_cons pe_non (pa_cons pe_non pa_nil))) (pg_tup (by rfl) (pgs_cons (pg_name (i := 3) sc__law_told.nd rfl (.inl rfl)) (pgs_cons (pg_name (i := 4) sc__law_told.nd rfl (.inl rfl)) pgs_nil))))
  (Evl.pss_cut (TW.ps_try_keep (i := 5) (tb := fun W => _) (ts := _) rfl rfl rfl sc__law_told.nd rfl rfl ⟨rfl, by decide, .inl T.cl_WorthError⟩
    (fun W pn xe tk po => (pss_one (ps_if (pt_cmpR op_eq (pv 0) pe_str (nomark _)) (pss_one (ps_set (i := 3) sc__law_told.nd rfl (.inl rfl) (TW.pe_cs (cx_added T) hr (by decide) rfl tk (pa_cons (pv 1) (pa_cons (pv 2) pa_nil))))) (pss_one (ps_if (pt_cmpR op_eq (pv 0) pe_str (nomark _)) (pss_one (ps_set (i := 3) sc__law_told.nd rfl (.inl rfl) (TW.pe_cs (cx_product T) hr (by decide) rfl tk (pa_cons (pv 1) (pa_cons (pv 2) pa_nil))))) (pss_one (ps_if (pt_cmpR op_eq (pv 0) pe_str (nomark _)) (pss_one (ps_set (i := 3) sc__law_told.nd rfl (.inl rfl) (TW.pe_cs (cx_quotient T) hr (by decide) rfl tk (pa_cons (pv 1) (pa_cons (pv 2) pa_nil))))) (pss_one (ps_if (pt_cmpR op_eq (pv 0) pe_str (nomark _)) (pss_one (ps_set (i := 3) sc__law_told.nd rfl (.inl rfl) (TW.pe_cs (cx_power T) hr (by decide) rfl tk (pa_cons (pv 1) (pa_cons (pv 2) pa_nil))))) (pss_one (ps_if (pt_cmpR op_eq (pv 0) pe_str (nomark _)) (pss_one (ps_set (i := 3) sc__law_told.nd rfl (.inl rfl) (TW.pe_cks (cx_power T) kb_power_times_one hr (by decide) rfl tk (pk_cons (pv 2) (pk_cons (pv 1) pk_nil))))) (pss_one (ps_if (pt_cmpR op_eq (pv 0) pe_str (nomark _)) (pss_one (ps_set (i := 3) sc__law_told.nd rfl (.inl rfl) (TW.pe_cks (cx_quotient T) kb_quotient_other_one hr (by decide) rfl tk (pk_cons (pv 2) (pk_cons (pv 1) pk_nil))))) (pss_one (ps_set (i := 3) sc__law_told.nd rfl (.inl rfl) (pe_lst (pa_cons (TW.pe_cks (cx_added T) kb_added_other_one hr (by decide) rfl tk (pk_cons (pv 2) (pk_cons (pv 1) pk_nil))) (pa_cons (TW.pe_cks (cx_product T) kb_product_other_one hr (by decide) rfl tk (pk_cons (pv 2) (pk_cons (pv 1) pk_nil))) pa_nil))))))))))))))))))
    (fun a oe cls d pn hz hf => (pss_one (ps_set (i := 4) sc__law_told.nd rfl (.inl rfl) (pv 5)))))
  (pss_cons (ps_if (pt_cmpR TW.op_isNC (pv 4) pe_non (nomark _)) (pss_one (ps_ret (pe_tup (pa_cons pe_bl (pa_cons (pv 3) pa_nil))))) pss_nil)
  (pss_cons (ps_if (PW.pt (pw_or (pt_not (pt_val (pe_callB TW.call_isX (by rfl) T.no_isinstance (by decide +kernel) (pa_cons (pv 4) (pa_cons (pe_glob (v := .ref C_InvalidNumber) (u := .ref C_InvalidNumber) rfl T.cl_InvalidNumber rfl) pa_nil))))) (pw_or1 (pt_not (pt_val (pe_callB TW.call_isX (by rfl) T.no_isinstance (by decide +kernel) (pa_cons (pv 4) (pa_cons (pe_bltn (v := .ty "ValueError") (u := .type "ValueError") (by rfl) T.no_ValueError (by decide +kernel) rfl) pa_nil)))))))) (pss_one (ps_ret pe_non)) pss_nil)
  (pss_cons (ps_if (pt_val (pe_callB TW.call_isXT (by rfl) T.no_isinstance (by decide +kernel) (pa_cons (pv 4) (pa_cons (pe_tup (pa_cons (pe_glob (v := .ref C_InvalidMachine) (u := .ref C_InvalidMachine) rfl T.cl_InvalidMachine rfl) (pa_cons (pe_glob (v := .ref C_InvalidSigns) (u := .ref C_InvalidSigns) rfl T.cl_InvalidSigns rfl) (pa_cons (pe_glob (v := .ref C_UnknownSign) (u := .ref C_UnknownSign) rfl T.cl_UnknownSign rfl) (pa_cons (pe_glob (v := .ref C_UnlikeSigns) (u := .ref C_UnlikeSigns) rfl T.cl_UnlikeSigns rfl) pa_nil))))) pa_nil)))) (pss_one (ps_ret pe_non)) pss_nil)
  (pss_one (ps_ret (pe_tup (pa_cons pe_bl (pa_cons (TW.pe_xv (pv 4)) pa_nil)))))))))), ?_⟩
  walk_at "K"
  walk_at "s"
  rename_i p0 hp0
  have f0 : Fr (fun _ => True) H (upd H p0 (.tup [V.non, V.non])) := Fr.new hp0
  have cond := cond.imp (fun ⟨k, p1, q1, p2, q2, hk, e, hD, h1, h2, s⟩ => (⟨k, p1, q1, p2, q2, hk, e, hD, h1.fr f0, h2.fr f0, s⟩ : ∃ (k : Nat) (p1 q1 p2 q2 : Int), k < 5 ∧ nm = V.str (nm2 k) ∧ D = due2 k p1 q1 p2 q2 ∧ Pr (upd H p0 (.tup [V.non, V.non])) v1 p1 q1 ∧ Pr (upd H p0 (.tup [V.non, V.non])) v2 p2 q2 ∧ Sm p1 ∧ Sm q1 ∧ Sm p2 ∧ Sm q2))
    (fun ⟨k, p, q, t, hk, e, hD, e2, h1, s⟩ => (⟨k, p, q, t, hk, e, hD, e2, h1.fr f0, s⟩ : ∃ (k : Nat) (p q t : Int), k < 2 ∧ nm = V.str (nmP k) ∧ D = dueP p q t ∧ v2 = V.int t ∧ Pr (upd H p0 (.tup [V.non, V.non])) v1 p q ∧ Sm p ∧ Sm q ∧ t ≤ 41))
  generalize upd H p0 (.tup [V.non, V.non]) = H0 at f0 cond ⊢
  refine TW.x_cut (Mid K C_InvalidNumber nm v1 v2 H0 D) ?_ ?_
  · rcases cond with ⟨k, p1, q1, p2, q2, hk, rfl, hD, h1, h2, s1, s2, s3, s4⟩ | ⟨k, p, q, t, hk, rfl, hD, rfl, h1, s1, s2, ht⟩
    · have b1 : ¬ OkN p1 q1 → D = .tuple [.bool false, nd p1 q1] := fun n => by rw [hD, due2, if_neg n]
      have b2 : OkN p1 q1 → ¬ OkN p2 q2 → D = .tuple [.bool false, nd p2 q2] := fun o n => by rw [hD, due2, if_pos o, if_neg n]
      have b3 : OkN p1 q1 → OkN p2 q2 → (k = 2 ∨ k = 3) → p2 = 0 → D = .tuple [.bool false, nd p2 q2] := fun o n e z => by rw [hD, due2, if_pos o, if_pos n, if_pos ⟨e, z⟩]
      have g : OkN p1 q1 → OkN p2 q2 → ¬ ((k = 2 ∨ k = 3) ∧ p2 = 0) → D = .tuple [.bool true, dueV k p1 q1 p2 q2] := fun o n e => by rw [hD, due2, if_pos o, if_pos n, if_neg e]
      rcases k with _ | _ | _ | _ | _ | k
      · dsimp only [nm2, nmP]
        walk_at "tell"
        refine ⟨v1, v2, p1, q1, p2, q2, rfl, h1, h2, s1, s2, s3, s4, fun o1 o2 _ H1 u f1 pu => ?_, fun n1 => ?_, fun o1 n2 => ?_, fun o1 o2 z => z.elim⟩
        · walk_at "s"
          exact mid_good f1 pu.rep (g o1 o2 (by omega))
        · intro H8 d8 f8 hd8
          refine ⟨TW.exm_of2 T.ec_WorthError T.sb_InvalidNumber_WorthError, fun a8 ha8 => ?_⟩
          walk_at "s"
          exact mid_bad T.ec_InvalidNumber f8 hd8 ha8 h1.rep (b1 n1)
        · intro H8 d8 f8 hd8
          refine ⟨TW.exm_of2 T.ec_WorthError T.sb_InvalidNumber_WorthError, fun a8 ha8 => ?_⟩
          walk_at "s"
          exact mid_bad T.ec_InvalidNumber f8 hd8 ha8 h2.rep (b2 o1 n2)
      · dsimp only [nm2, nmP]
        walk_at "tell"
        refine ⟨v1, v2, p1, q1, p2, q2, rfl, h1, h2, s1, s2, s3, s4, fun o1 o2 _ H1 u f1 pu => ?_, fun n1 => ?_, fun o1 n2 => ?_, fun o1 o2 z => z.elim⟩
        · walk_at "s"
          exact mid_good f1 pu.rep (g o1 o2 (by omega))
        · intro H8 d8 f8 hd8
          refine ⟨TW.exm_of2 T.ec_WorthError T.sb_InvalidNumber_WorthError, fun a8 ha8 => ?_⟩
          walk_at "s"
          exact mid_bad T.ec_InvalidNumber f8 hd8 ha8 h1.rep (b1 n1)
        · intro H8 d8 f8 hd8
          refine ⟨TW.exm_of2 T.ec_WorthError T.sb_InvalidNumber_WorthError, fun a8 ha8 => ?_⟩
          walk_at "s"
          exact mid_bad T.ec_InvalidNumber f8 hd8 ha8 h2.rep (b2 o1 n2)
      · dsimp only [nm2, nmP]
        walk_at "tell"
        refine ⟨v1, v2, p1, q1, p2, q2, rfl, h1, h2, s1, s2, s3, s4, fun o1 o2 z H1 u f1 pu => ?_, fun n1 => ?_, fun o1 n2 => ?_, fun o1 o2 z => ?_⟩
        · walk_at "s"
          exact mid_good f1 pu.rep (g o1 o2 (by omega))
        · intro H8 d8 f8 hd8
          refine ⟨TW.exm_of2 T.ec_WorthError T.sb_InvalidNumber_WorthError, fun a8 ha8 => ?_⟩
          walk_at "s"
          exact mid_bad T.ec_InvalidNumber f8 hd8 ha8 h1.rep (b1 n1)
        · intro H8 d8 f8 hd8
          refine ⟨TW.exm_of2 T.ec_WorthError T.sb_InvalidNumber_WorthError, fun a8 ha8 => ?_⟩
          walk_at "s"
          exact mid_bad T.ec_InvalidNumber f8 hd8 ha8 h2.rep (b2 o1 n2)
        · intro H8 d8 f8 hd8
          refine ⟨TW.exm_of2 T.ec_WorthError T.sb_InvalidNumber_WorthError, fun a8 ha8 => ?_⟩
          walk_at "s"
          exact mid_bad T.ec_InvalidNumber f8 hd8 ha8 h2.rep (b3 o1 o2 (.inl rfl) z)
      · dsimp only [nm2, nmP]
        walk_at "tell"
        refine ⟨v1, v2, p1, q1, p2, q2, rfl, h1, h2, s1, s2, s3, s4, fun o1 o2 z H1 u f1 pu => ?_, fun n1 => ?_, fun o1 n2 => ?_, fun o1 o2 z => ?_⟩
        · walk_at "s"
          exact mid_good f1 pu.rep (g o1 o2 (by omega))
        · intro H8 d8 f8 hd8
          refine ⟨TW.exm_of2 T.ec_WorthError T.sb_InvalidNumber_WorthError, fun a8 ha8 => ?_⟩
          walk_at "s"
          exact mid_bad T.ec_InvalidNumber f8 hd8 ha8 h1.rep (b1 n1)
        · intro H8 d8 f8 hd8
          refine ⟨TW.exm_of2 T.ec_WorthError T.sb_InvalidNumber_WorthError, fun a8 ha8 => ?_⟩
          walk_at "s"
          exact mid_bad T.ec_InvalidNumber f8 hd8 ha8 h2.rep (b2 o1 n2)
        · intro H8 d8 f8 hd8
          refine ⟨TW.exm_of2 T.ec_WorthError T.sb_InvalidNumber_WorthError, fun a8 ha8 => ?_⟩
          walk_at "s"
          exact mid_bad T.ec_InvalidNumber f8 hd8 ha8 h2.rep (b3 o1 o2 (.inr rfl) z)
      · dsimp only [nm2, nmP]
        walk_at "tell"
        refine ⟨v1, v2, p1, q1, p2, q2, rfl, h1, h2, s1, s2, s3, s4, fun o1 o2 _ H1 u f1 pu => ?_, fun n1 => ?_, fun o1 n2 => ?_, fun o1 o2 z => z.elim⟩
        · walk_at "s"
          refine ⟨v1, v2, p1, q1, p2, q2, rfl, h1.fr f1, h2.fr f1, s1, s2, s3, s4, fun _ _ _ H2 u2 f2 pu2 => ?_, fun n1 => absurd o1 n1, fun _ n2 => absurd o2 n2, fun o1 o2 z => z.elim⟩
          walk_at "s"
          rename_i b hb
          have f3 := Fr.new (ok := fun _ => True) (o := .lst [u, u2]) hb
          exact mid_good ((f1.trans f2).alloc hb) (.lst trivial upd_same (.cons ((pu.fr f2).fr f3).rep (.cons (pu2.fr f3).rep .nil))) (g o1 o2 (by omega))
        · intro H8 d8 f8 hd8
          refine ⟨TW.exm_of2 T.ec_WorthError T.sb_InvalidNumber_WorthError, fun a8 ha8 => ?_⟩
          walk_at "s"
          exact mid_bad T.ec_InvalidNumber f8 hd8 ha8 h1.rep (b1 n1)
        · intro H8 d8 f8 hd8
          refine ⟨TW.exm_of2 T.ec_WorthError T.sb_InvalidNumber_WorthError, fun a8 ha8 => ?_⟩
          walk_at "s"
          exact mid_bad T.ec_InvalidNumber f8 hd8 ha8 h2.rep (b2 o1 n2)
      · omega
    · have b1 : ¬ OkN p q → D = .tuple [.bool false, nd p q] := fun n => by rw [hD, dueP, if_neg n]
      have b2 : OkN p q → t < 0 → D = .tuple [.bool false, .int t] := fun o n => by rw [hD, dueP, if_pos o, if_pos n]
      have g : OkN p q → 0 ≤ t → D = .tuple [.bool true, nd (p ^ t.toNat) (q ^ t.toNat)] := fun o n => by rw [hD, dueP, if_pos o, if_neg (by omega)]
      rcases k with _ | _ | k
      · dsimp only [nm2, nmP]
        walk_at "tell"
        refine ⟨v1, p, q, t, rfl, h1, s1, s2, ht, fun o z H1 u f1 pu => ?_, fun n1 => ?_, fun o1 n2 => ?_⟩
        · walk_at "s"
          exact mid_good f1 pu.rep (g o z)
        · intro H8 d8 f8 hd8
          refine ⟨TW.exm_of2 T.ec_WorthError T.sb_InvalidNumber_WorthError, fun a8 ha8 => ?_⟩
          walk_at "s"
          exact mid_bad T.ec_InvalidNumber f8 hd8 ha8 h1.rep (b1 n1)
        · intro H8 d8 f8 hd8
          refine ⟨TW.exm_of2 T.ec_WorthError T.sb_InvalidNumber_WorthError, fun a8 ha8 => ?_⟩
          walk_at "s"
          exact mid_bad T.ec_InvalidNumber f8 hd8 ha8 (Rep.int t) (b2 o1 n2)
      · dsimp only [nm2, nmP]
        walk_at "tell"
        refine ⟨v1, p, q, t, rfl, h1, s1, s2, ht, fun o z H1 u f1 pu => ?_, fun n1 => ?_, fun o1 n2 => ?_⟩
        · walk_at "s"
          exact mid_good f1 pu.rep (g o z)
        · intro H8 d8 f8 hd8
          refine ⟨TW.exm_of2 T.ec_WorthError T.sb_InvalidNumber_WorthError, fun a8 ha8 => ?_⟩
          walk_at "s"
          exact mid_bad T.ec_InvalidNumber f8 hd8 ha8 h1.rep (b1 n1)
        · intro H8 d8 f8 hd8
          refine ⟨TW.exm_of2 T.ec_WorthError T.sb_InvalidNumber_WorthError, fun a8 ha8 => ?_⟩
          walk_at "s"
          exact mid_bad T.ec_InvalidNumber f8 hd8 ha8 (Rep.int t) (b2 o1 n2)
      · omega
  · rintro σ H1 ⟨found, caught, rfl, f1, ⟨d, rfl, r, e⟩ | ⟨a, y, d, rfl, cg, r, e⟩⟩
    · walk_at "s"
      rename_i b hb
      exact k0 _ _ (f0.trans (f1.alloc hb)) (e ▸ .tup upd_same (.cons (.bl true) (.cons (r.fr (Fr.new hb)) .nil)))
    · walk_at "s"
      refine x_isX cg T.ec_InvalidNumber T.sb_InvalidNumber_InvalidNumber ?_
      walk_at "s"
      refine x_isVE cg ?_
      walk_at "s"
      rename_i p hp
      have f2 := Fr.new (ok := fun _ => True) (o := .tup [V.ref C_InvalidMachine, V.ref C_InvalidSigns, V.ref C_UnknownSign, V.ref C_UnlikeSigns]) hp
      have cg := cg.keep (fun b o e => f2.keep b o trivial e)
      refine x_isXn [C_InvalidMachine, C_InvalidSigns, C_UnknownSign, C_UnlikeSigns] cg upd_same ?_ ?_
      · simp only [List.forall_mem_cons]
        exact ⟨⟨T.ec_InvalidMachine, T.sb_InvalidNumber_InvalidMachine⟩, ⟨T.ec_InvalidSigns, T.sb_InvalidNumber_InvalidSigns⟩, ⟨T.ec_UnknownSign, T.sb_InvalidNumber_UnknownSign⟩, ⟨T.ec_UnlikeSigns, T.sb_InvalidNumber_UnlikeSigns⟩, fun _ h => by cases h⟩
      · walk_at "s"
        refine x_xv1 cg ?_
        walk_at "s"
        rename_i b hb
        exact k0 _ _ (f0.trans ((f1.alloc hp).alloc hb)) (e ▸ .tup upd_same (.cons (.bl false) (.cons ((r.fr f2).fr (Fr.new hb)) .nil)))

theorem x_slTo {te : TE} {n : Int} {σ : L2.St} {H : Hp} {Q : VK} (h : te σ H fun x H1 => ∃ i, V.int n = .int i ∧ rSlS x none (some i) H1 Q) : tSl rSlS te tNoPart (tPart (tC (.int n))) σ H Q := h
theorem x_slTo1 {z y : Str} {n : Int} {H : Hp} {Q : VK} (hz : z.length ≤ sizeLine ∧ cutS z none (some n) = y) (q : Q (.str y) H) : ∃ i, V.int n = .int i ∧ rSlS (.str z) none (some i) H Q := ⟨n, rfl, z, rfl, hz.1, by rw [hz.2]; exact q⟩
def c5 : Nat → Str
  | 0 => "added" | 1 => "produ" | 2 => "quoti" | 3 => "quoti" | _ => "both "
def c8 : Nat → Str
  | 0 => "added" | 1 => "product" | 2 => "quotient" | 3 => "quotient" | _ => "both by "
theorem cut58 : ∀ k < 5, ((nm2 k).length ≤ sizeLine ∧ cutS (nm2 k) none (some 5) = c5 k) ∧ ((nm2 k).length ≤ sizeLine ∧ cutS (nm2 k) none (some 8) = c8 k) ∧ ¬ c5 k = ("power" : Str) := by decide
theorem cutP : ∀ k < 2, (nmP k).length ≤ sizeLine ∧ cutS (nmP k) none (some 5) = ("power" : Str) := by decide
theorem c__law_due (T : Txt K mg C_WorthError C_InvalidNumber C_InvalidSigns C_UnknownSign C_InvalidMachine C_UnlikeSigns f_err) : FnAt P w K mg base CX0 3 "_law_due" s__law_due ["_law_name", "_law_one", "_law_other"] sp_ask := by
  refine TW.mkFn T.d__law_due sc__law_due (fun vs H Q E h => vs3 h) (fun f cdv A outer s H vs Q E hr h => ?_)
  rcases h with ⟨k, v1, v2, p1, q1, p2, q2, hk, rfl, h1, h2, s1, s2, s3, s4, k0⟩ | ⟨k, v, p, q, t, hk, rfl, h1, s1, s2, ht, k0⟩
  · have two : ∀ {H2 : Hp} {b : Addr} {ok : Bool} {u : V} {d : PyData}, Fr (fun _ => True) H H2 → H2 b = none → Rep (fun _ => True) H2 u d → due2 k p1 q1 p2 q2 = .tuple [.bool ok, d] → Q (.ref b) (upd H2 b (.tup [.bl ok, u])) := fun f hb r e =>
      k0 _ _ (f.alloc hb) (e ▸ .tup upd_same (.cons (.bl _) (.cons (r.fr (Fr.new hb)) .nil)))
    refine ⟨_, (pss_cons (ps_if (pt_not (pt_val (TW.pe_c ((c__law_is_number) T) hr (by decide) rfl (pa_cons (pv 1) pa_nil)))) (pss_one (ps_ret (pe_tup (pa_cons pe_bl (pa_cons (pv 1) pa_nil))))) pss_nil)
  (pss_cons (ps_if (pt_cmpR op_eq (pe_slice sl_str (pv 0) po_none (po_some pe_int)) pe_str (nomark _)) (pss_cons (ps_if (pt_cmpR op_lt (pv 2) pe_int (nomark _)) (pss_one (ps_ret (pe_tup (pa_cons pe_bl (pa_cons (pv 2) pa_nil))))) pss_nil)
  (pss_cons (ps_set (i := 3) sc__law_due.nd rfl (.inl rfl) (pe_tup (pa_cons pe_int (pa_cons pe_int pa_nil))))
  (pss_cons (ps_for PassesOwn.never rfl (pi_range1 rfl T.no_range (pa_cons (pv 2) pa_nil)) (pg_name (i := 4) sc__law_due.nd rfl (.inl rfl)) (pss_one (ps_set (i := 3) sc__law_due.nd rfl (.inl rfl) (pe_tup (pa_cons (pe_op op_mulW (pe_ix ix_tup (pv 3) pe_int (fun _ _ => rfl)) (pe_ix ix_tup (pv 1) pe_int (fun _ _ => rfl))) (pa_cons (pe_op op_mulW (pe_ix ix_tup (pv 3) pe_int (fun _ _ => rfl)) (pe_ix ix_tup (pv 1) pe_int (fun _ _ => rfl))) pa_nil))))))
  (pss_one (ps_ret (pe_tup (pa_cons pe_bl (pa_cons (pv 3) pa_nil)))))))) pss_nil)
  (pss_cons (ps_if (pt_not (pt_val (TW.pe_c ((c__law_is_number) T) hr (by decide) rfl (pa_cons (pv 2) pa_nil)))) (pss_one (ps_ret (pe_tup (pa_cons pe_bl (pa_cons (pv 2) pa_nil))))) pss_nil)
  (pss_cons (ps_if (pt_cmpR op_eq (pe_slice sl_str (pv 0) po_none (po_some pe_int)) pe_str (nomark _)) (pss_cons (ps_if (pt_cmpR op_eq (pe_ix ix_tup (pv 2) pe_int (fun _ _ => rfl)) pe_int (nomark _)) (pss_one (ps_ret (pe_tup (pa_cons pe_bl (pa_cons (pv 2) pa_nil))))) pss_nil)
  (pss_one (ps_ret (pe_tup (pa_cons pe_bl (pa_cons (TW.pe_c ((c__law_pair) T) hr (by decide) rfl (pa_cons (pe_op op_mulW (pe_ix ix_tup (pv 1) pe_int (fun _ _ => rfl)) (pe_ix ix_tup (pv 2) pe_int (fun _ _ => rfl))) (pa_cons (pe_op op_mulW (pe_ix ix_tup (pv 1) pe_int (fun _ _ => rfl)) (pe_ix ix_tup (pv 2) pe_int (fun _ _ => rfl))) pa_nil))) pa_nil)))))) pss_nil)
  (pss_cons (ps_set (i := 5) sc__law_due.nd rfl (.inl rfl) (TW.pe_c ((c__law_pair) T) hr (by decide) rfl (pa_cons (pe_op op_add (pe_op op_mulW (pe_ix ix_tup (pv 1) pe_int (fun _ _ => rfl)) (pe_ix ix_tup (pv 2) pe_int (fun _ _ => rfl))) (pe_op op_mulW (pe_ix ix_tup (pv 2) pe_int (fun _ _ => rfl)) (pe_ix ix_tup (pv 1) pe_int (fun _ _ => rfl)))) (pa_cons (pe_op op_mulW (pe_ix ix_tup (pv 1) pe_int (fun _ _ => rfl)) (pe_ix ix_tup (pv 2) pe_int (fun _ _ => rfl))) pa_nil))))
  (pss_cons (ps_set (i := 6) sc__law_due.nd rfl (.inl rfl) (TW.pe_c ((c__law_pair) T) hr (by decide) rfl (pa_cons (pe_op op_mulW (pe_ix ix_tup (pv 1) pe_int (fun _ _ => rfl)) (pe_ix ix_tup (pv 2) pe_int (fun _ _ => rfl))) (pa_cons (pe_op op_mulW (pe_ix ix_tup (pv 1) pe_int (fun _ _ => rfl)) (pe_ix ix_tup (pv 2) pe_int (fun _ _ => rfl))) pa_nil))))
  (pss_cons (ps_if (pt_cmpR op_eq (pv 0) pe_str (nomark _)) (pss_one (ps_ret (pe_tup (pa_cons pe_bl (pa_cons (pv 5) pa_nil))))) pss_nil)
  (pss_cons (ps_if (pt_cmpR op_eq (pv 0) pe_str (nomark _)) (pss_one (ps_ret (pe_tup (pa_cons pe_bl (pa_cons (pv 6) pa_nil))))) pss_nil)
  (pss_one (ps_ret (pe_tup (pa_cons pe_bl (pa_cons (pe_lst (pa_cons (pv 5) (pa_cons (pv 6) pa_nil))) pa_nil))))))))))))), ?_⟩
    walk_at "K"
    walk_at "s"
    refine ⟨v1, p1, q1, rfl, h1, fun c1 o1 => ?_⟩
    walk_at "s"
    cases c1 with
    | false =>
      have n1 : ¬ OkN p1 q1 := fun z => by cases o1.mpr z
      walk_at "s"
      rename_i b hb
      exact two Fr.refl hb h1.rep (by rw [due2, if_neg n1]; rfl)
    | true =>
      have o1 := o1.mp rfl
      obtain ⟨e5, e8, n5⟩ := cut58 k hk
      walk_at "s"
      refine x_slTo ?_
      walk_at "s"
      refine x_slTo1 e5 ?_
      walk_at "s"
      refine TW.x_iteF n5 ?_
      walk_at "s"
      refine ⟨v2, p2, q2, rfl, h2, fun c2 o2 => ?_⟩
      walk_at "s"
      cases c2 with
      | false =>
        have n2 : ¬ OkN p2 q2 := fun z => by cases o2.mpr z
        walk_at "s"
        rename_i b hb
        exact two Fr.refl hb h2.rep (by rw [due2, if_pos o1, if_neg n2]; rfl)
      | true =>
        have o2 := o2.mp rfl
        have g : ¬ ((k = 2 ∨ k = 3) ∧ p2 = 0) → due2 k p1 q1 p2 q2 = .tuple [.bool true, dueV k p1 q1 p2 q2] := fun e => by rw [due2, if_pos o1, if_pos o2, if_neg e]
        walk_at "s"
        refine x_slTo ?_
        walk_at "s"
        refine x_slTo1 e8 ?_
        walk_at "s"
        obtain ⟨t1, rfl, ht1⟩ := h1
        obtain ⟨t2, rfl, ht2⟩ := h2
        have m1 := s1.mul s3
        have m2 := s2.mul s4
        have m3 := s1.mul s4
        have m4 := s3.mul s2
        have m5 := s2.mul s3
        rcases k with _ | _ | _ | _ | _ | k
        all_goals dsimp only [c8, nm2]
        · have g := g (by omega)
          walk_at "tell"
          refine ⟨_, _, rfl, ok_ne o1 o2, s2.den s4, fun H1 x f1 px => ?_⟩
          have ht1 := f1.tups _ _ ht1
          have ht2 := f1.tups _ _ ht2
          walk_at "tell"
          refine ⟨_, _, rfl, ok_ne o1 o2, s2.den s4, fun H2 y f2 py => ?_⟩
          walk_at "tell"
          rename_i b hb
          exact two (f1.trans f2) hb (px.fr f2).rep g
        · have g := g (by omega)
          walk_at "tell"
          refine ⟨_, _, rfl, ok_ne o1 o2, s2.den s4, fun H1 x f1 px => ?_⟩
          have ht1 := f1.tups _ _ ht1
          have ht2 := f1.tups _ _ ht2
          walk_at "tell"
          refine ⟨_, _, rfl, ok_ne o1 o2, s2.den s4, fun H2 y f2 py => ?_⟩
          walk_at "tell"
          rename_i b hb
          exact two (f1.trans f2) hb py.rep g
        · walk_at "tell"
          refine TW.x_ite (fun z => ?_) (fun z => ?_)
          · walk_at "tell"
            rename_i b hb
            exact two Fr.refl hb (.tup ht2 (.cons (.int _) (.cons (.int _) .nil))) (by rw [due2, if_pos o1, if_pos o2, if_pos ⟨by omega, z⟩]; rfl)
          · have g := g (by omega)
            walk_at "tell"
            have nz : q1 * p2 ≠ 0 := fun e => by
              have := o1.1
              rcases Int.mul_eq_zero.mp e with e | e
              · omega
              · exact z e
            refine ⟨_, _, rfl, nz, s2.den s3, fun H1 x f1 px => ?_⟩
            walk_at "tell"
            rename_i b hb
            exact two f1 hb px.rep g
        · walk_at "tell"
          refine TW.x_ite (fun z => ?_) (fun z => ?_)
          · walk_at "tell"
            rename_i b hb
            exact two Fr.refl hb (.tup ht2 (.cons (.int _) (.cons (.int _) .nil))) (by rw [due2, if_pos o1, if_pos o2, if_pos ⟨by omega, z⟩]; rfl)
          · have g := g (by omega)
            walk_at "tell"
            have nz : q1 * p2 ≠ 0 := fun e => by
              have := o1.1
              rcases Int.mul_eq_zero.mp e with e | e
              · omega
              · exact z e
            refine ⟨_, _, rfl, nz, s2.den s3, fun H1 x f1 px => ?_⟩
            walk_at "tell"
            rename_i b hb
            exact two f1 hb px.rep g
        · have g := g (by omega)
          walk_at "tell"
          refine ⟨_, _, rfl, ok_ne o1 o2, s2.den s4, fun H1 x f1 px => ?_⟩
          have ht1 := f1.tups _ _ ht1
          have ht2 := f1.tups _ _ ht2
          walk_at "tell"
          refine ⟨_, _, rfl, ok_ne o1 o2, s2.den s4, fun H2 y f2 py => ?_⟩
          walk_at "tell"
          rename_i l hl b hb
          have f3 := Fr.new (ok := fun _ => True) (o := .lst [x, y]) hl
          exact two ((f1.trans f2).alloc hl) hb (.lst trivial upd_same (.cons ((px.fr f2).fr f3).rep (.cons (py.fr f3).rep .nil))) g
        · omega
  · have two : ∀ {H2 : Hp} {b : Addr} {ok : Bool} {u : V} {d : PyData}, Fr (fun _ => True) H H2 → H2 b = none → Rep (fun _ => True) H2 u d → dueP p q t = .tuple [.bool ok, d] → Q (.ref b) (upd H2 b (.tup [.bl ok, u])) := fun f hb r e =>
      k0 _ _ (f.alloc hb) (e ▸ .tup upd_same (.cons (.bl _) (.cons (r.fr (Fr.new hb)) .nil)))
    refine ⟨_, (pss_cons (ps_if (pt_not (pt_val (TW.pe_c ((c__law_is_number) T) hr (by decide) rfl (pa_cons (pv 1) pa_nil)))) (pss_one (ps_ret (pe_tup (pa_cons pe_bl (pa_cons (pv 1) pa_nil))))) pss_nil)
  (pss_cons (ps_if (pt_cmpR op_eq (pe_slice sl_str (pv 0) po_none (po_some pe_int)) pe_str (nomark _)) (pss_cons (ps_if (pt_cmpR op_lt (pv 2) pe_int (nomark _)) (pss_one (ps_ret (pe_tup (pa_cons pe_bl (pa_cons (pv 2) pa_nil))))) pss_nil)
  (pss_cons (ps_set (i := 3) sc__law_due.nd rfl (.inl rfl) (pe_tup (pa_cons pe_int (pa_cons pe_int pa_nil))))
  (pss_cons (ps_for PassesOwn.never rfl (pi_range1 rfl T.no_range (pa_cons (pv 2) pa_nil)) (pg_name (i := 4) sc__law_due.nd rfl (.inl rfl)) (pss_one (ps_set (i := 3) sc__law_due.nd rfl (.inl rfl) (pe_tup (pa_cons (pe_op op_mulW (pe_ix ix_tup (pv 3) pe_int (fun _ _ => rfl)) (pe_ix ix_tup (pv 1) pe_int (fun _ _ => rfl))) (pa_cons (pe_op op_mulW (pe_ix ix_tup (pv 3) pe_int (fun _ _ => rfl)) (pe_ix ix_tup (pv 1) pe_int (fun _ _ => rfl))) pa_nil))))))
  (pss_one (ps_ret (pe_tup (pa_cons pe_bl (pa_cons (pv 3) pa_nil)))))))) pss_nil)
  (pss_cons (ps_if (pt_not (pt_val (TW.pe_c ((c__law_is_number) T) hr (by decide) rfl (pa_cons (pv 2) pa_nil)))) (pss_one (ps_ret (pe_tup (pa_cons pe_bl (pa_cons (pv 2) pa_nil))))) pss_nil)
  (pss_cons (ps_if (pt_cmpR op_eq (pe_slice sl_str (pv 0) po_none (po_some pe_int)) pe_str (nomark _)) (pss_cons (ps_if (pt_cmpR op_eq (pe_ix ix_tup (pv 2) pe_int (fun _ _ => rfl)) pe_int (nomark _)) (pss_one (ps_ret (pe_tup (pa_cons pe_bl (pa_cons (pv 2) pa_nil))))) pss_nil)
  (pss_one (ps_ret (pe_tup (pa_cons pe_bl (pa_cons (TW.pe_c ((c__law_pair) T) hr (by decide) rfl (pa_cons (pe_op op_mulW (pe_ix ix_tup (pv 1) pe_int (fun _ _ => rfl)) (pe_ix ix_tup (pv 2) pe_int (fun _ _ => rfl))) (pa_cons (pe_op op_mulW (pe_ix ix_tup (pv 1) pe_int (fun _ _ => rfl)) (pe_ix ix_tup (pv 2) pe_int (fun _ _ => rfl))) pa_nil))) pa_nil)))))) pss_nil)
  (pss_cons (ps_set (i := 5) sc__law_due.nd rfl (.inl rfl) (TW.pe_c ((c__law_pair) T) hr (by decide) rfl (pa_cons (pe_op op_add (pe_op op_mulW (pe_ix ix_tup (pv 1) pe_int (fun _ _ => rfl)) (pe_ix ix_tup (pv 2) pe_int (fun _ _ => rfl))) (pe_op op_mulW (pe_ix ix_tup (pv 2) pe_int (fun _ _ => rfl)) (pe_ix ix_tup (pv 1) pe_int (fun _ _ => rfl)))) (pa_cons (pe_op op_mulW (pe_ix ix_tup (pv 1) pe_int (fun _ _ => rfl)) (pe_ix ix_tup (pv 2) pe_int (fun _ _ => rfl))) pa_nil))))
  (pss_cons (ps_set (i := 6) sc__law_due.nd rfl (.inl rfl) (TW.pe_c ((c__law_pair) T) hr (by decide) rfl (pa_cons (pe_op op_mulW (pe_ix ix_tup (pv 1) pe_int (fun _ _ => rfl)) (pe_ix ix_tup (pv 2) pe_int (fun _ _ => rfl))) (pa_cons (pe_op op_mulW (pe_ix ix_tup (pv 1) pe_int (fun _ _ => rfl)) (pe_ix ix_tup (pv 2) pe_int (fun _ _ => rfl))) pa_nil))))
  (pss_cons (ps_if (pt_cmpR op_eq (pv 0) pe_str (nomark _)) (pss_one (ps_ret (pe_tup (pa_cons pe_bl (pa_cons (pv 5) pa_nil))))) pss_nil)
  (pss_cons (ps_if (pt_cmpR op_eq (pv 0) pe_str (nomark _)) (pss_one (ps_ret (pe_tup (pa_cons pe_bl (pa_cons (pv 6) pa_nil))))) pss_nil)
  (pss_one (ps_ret (pe_tup (pa_cons pe_bl (pa_cons (pe_lst (pa_cons (pv 5) (pa_cons (pv 6) pa_nil))) pa_nil))))))))))))), ?_⟩
    walk_at "K"
    walk_at "s"
    refine ⟨v, p, q, rfl, h1, fun c1 o1 => ?_⟩
    walk_at "s"
    cases c1 with
    | false =>
      have n1 : ¬ OkN p q := fun z => by cases o1.mpr z
      walk_at "s"
      rename_i b hb
      exact two Fr.refl hb h1.rep (by rw [dueP, if_neg n1]; rfl)
    | true =>
      have o1 := o1.mp rfl
      walk_at "s"
      refine x_slTo ?_
      walk_at "s"
      refine x_slTo1 (cutP k hk) ?_
      walk_at "s"
      refine TW.x_ite (fun z => ?_) (fun z => ?_)
      · walk_at "s"
        rename_i b hb
        exact two Fr.refl hb (.int t) (by rw [dueP, if_pos o1, if_pos z])
      · walk_at "s"
        rename_i c hc
        obtain ⟨t1, rfl, ht1⟩ := h1
        refine TW.x_forR (k := t.toNat) (by omega) (by omega) (fun i σ H2 => ∃ (x : V) (o : Option V), σ = [some (.str (nmP k)), some (.ref t1), some (.int t), some x, o, none, none] ∧ Fr (fun _ => True) H H2 ∧ Pr H2 x (p ^ i) (q ^ i)) ⟨.ref c, none, rfl, Fr.new hc, c, rfl, by rw [Int.pow_zero, Int.pow_zero]; exact upd_same⟩ ?_ ?_
        · rintro i σ H2 hi ⟨_, o, rfl, f2, x, rfl, hx⟩
          have ht1 := f2.tups _ _ ht1
          have m1 := pow_mul s1 (n := i) (by omega)
          have m2 := pow_mul s2 (n := i) (by omega)
          walk_at "s"
          rename_i b hb
          exact ⟨_, _, rfl, f2.alloc hb, b, rfl, by rw [Int.pow_succ, Int.pow_succ]; exact upd_same⟩
        · rintro σ H2 ⟨x, o, rfl, f2, px⟩
          walk_at "s"
          rename_i b hb
          exact two f2 hb px.rep (by rw [dueP, if_pos o1, if_neg z]; rfl)

theorem due_depth : ∀ (k : Nat) (p1 q1 p2 q2 : Int), PyData.depth (due2 k p1 q1 p2 q2) < 4 := by
  intro k p1 q1 p2 q2
  unfold due2
  split
  · split
    · split
      · simp [nd, PyData.depth, PyData.depthAll]
      · rcases k with _ | _ | _ | _ | k <;> simp [dueV, dueT, dueM, dueQ, nd, PyData.depth, PyData.depthAll]
    · simp [nd, PyData.depth, PyData.depthAll]
  · simp [nd, PyData.depth, PyData.depthAll]
theorem dueP_depth (p q t : Int) : PyData.depth (dueP p q t) < 4 := by
  unfold dueP
  split
  · split
    · simp [PyData.depth, PyData.depthAll]
    · simp [nd, PyData.depth, PyData.depthAll]
  · simp [nd, PyData.depth, PyData.depthAll]
/-- a number within 10 ^ 45 -/
def Nm (H : Hp) (v : V) : Prop := ∃ p q : Int, Pr H v p q ∧ Bd p ∧ Bd q
theorem Nm.fr {ok : Addr → Prop} {H H' : Hp} {v : V} (h : Nm H v) (f : Fr ok H H') : Nm H' v := by
  obtain ⟨p, q, h, b, c⟩ := h
  exact ⟨p, q, h.fr f, b, c⟩
def sp_law (K : PySem.W.Frag) : Sp := fun vs H Q _ => ∃ (l : Addr) (ns : List Int), vs = [.ref l] ∧ SqL K H l (ns.map V.int) ∧ ns.length ≤ 63 ∧ ∀ H' : Hp, Q (.bl true) H'
theorem c_law (T : Txt K mg C_WorthError C_InvalidNumber C_InvalidSigns C_UnknownSign C_InvalidMachine C_UnlikeSigns f_err) : FnAt P w K mg base CX0 7 "law" s_law ["_law_script"] (sp_law K) := by
  refine TW.mkFn T.d_law sc_law (fun vs H Q E h => ?_) (fun f cdv A outer s H vs Q E hr h => ?_)
  · obtain ⟨l, ns, rfl, _⟩ := h
    rfl
  · obtain ⟨l, ns, rfl, hS, hl, k⟩ := h
    refine ⟨_, (pss_cons (ps_set (i := 1) sc_law.nd rfl (.inl rfl) (TW.pe_c ((c__law_deck) T) hr (by decide) rfl (pa_cons (pv 0) pa_nil)))
  (pss_cons (ps_for PassesOwn.never rfl (pi_range1 rfl T.no_range (pa_cons pe_int pa_nil)) (pg_name (i := 2) sc_law.nd rfl (.inl rfl)) (pss_cons (ps_set (i := 3) sc_law.nd rfl (.inl rfl) (TW.pe_c ((c__law_two) T) hr (by decide) rfl (pa_cons (pv 1) pa_nil)))
  (pss_cons (ps_set (i := 4) sc_law.nd rfl (.inl rfl) (pe_callTy TW.call_listC (by rfl) T.no_list (by decide +kernel) (pa_cons (pv 3) pa_nil)))
  (pss_cons (ps_for PassesOwn.never rfl (pi_range1 rfl T.no_range (pa_cons pe_int pa_nil)) (pg_name (i := 5) sc_law.nd rfl (.inl rfl)) (pss_one (ps_if (pt_cmpR op_eq (TW.pe_c ((c__law_draw) T) hr (by decide) rfl (pa_cons (pv 1) (pa_cons pe_int pa_nil))) pe_int (nomark _)) (pss_one (ps_asg (TW.pe_c ((c__law_wrong) T) hr (by decide) rfl (pa_cons (pv 1) (pa_cons (pe_ix ix_tup (pv 3) (pv 5) (fun _ _ => rfl)) pa_nil))) (pg_sub (pv 4) (pv 5) set_list))) pss_nil)))
  (pss_cons (ps_set (i := 6) sc_law.nd rfl (.inl rfl) (pe_ix ix_list (pe_lst (pa_cons (TW.pe_c ((c__law_draw) T) hr (by decide) rfl (pa_cons (pv 1) (pa_cons pe_int pa_nil))) (pa_cons (TW.pe_c ((c__law_draw) T) hr (by decide) rfl (pa_cons (pv 1) (pa_cons pe_int pa_nil))) (pa_cons (pe_op op_sub (pe_un un_neg pe_int) (TW.pe_c ((c__law_draw) T) hr (by decide) rfl (pa_cons (pv 1) (pa_cons (pe_op op_pow pe_int pe_int) pa_nil)))) pa_nil)))) (TW.pe_c ((c__law_draw) T) hr (by decide) rfl (pa_cons (pv 1) (pa_cons pe_int pa_nil))) (fun _ _ => rfl)))
  (pss_one (ps_for PassesOwn.never rfl (pi_list (pe_lst (pa_cons (pe_tup (pa_cons (pe_ix ix_list (pv 4) pe_int (fun _ _ => rfl)) (pa_cons (pe_ix ix_list (pv 4) pe_int (fun _ _ => rfl)) pa_nil))) (pa_cons (pv 3) pa_nil)))) (pg_tup (by rfl) (pgs_cons (pg_name (i := 7) sc_law.nd rfl (.inl rfl)) (pgs_cons (pg_name (i := 8) sc_law.nd rfl (.inl rfl)) pgs_nil))) (pss_cons (ps_for PassesOwn.never rfl (pi_list (pe_lst (pa_cons pe_str (pa_cons pe_str (pa_cons pe_str (pa_cons pe_str (pa_cons pe_str pa_nil))))))) (pg_name (i := 9) sc_law.nd rfl (.inl rfl)) (pss_one (ps_if (pt_not (pt_val (TW.pe_c ((fun T => c__law_alike T 4) T) hr (by decide) rfl (pa_cons (TW.pe_c ((c__law_told) T) hr (by decide) rfl (pa_cons (pv 9) (pa_cons (pv 7) (pa_cons (pv 8) pa_nil)))) (pa_cons (TW.pe_c ((c__law_due) T) hr (by decide) rfl (pa_cons (pv 9) (pa_cons (pv 7) (pa_cons (pv 8) pa_nil)))) pa_nil))))) (pss_one (ps_ret pe_bl)) pss_nil)))
  (pss_one (ps_for PassesOwn.never rfl (pi_list (pe_lst (pa_cons pe_str (pa_cons pe_str pa_nil)))) (pg_name (i := 9) sc_law.nd rfl (.inl rfl)) (pss_one (ps_for PassesOwn.never rfl (pi_list (pe_lst (pa_cons (pv 6) (pa_cons pe_int (pa_cons pe_int pa_nil))))) (pg_name (i := 10) sc_law.nd rfl (.inl rfl)) (pss_one (ps_if (pt_not (pt_val (TW.pe_c ((fun T => c__law_alike T 4) T) hr (by decide) rfl (pa_cons (TW.pe_c ((c__law_told) T) hr (by decide) rfl (pa_cons (pv 9) (pa_cons (pv 7) (pa_cons (pv 10) pa_nil)))) (pa_cons (TW.pe_c ((c__law_due) T) hr (by decide) rfl (pa_cons (pv 9) (pa_cons (pv 7) (pa_cons (pv 10) pa_nil)))) pa_nil))))) (pss_one (ps_ret pe_bl)) pss_nil))))))))))))))
  (pss_one (ps_ret pe_bl)))), ?_⟩
    walk_at "K"
    walk_at "s"
    refine ⟨l, ns, rfl, hS, hl, fun H1 a g f1 na ng D1 => ?_⟩
    walk_at "s"
    refine TW.x_forR (k := 8) rfl (by decide) (fun i σ H2 => ∃ (o2 o3 o4 o5 o6 o7 o8 o9 o10 : Option V), σ = [some (.ref l), some (.ref a), o2, o3, o4, o5, o6, o7, o8, o9, o10] ∧ Deck H2 a g (21 * (8 - i)))
      ⟨none, none, none, none, none, none, none, none, none, rfl, D1.le (by decide)⟩ ?_ ?_
    · rintro i σ H2 hi ⟨o2, o3, o4, o5, o6, o7, o8, o9, o10, rfl, D2⟩
      walk_at "s"
      refine ⟨a, g, 21 * (8 - (i + 1)) + 12, rfl, D2.le (by omega), fun H3 t v1 v2 p1 q1 p2 q2 f3 D3 ht h1 h2 b1 b2 b3 b4 => ?_⟩
      walk_at "s"
      refine x_listT (SqT.of ht) fun bl hbl => ?_
      walk_at "s"
      have ob := D3.off hbl
      have no : ∀ b : Addr, False → Off a g b := fun _ z => z.elim
      have g0 : Fr (fun _ => False) H3 (upd H3 bl (.lst [v1, v2])) := Fr.new hbl
      refine TW.x_forR (k := 2) rfl (by decide) (fun j σ H4 => ∃ (o5 : Option V) (x0 x1 : V), σ = [some (.ref l), some (.ref a), some (.int i), some (.ref t), some (.ref bl), o5, o6, o7, o8, o9, o10] ∧ Deck H4 a g (21 * (8 - (i + 1)) + 4 + 4 * (2 - j)) ∧ Fr (fun _ => False) H3 H4 ∧ H4 bl = some (.lst [x0, x1]) ∧ Nm H4 x0 ∧ Nm H4 x1)
        ⟨_, v1, v2, rfl, D3.new hbl, g0, upd_same, ⟨p1, q1, h1.fr g0, b1.bd, b2.bd⟩, ⟨p2, q2, h2.fr g0, b3.bd, b4.bd⟩⟩ ?_ ?_
      · rintro j σ H4 hj ⟨o5, x0, x1, rfl, D4, f4, hx, n0, n1⟩
        walk_at "s"
        refine ⟨a, g, 21 * (8 - (i + 1)) + 4 + 4 * (2 - (j + 1)) + 3, 4, rfl, D4.le (by omega), by decide, by decide, fun H5 r f5 D5 r0 r1 => ?_⟩
        have hx := f5.keep _ _ ob hx
        have f4 := f4.trans (f5.mono no)
        have n0 := n0.fr f5
        have n1 := n1.fr f5
        have ht := f4.tups _ _ ht
        have h1 := h1.fr f4
        have h2 := h2.fr f4
        walk_at "s"
        refine TW.x_ite (fun c1 => ?_) (fun c1 => ?_)
        · obtain ⟨v, p, q, hv, pv, bp, bq⟩ : ∃ (v : V) (p q : Int), atI [v1, v2] (j : Int) = some v ∧ Pr H5 v p q ∧ Bs p ∧ Bs q := by
            rcases j with _ | _ | j
            · exact ⟨v1, p1, q1, rfl, h1, b1, b2⟩
            · exact ⟨v2, p2, q2, rfl, h2, b3, b4⟩
            · omega
          walk_at "s"
          refine x_ixT (SqT.of ht) hv ?_
          walk_at "s"
          refine ⟨a, g, 21 * (8 - (i + 1)) + 4 + 4 * (2 - (j + 1)), v, p, q, rfl, D5, pv, bp, bq, fun H6 v' p' q' f6 D6 pv' bp' bq' => ?_⟩
          have hx := f6.keep _ _ ob hx
          have f4 := f4.trans (f6.mono no)
          have n0 := n0.fr f6
          have n1 := n1.fr f6
          have nv : Nm H6 v' := ⟨p', q', pv', bp', bq'⟩
          walk_at "s"
          have fs : ∀ ys, Fr (fun _ => False) H6 (upd H6 bl (.lst ys)) := fun ys => Fr.set (fun z => z) hx
          rcases j with _ | _ | j
          · refine x_setL (q := 0) hx rfl ?_
            exact ⟨_, v', x1, rfl, D6.put ob, f4.trans (fs _), upd_same, nv.fr (fs _), n1.fr (fs _)⟩
          · refine x_setL (q := 1) hx rfl ?_
            exact ⟨_, x0, v', rfl, D6.put ob, f4.trans (fs _), upd_same, n0.fr (fs _), nv.fr (fs _)⟩
          · omega
        · walk_at "s"
          exact ⟨_, x0, x1, rfl, D5.le (by omega), f4, hx, n0, n1⟩
      · rintro σ H4 ⟨o5, x0, x1, rfl, D4, f4, hx, n0, n1⟩
        have ht := f4.tups _ _ ht
        have h1 : Nm H4 v1 := ⟨p1, q1, h1.fr f4, b1.bd, b2.bd⟩
        have h2 : Nm H4 v2 := ⟨p2, q2, h2.fr f4, b3.bd, b4.bd⟩
        have ct : (10 : Int) ^ Int.toNat 9 = 1000000000 := by decide +kernel
        walk_at "s"
        refine ⟨a, g, 21 * (8 - (i + 1)) + 3, 41, rfl, D4.le (by omega), by decide, by decide, fun H5 z1 f5 D5 _ y1 => ?_⟩
        walk_at "s"
        refine ⟨a, g, 21 * (8 - (i + 1)) + 2, 4, rfl, D5, by decide, by decide, fun H6 z2 f6 D6 _ y2 => ?_⟩
        walk_at "s"
        refine ⟨a, g, 21 * (8 - (i + 1)) + 1, _, rfl, D6, by rw [ct]; decide, by rw [ct]; decide, fun H7 z3 f7 D7 x3 _ => ?_⟩
        walk_at "s"
        rename_i p hp
        have f8 := (f5.trans f6).trans f7
        refine ⟨a, g, 21 * (8 - (i + 1)), 3, rfl, D7.new hp, by decide, by decide, fun H8 r f9 D8 r0 r1 => ?_⟩
        obtain ⟨tm, htm, etm⟩ := pick [z1, z2, -1 - z3] r0 r1
        have ltm : tm ≤ 41 := by
          rcases List.mem_cons.mp htm with e | e
          · omega
          · rcases List.mem_cons.mp e with e | e
            · omega
            · obtain rfl := List.mem_singleton.mp e
              omega
        refine x_ixL (SqL.of (f9.keep _ _ (D7.off hp) upd_same)) etm ?_
        have f9 := (f8.alloc (o := .lst [V.int z1, V.int z2, V.int (-1 - z3)]) hp).trans f9
        have hx := f9.keep _ _ ob hx
        have ht := f9.tups _ _ ht
        have h1 := h1.fr f9
        have h2 := h2.fr f9
        have n0 := n0.fr f9
        have n1 := n1.fr f9
        walk_at "s"
        rename_i pb hpb pl hpl
        have f10 : Fr (fun _ => True) H8 (upd (upd H8 pb (.tup [x0, x1])) pl (.lst [V.ref pb, V.ref t])) := (Fr.new hpb).alloc hpl
        have two : ∀ x ∈ [V.ref pb, V.ref t], ∃ (q : Addr) (xa xb : V), x = .ref q ∧ upd (upd H8 pb (.tup [x0, x1])) pl (.lst [V.ref pb, V.ref t]) q = some (.tup [xa, xb]) ∧ Nm (upd (upd H8 pb (.tup [x0, x1])) pl (.lst [V.ref pb, V.ref t])) xa ∧ Nm (upd (upd H8 pb (.tup [x0, x1])) pl (.lst [V.ref pb, V.ref t])) xb := by
          intro x hx
          rcases List.mem_cons.mp hx with e | e
          · exact ⟨pb, x0, x1, e, (upd_ne (ne_of_none upd_same hpl)).trans upd_same, n0.fr f10, n1.fr f10⟩
          · exact ⟨t, v1, v2, List.mem_singleton.mp e, f10.tups _ _ ht, h1.fr f10, h2.fr f10⟩
        have s10 : upd (upd H8 pb (.tup [x0, x1])) pl (.lst [V.ref pb, V.ref t]) pl = some (.lst [V.ref pb, V.ref t]) := upd_same
        have D10 := D8.fr f10
        generalize upd (upd H8 pb (.tup [x0, x1])) pl (.lst [V.ref pb, V.ref t]) = H9 at two s10 D10 ⊢
        refine TW.x_forL (xs := [V.ref pb, V.ref t]) (SqL.of s10) (fun _ σ H10 => ∃ o7 o8 o9 o10 : Option V, σ = [some (.ref l), some (.ref a), some (.int i), some (.ref t), some (.ref bl), o5, some (.int tm), o7, o8, o9, o10] ∧ Fr (fun _ => True) H9 H10) ⟨_, _, _, _, rfl, Fr.refl⟩ (fun _ σ H10 _ h => ?_) ?_ ?_
        · obtain ⟨_, _, _, _, _, f⟩ := h
          exact SqL.of (f.keep _ _ trivial s10)
        · rintro j x σ H10 hx ⟨o7, o8, o9, o10, rfl, f11⟩
          obtain ⟨q, xa, xb, rfl, hq, na, nb⟩ := two x (List.mem_of_getElem? hx)
          have hq := f11.tups _ _ hq
          obtain ⟨pa, qa, pra, ba1, ba2⟩ := na.fr f11
          obtain ⟨pb, qb, prb, bb1, bb2⟩ := nb.fr f11
          walk_at "s"
          rename_i pn hpn
          refine TW.x_forL (xs := [V.str "added", V.str "product", V.str "quotient", V.str "both by name", V.str "quotient by name"]) (SqL.of upd_same) (fun _ σ H11 => ∃ o9 o10 : Option V, σ = [some (.ref l), some (.ref a), some (.int i), some (.ref t), some (.ref bl), o5, some (.int tm), some xa, some xb, o9, o10] ∧ Fr (fun _ => True) (upd H10 pn (.lst [V.str "added", V.str "product", V.str "quotient", V.str "both by name", V.str "quotient by name"])) H11) ⟨_, _, rfl, Fr.refl⟩ (fun _ σ H11 _ h => ?_) ?_ ?_
          · obtain ⟨_, _, _, f⟩ := h
            exact SqL.of (f.keep _ _ trivial upd_same)
          · rintro m nm σ H11 hm ⟨o9, o10, rfl, f12⟩
            obtain ⟨kn, hk, rfl⟩ : ∃ k < 5, nm = .str (nm2 k) := by
              have e := List.mem_of_getElem? hm
              simp only [List.mem_cons, List.not_mem_nil, or_false] at e
              rcases e with e | e | e | e | e
              · exact ⟨0, by decide, e⟩
              · exact ⟨1, by decide, e⟩
              · exact ⟨2, by decide, e⟩
              · exact ⟨4, by decide, e⟩
              · exact ⟨3, by decide, e⟩
            have f13 := Fr.trans (Fr.new (ok := fun _ => True) hpn) f12
            have pra := pra.fr f13
            have prb := prb.fr f13
            walk_at "s"
            refine .inl ⟨kn, xa, xb, pa, qa, pb, qb, hk, rfl, pra, prb, ba1.sm, ba2.sm, bb1.sm, bb2.sm, fun H12 u f14 r1 => ?_⟩
            have pra := pra.fr f14
            have prb := prb.fr f14
            walk_at "s"
            refine .inl ⟨kn, xa, xb, pa, qa, pb, qb, hk, rfl, pra, prb, ba1.sm, ba2.sm, bb1.sm, bb2.sm, fun H13 y f15 r2 => ?_⟩
            walk_at "s"
            refine ⟨u, y, _, rfl, r1.fr f15, r2, due_depth _ _ _ _ _, fun H14 f16 => ?_⟩
            walk_at "s"
            exact ⟨_, _, rfl, f12.trans ((f14.trans f15).trans f16)⟩
          · rintro σ H11 ⟨o9, o10, rfl, f12⟩
            have f13 := Fr.trans (Fr.new (ok := fun _ => True) hpn) f12
            have pra := pra.fr f13
            walk_at "s"
            rename_i pp hpp
            have f14 := f13.alloc (o := .lst [V.str "power", V.str "power by name"]) hpp
            refine TW.x_forL (xs := [V.str "power", V.str "power by name"]) (SqL.of upd_same) (fun _ σ H12 => ∃ o9 o10 : Option V, σ = [some (.ref l), some (.ref a), some (.int i), some (.ref t), some (.ref bl), o5, some (.int tm), some xa, some xb, o9, o10] ∧ Fr (fun _ => True) (upd H11 pp (.lst [V.str "power", V.str "power by name"])) H12) ⟨_, _, rfl, Fr.refl⟩ (fun _ σ H12 _ h => ?_) ?_ ?_
            · obtain ⟨_, _, _, f⟩ := h
              exact SqL.of (f.keep _ _ trivial upd_same)
            · rintro m nm σ H12 hm ⟨o9, o10, rfl, f15⟩
              obtain ⟨kn, hk, rfl⟩ : ∃ k < 2, nm = .str (nmP k) := by
                have e := List.mem_of_getElem? hm
                simp only [List.mem_cons, List.not_mem_nil, or_false] at e
                rcases e with e | e
                · exact ⟨0, by decide, e⟩
                · exact ⟨1, by decide, e⟩
              have pra := pra.fr ((Fr.new (ok := fun _ => True) hpp).trans f15)
              walk_at "s"
              rename_i pt hpt
              refine TW.x_forL (xs := [V.int tm, V.int 0, V.int 1]) (SqL.of upd_same) (fun _ σ H13 => ∃ o10 : Option V, σ = [some (.ref l), some (.ref a), some (.int i), some (.ref t), some (.ref bl), o5, some (.int tm), some xa, some xb, some (.str (nmP kn)), o10] ∧ Fr (fun _ => True) (upd H12 pt (.lst [V.int tm, V.int 0, V.int 1])) H13) ⟨_, rfl, Fr.refl⟩ (fun _ σ H13 _ h => ?_) ?_ ?_
              · obtain ⟨_, _, f⟩ := h
                exact SqL.of (f.keep _ _ trivial upd_same)
              · rintro m2 z σ H13 hm2 ⟨o10, rfl, f16⟩
                obtain ⟨tz, htz, rfl⟩ : ∃ tz : Int, tz ≤ 41 ∧ z = .int tz := by
                  have e := List.mem_of_getElem? hm2
                  simp only [List.mem_cons, List.not_mem_nil, or_false] at e
                  rcases e with e | e | e
                  · exact ⟨tm, ltm, e⟩
                  · exact ⟨0, by decide, e⟩
                  · exact ⟨1, by decide, e⟩
                have pra := pra.fr ((Fr.new (ok := fun _ => True) hpt).trans f16)
                walk_at "s"
                refine .inr ⟨kn, xa, pa, qa, tz, hk, rfl, pra, ba1.sm, ba2.sm, htz, fun H14 u f17 r1 => ?_⟩
                have pra := pra.fr f17
                walk_at "s"
                refine .inr ⟨kn, xa, pa, qa, tz, hk, rfl, pra, ba1.sm, ba2.sm, htz, fun H15 y f18 r2 => ?_⟩
                walk_at "s"
                refine ⟨u, y, _, rfl, r1.fr f18, r2, dueP_depth _ _ _, fun H16 f19 => ?_⟩
                walk_at "s"
                exact ⟨_, rfl, f16.trans ((f17.trans f18).trans f19)⟩
              · rintro σ H13 ⟨o10, rfl, f16⟩
                walk_at "s"
                exact ⟨_, _, rfl, f15.trans ((Fr.new hpt).trans f16)⟩
            · rintro σ H12 ⟨o9, o10, rfl, f15⟩
              walk_at "s"
              exact ⟨_, _, _, _, rfl, f11.trans (f13.trans ((Fr.new hpp).trans f15))⟩
        · rintro σ H10 ⟨o7, o8, o9, o10, rfl, f11⟩
          walk_at "s"
          exact ⟨_, _, _, _, _, _, _, _, _, rfl, D10.fr f11⟩
    · rintro σ H2 ⟨o2, o3, o4, o5, o6, o7, o8, o9, o10, rfl, D2⟩
      walk_at "s"
      exact k _

end
theorem all_mk {P : Program} {w : World} {K : PySem.W.Frag} {h : Heap} {mg : Str → Option Value} {fa C_WorthError C_InvalidNumber C_InvalidSigns C_UnknownSign C_InvalidMachine C_UnlikeSigns f_err A_number A_added A_product A_quotient A_power A_is_number A_check_number A_check_numbers A__law_deck A__law_draw A__law_gcd A__law_pair A__law_alike A__law_number A__law_two A__law_wrong A__law_is_number A__law_told A__law_due A_law : Addr} (X : K.In h) (G : h.Ns mainGlobals mg) (hfa : mg "law" = some (.ref fa))
    (a_WorthError : PySem.W.nsIn K mainGlobals "WorthError" = some (some (.ref C_WorthError)))
    (a_InvalidNumber : PySem.W.nsIn K mainGlobals "InvalidNumber" = some (some (.ref C_InvalidNumber)))
    (a_InvalidSigns : PySem.W.nsIn K mainGlobals "InvalidSigns" = some (some (.ref C_InvalidSigns)))
    (a_UnknownSign : PySem.W.nsIn K mainGlobals "UnknownSign" = some (some (.ref C_UnknownSign)))
    (a_InvalidMachine : PySem.W.nsIn K mainGlobals "InvalidMachine" = some (some (.ref C_InvalidMachine)))
    (a_UnlikeSigns : PySem.W.nsIn K mainGlobals "UnlikeSigns" = some (some (.ref C_UnlikeSigns)))
    (x_WorthError : TW.ErrL K C_WorthError [.type "ValueError", .type "Exception", .type "BaseException", .type "object"])
    (sa_WorthError : PySem.W.findIn K (.ref C_WorthError) "__setattr__" = some (some (.builtin "object.__setattr__")))
    (ga_WorthError : PySem.W.findIn K (.ref C_WorthError) "__getattribute__" = some (some (.builtin "BaseException.__getattribute__")))
    (gt_WorthError : PySem.W.findIn K (.ref C_WorthError) "__getattr__" = some none)
    (sb_WorthError : PySem.W.subIn K (.ref C_WorthError) (.type "BaseException") = some true)
    (ty_WorthError : PySem.W.typeIn K (.ref C_WorthError) = some (.type "type"))
    (kp_WorthError : PySem.W.keepIn K (.ref C_WorthError) = true)
    (hd_WorthError : PySem.W.hasDictIn K C_WorthError = true)
    (cl_WorthError : PySem.W.isClsIn K C_WorthError = true)
    (kl_WorthError : PySem.W.findIn K (.ref C_WorthError) "__class__" = some (some (.builtin "object.__class__")))
    (mo_WorthError : PySem.W.mroIn K C_WorthError (.type "object") = some true)
    (no_WorthError : PySem.W.findIn K (.ref C_WorthError) "value" = some none)
    (ve_WorthError : PySem.W.subIn K (.ref C_WorthError) (.type "ValueError") = some true)
    (me_WorthError : PySem.W.subIn K (.ref C_WorthError) (.ref C_WorthError) = some true)
    (x_InvalidNumber : TW.ErrL K C_InvalidNumber [.ref C_WorthError, .type "ValueError", .type "Exception", .type "BaseException", .type "object"])
    (sa_InvalidNumber : PySem.W.findIn K (.ref C_InvalidNumber) "__setattr__" = some (some (.builtin "object.__setattr__")))
    (ga_InvalidNumber : PySem.W.findIn K (.ref C_InvalidNumber) "__getattribute__" = some (some (.builtin "BaseException.__getattribute__")))
    (gt_InvalidNumber : PySem.W.findIn K (.ref C_InvalidNumber) "__getattr__" = some none)
    (sb_InvalidNumber : PySem.W.subIn K (.ref C_InvalidNumber) (.type "BaseException") = some true)
    (ty_InvalidNumber : PySem.W.typeIn K (.ref C_InvalidNumber) = some (.type "type"))
    (kp_InvalidNumber : PySem.W.keepIn K (.ref C_InvalidNumber) = true)
    (hd_InvalidNumber : PySem.W.hasDictIn K C_InvalidNumber = true)
    (cl_InvalidNumber : PySem.W.isClsIn K C_InvalidNumber = true)
    (kl_InvalidNumber : PySem.W.findIn K (.ref C_InvalidNumber) "__class__" = some (some (.builtin "object.__class__")))
    (mo_InvalidNumber : PySem.W.mroIn K C_InvalidNumber (.type "object") = some true)
    (no_InvalidNumber : PySem.W.findIn K (.ref C_InvalidNumber) "value" = some none)
    (ve_InvalidNumber : PySem.W.subIn K (.ref C_InvalidNumber) (.type "ValueError") = some true)
    (me_InvalidNumber : PySem.W.subIn K (.ref C_InvalidNumber) (.ref C_InvalidNumber) = some true)
    (x_InvalidSigns : TW.ErrL K C_InvalidSigns [.ref C_WorthError, .type "ValueError", .type "Exception", .type "BaseException", .type "object"])
    (sa_InvalidSigns : PySem.W.findIn K (.ref C_InvalidSigns) "__setattr__" = some (some (.builtin "object.__setattr__")))
    (ga_InvalidSigns : PySem.W.findIn K (.ref C_InvalidSigns) "__getattribute__" = some (some (.builtin "BaseException.__getattribute__")))
    (gt_InvalidSigns : PySem.W.findIn K (.ref C_InvalidSigns) "__getattr__" = some none)
    (sb_InvalidSigns : PySem.W.subIn K (.ref C_InvalidSigns) (.type "BaseException") = some true)
    (ty_InvalidSigns : PySem.W.typeIn K (.ref C_InvalidSigns) = some (.type "type"))
    (kp_InvalidSigns : PySem.W.keepIn K (.ref C_InvalidSigns) = true)
    (hd_InvalidSigns : PySem.W.hasDictIn K C_InvalidSigns = true)
    (cl_InvalidSigns : PySem.W.isClsIn K C_InvalidSigns = true)
    (kl_InvalidSigns : PySem.W.findIn K (.ref C_InvalidSigns) "__class__" = some (some (.builtin "object.__class__")))
    (mo_InvalidSigns : PySem.W.mroIn K C_InvalidSigns (.type "object") = some true)
    (no_InvalidSigns : PySem.W.findIn K (.ref C_InvalidSigns) "value" = some none)
    (ve_InvalidSigns : PySem.W.subIn K (.ref C_InvalidSigns) (.type "ValueError") = some true)
    (me_InvalidSigns : PySem.W.subIn K (.ref C_InvalidSigns) (.ref C_InvalidSigns) = some true)
    (x_UnknownSign : TW.ErrL K C_UnknownSign [.ref C_WorthError, .type "ValueError", .type "Exception", .type "BaseException", .type "object"])
    (sa_UnknownSign : PySem.W.findIn K (.ref C_UnknownSign) "__setattr__" = some (some (.builtin "object.__setattr__")))
    (ga_UnknownSign : PySem.W.findIn K (.ref C_UnknownSign) "__getattribute__" = some (some (.builtin "BaseException.__getattribute__")))
    (gt_UnknownSign : PySem.W.findIn K (.ref C_UnknownSign) "__getattr__" = some none)
    (sb_UnknownSign : PySem.W.subIn K (.ref C_UnknownSign) (.type "BaseException") = some true)
    (ty_UnknownSign : PySem.W.typeIn K (.ref C_UnknownSign) = some (.type "type"))
    (kp_UnknownSign : PySem.W.keepIn K (.ref C_UnknownSign) = true)
    (hd_UnknownSign : PySem.W.hasDictIn K C_UnknownSign = true)
    (cl_UnknownSign : PySem.W.isClsIn K C_UnknownSign = true)
    (kl_UnknownSign : PySem.W.findIn K (.ref C_UnknownSign) "__class__" = some (some (.builtin "object.__class__")))
    (mo_UnknownSign : PySem.W.mroIn K C_UnknownSign (.type "object") = some true)
    (no_UnknownSign : PySem.W.findIn K (.ref C_UnknownSign) "value" = some none)
    (ve_UnknownSign : PySem.W.subIn K (.ref C_UnknownSign) (.type "ValueError") = some true)
    (me_UnknownSign : PySem.W.subIn K (.ref C_UnknownSign) (.ref C_UnknownSign) = some true)
    (x_InvalidMachine : TW.ErrL K C_InvalidMachine [.ref C_WorthError, .type "ValueError", .type "Exception", .type "BaseException", .type "object"])
    (sa_InvalidMachine : PySem.W.findIn K (.ref C_InvalidMachine) "__setattr__" = some (some (.builtin "object.__setattr__")))
    (ga_InvalidMachine : PySem.W.findIn K (.ref C_InvalidMachine) "__getattribute__" = some (some (.builtin "BaseException.__getattribute__")))
    (gt_InvalidMachine : PySem.W.findIn K (.ref C_InvalidMachine) "__getattr__" = some none)
    (sb_InvalidMachine : PySem.W.subIn K (.ref C_InvalidMachine) (.type "BaseException") = some true)
    (ty_InvalidMachine : PySem.W.typeIn K (.ref C_InvalidMachine) = some (.type "type"))
    (kp_InvalidMachine : PySem.W.keepIn K (.ref C_InvalidMachine) = true)
    (hd_InvalidMachine : PySem.W.hasDictIn K C_InvalidMachine = true)
    (cl_InvalidMachine : PySem.W.isClsIn K C_InvalidMachine = true)
    (kl_InvalidMachine : PySem.W.findIn K (.ref C_InvalidMachine) "__class__" = some (some (.builtin "object.__class__")))
    (mo_InvalidMachine : PySem.W.mroIn K C_InvalidMachine (.type "object") = some true)
    (no_InvalidMachine : PySem.W.findIn K (.ref C_InvalidMachine) "value" = some none)
    (ve_InvalidMachine : PySem.W.subIn K (.ref C_InvalidMachine) (.type "ValueError") = some true)
    (me_InvalidMachine : PySem.W.subIn K (.ref C_InvalidMachine) (.ref C_InvalidMachine) = some true)
    (x_UnlikeSigns : TW.ErrL K C_UnlikeSigns [.ref C_WorthError, .type "ValueError", .type "Exception", .type "BaseException", .type "object"])
    (sa_UnlikeSigns : PySem.W.findIn K (.ref C_UnlikeSigns) "__setattr__" = some (some (.builtin "object.__setattr__")))
    (ga_UnlikeSigns : PySem.W.findIn K (.ref C_UnlikeSigns) "__getattribute__" = some (some (.builtin "BaseException.__getattribute__")))
    (gt_UnlikeSigns : PySem.W.findIn K (.ref C_UnlikeSigns) "__getattr__" = some none)
    (sb_UnlikeSigns : PySem.W.subIn K (.ref C_UnlikeSigns) (.type "BaseException") = some true)
    (ty_UnlikeSigns : PySem.W.typeIn K (.ref C_UnlikeSigns) = some (.type "type"))
    (kp_UnlikeSigns : PySem.W.keepIn K (.ref C_UnlikeSigns) = true)
    (hd_UnlikeSigns : PySem.W.hasDictIn K C_UnlikeSigns = true)
    (cl_UnlikeSigns : PySem.W.isClsIn K C_UnlikeSigns = true)
    (kl_UnlikeSigns : PySem.W.findIn K (.ref C_UnlikeSigns) "__class__" = some (some (.builtin "object.__class__")))
    (mo_UnlikeSigns : PySem.W.mroIn K C_UnlikeSigns (.type "object") = some true)
    (no_UnlikeSigns : PySem.W.findIn K (.ref C_UnlikeSigns) "value" = some none)
    (ve_UnlikeSigns : PySem.W.subIn K (.ref C_UnlikeSigns) (.type "ValueError") = some true)
    (me_UnlikeSigns : PySem.W.subIn K (.ref C_UnlikeSigns) (.ref C_UnlikeSigns) = some true)
    (gs_get : PySem.W.specialIn K (.builtin "object.__class__") "__get__" = some (some (.builtin "getset_descriptor.__get__")))
    (tk_get : PySem.W.takesIn K (.builtin "object.__class__") = some true)
    (i_err : PySem.W.findIn K (.ref C_WorthError) "__init__" = some (some (.ref f_err)))
    (t_err : PySem.W.typeIn K (.ref f_err) = some (.type "function"))
    (l_err : TW.DefL K "__init__" "WorthError.__init__" s_WorthError___init__ f_err)
    (in_InvalidNumber : PySem.W.findIn K (.ref C_InvalidNumber) "__init__" = some (some (.ref f_err)))
    (sb_InvalidNumber_WorthError : PySem.W.subIn K (.ref C_InvalidNumber) (.ref C_WorthError) = some true)
    (sb_InvalidNumber_InvalidNumber : PySem.W.subIn K (.ref C_InvalidNumber) (.ref C_InvalidNumber) = some true)
    (sb_InvalidNumber_InvalidSigns : PySem.W.subIn K (.ref C_InvalidNumber) (.ref C_InvalidSigns) = some false)
    (sb_InvalidNumber_UnknownSign : PySem.W.subIn K (.ref C_InvalidNumber) (.ref C_UnknownSign) = some false)
    (sb_InvalidNumber_InvalidMachine : PySem.W.subIn K (.ref C_InvalidNumber) (.ref C_InvalidMachine) = some false)
    (sb_InvalidNumber_UnlikeSigns : PySem.W.subIn K (.ref C_InvalidNumber) (.ref C_UnlikeSigns) = some false)
    (a_number : PySem.W.nsIn K mainGlobals "number" = some (some (.ref A_number)))
    (l_number : TW.DefL K "number" "number" s_number A_number)
    (a_added : PySem.W.nsIn K mainGlobals "added" = some (some (.ref A_added)))
    (l_added : TW.DefL K "added" "added" s_added A_added)
    (a_product : PySem.W.nsIn K mainGlobals "product" = some (some (.ref A_product)))
    (l_product : TW.DefL K "product" "product" s_product A_product)
    (a_quotient : PySem.W.nsIn K mainGlobals "quotient" = some (some (.ref A_quotient)))
    (l_quotient : TW.DefL K "quotient" "quotient" s_quotient A_quotient)
    (a_power : PySem.W.nsIn K mainGlobals "power" = some (some (.ref A_power)))
    (l_power : TW.DefL K "power" "power" s_power A_power)
    (a_is_number : PySem.W.nsIn K mainGlobals "is_number" = some (some (.ref A_is_number)))
    (l_is_number : TW.DefL K "is_number" "is_number" s_is_number A_is_number)
    (a_check_number : PySem.W.nsIn K mainGlobals "check_number" = some (some (.ref A_check_number)))
    (l_check_number : TW.DefL K "check_number" "check_number" s_check_number A_check_number)
    (a_check_numbers : PySem.W.nsIn K mainGlobals "check_numbers" = some (some (.ref A_check_numbers)))
    (l_check_numbers : TW.DefL K "check_numbers" "check_numbers" s_check_numbers A_check_numbers)
    (a__law_deck : PySem.W.nsIn K mainGlobals "_law_deck" = some (some (.ref A__law_deck)))
    (l__law_deck : TW.DefL K "_law_deck" "_law_deck" s__law_deck A__law_deck)
    (a__law_draw : PySem.W.nsIn K mainGlobals "_law_draw" = some (some (.ref A__law_draw)))
    (l__law_draw : TW.DefL K "_law_draw" "_law_draw" s__law_draw A__law_draw)
    (a__law_gcd : PySem.W.nsIn K mainGlobals "_law_gcd" = some (some (.ref A__law_gcd)))
    (l__law_gcd : TW.DefL K "_law_gcd" "_law_gcd" s__law_gcd A__law_gcd)
    (a__law_pair : PySem.W.nsIn K mainGlobals "_law_pair" = some (some (.ref A__law_pair)))
    (l__law_pair : TW.DefL K "_law_pair" "_law_pair" s__law_pair A__law_pair)
    (a__law_alike : PySem.W.nsIn K mainGlobals "_law_alike" = some (some (.ref A__law_alike)))
    (l__law_alike : TW.DefL K "_law_alike" "_law_alike" s__law_alike A__law_alike)
    (a__law_number : PySem.W.nsIn K mainGlobals "_law_number" = some (some (.ref A__law_number)))
    (l__law_number : TW.DefL K "_law_number" "_law_number" s__law_number A__law_number)
    (a__law_two : PySem.W.nsIn K mainGlobals "_law_two" = some (some (.ref A__law_two)))
    (l__law_two : TW.DefL K "_law_two" "_law_two" s__law_two A__law_two)
    (a__law_wrong : PySem.W.nsIn K mainGlobals "_law_wrong" = some (some (.ref A__law_wrong)))
    (l__law_wrong : TW.DefL K "_law_wrong" "_law_wrong" s__law_wrong A__law_wrong)
    (a__law_is_number : PySem.W.nsIn K mainGlobals "_law_is_number" = some (some (.ref A__law_is_number)))
    (l__law_is_number : TW.DefL K "_law_is_number" "_law_is_number" s__law_is_number A__law_is_number)
    (a__law_told : PySem.W.nsIn K mainGlobals "_law_told" = some (some (.ref A__law_told)))
    (l__law_told : TW.DefL K "_law_told" "_law_told" s__law_told A__law_told)
    (a__law_due : PySem.W.nsIn K mainGlobals "_law_due" = some (some (.ref A__law_due)))
    (l__law_due : TW.DefL K "_law_due" "_law_due" s__law_due A__law_due)
    (a_law : PySem.W.nsIn K mainGlobals "law" = some (some (.ref A_law)))
    (l_law : TW.DefL K "law" "law" s_law A_law)
    (a_gcd : PySem.W.nsIn K mainGlobals "gcd" = some (some (.builtin "math.gcd")))
    (z_ValueError : PySem.W.nsIn K mainGlobals "ValueError" = some none)
    (z_abs : PySem.W.nsIn K mainGlobals "abs" = some none)
    (z_bool : PySem.W.nsIn K mainGlobals "bool" = some none)
    (z_int : PySem.W.nsIn K mainGlobals "int" = some none)
    (z_isinstance : PySem.W.nsIn K mainGlobals "isinstance" = some none)
    (z_len : PySem.W.nsIn K mainGlobals "len" = some none)
    (z_list : PySem.W.nsIn K mainGlobals "list" = some none)
    (z_range : PySem.W.nsIn K mainGlobals "range" = some none)
    (z_str : PySem.W.nsIn K mainGlobals "str" = some none)
    (z_tuple : PySem.W.nsIn K mainGlobals "tuple" = some none)
    (z_zip : PySem.W.nsIn K mainGlobals "zip" = some none) :
    ∃ fd : FuncData, (∀ (s : Shared) (v : Value), BindsTo s fd ⟨[v], []⟩ [("_law_script", v)]) ∧ ∀ base : Heap, K.In base → base.Ns mainGlobals mg → FnOk P w K mg base CX0 7 fa fd ["_law_script"] (sp_law K) := by
  have T : Txt K mg C_WorthError C_InvalidNumber C_InvalidSigns C_UnknownSign C_InvalidMachine C_UnlikeSigns f_err := {
    cl_WorthError := PySem.W.mg_of X G a_WorthError
    cl_InvalidNumber := PySem.W.mg_of X G a_InvalidNumber
    cl_InvalidSigns := PySem.W.mg_of X G a_InvalidSigns
    cl_UnknownSign := PySem.W.mg_of X G a_UnknownSign
    cl_InvalidMachine := PySem.W.mg_of X G a_InvalidMachine
    cl_UnlikeSigns := PySem.W.mg_of X G a_UnlikeSigns
    ec_WorthError := TW.mkErr x_WorthError rfl sa_WorthError ga_WorthError gt_WorthError sb_WorthError ty_WorthError kp_WorthError hd_WorthError cl_WorthError kl_WorthError gs_get tk_get mo_WorthError no_WorthError me_WorthError ve_WorthError
    ec_InvalidNumber := TW.mkErr x_InvalidNumber rfl sa_InvalidNumber ga_InvalidNumber gt_InvalidNumber sb_InvalidNumber ty_InvalidNumber kp_InvalidNumber hd_InvalidNumber cl_InvalidNumber kl_InvalidNumber gs_get tk_get mo_InvalidNumber no_InvalidNumber me_InvalidNumber ve_InvalidNumber
    ec_InvalidSigns := TW.mkErr x_InvalidSigns rfl sa_InvalidSigns ga_InvalidSigns gt_InvalidSigns sb_InvalidSigns ty_InvalidSigns kp_InvalidSigns hd_InvalidSigns cl_InvalidSigns kl_InvalidSigns gs_get tk_get mo_InvalidSigns no_InvalidSigns me_InvalidSigns ve_InvalidSigns
    ec_UnknownSign := TW.mkErr x_UnknownSign rfl sa_UnknownSign ga_UnknownSign gt_UnknownSign sb_UnknownSign ty_UnknownSign kp_UnknownSign hd_UnknownSign cl_UnknownSign kl_UnknownSign gs_get tk_get mo_UnknownSign no_UnknownSign me_UnknownSign ve_UnknownSign
    ec_InvalidMachine := TW.mkErr x_InvalidMachine rfl sa_InvalidMachine ga_InvalidMachine gt_InvalidMachine sb_InvalidMachine ty_InvalidMachine kp_InvalidMachine hd_InvalidMachine cl_InvalidMachine kl_InvalidMachine gs_get tk_get mo_InvalidMachine no_InvalidMachine me_InvalidMachine ve_InvalidMachine
    ec_UnlikeSigns := TW.mkErr x_UnlikeSigns rfl sa_UnlikeSigns ga_UnlikeSigns gt_UnlikeSigns sb_UnlikeSigns ty_UnlikeSigns kp_UnlikeSigns hd_UnlikeSigns cl_UnlikeSigns kl_UnlikeSigns gs_get tk_get mo_UnlikeSigns no_UnlikeSigns me_UnlikeSigns ve_UnlikeSigns
    ty_err := t_err
    fn_err := TW.mkFun l_err (by intro _ _ _ _ _ _ us hl; match us, hl with | [_, _], _ => rfl)
    in_InvalidNumber := in_InvalidNumber
    sb_InvalidNumber_WorthError := sb_InvalidNumber_WorthError
    sb_InvalidNumber_InvalidNumber := sb_InvalidNumber_InvalidNumber
    sb_InvalidNumber_InvalidSigns := sb_InvalidNumber_InvalidSigns
    sb_InvalidNumber_UnknownSign := sb_InvalidNumber_UnknownSign
    sb_InvalidNumber_InvalidMachine := sb_InvalidNumber_InvalidMachine
    sb_InvalidNumber_UnlikeSigns := sb_InvalidNumber_UnlikeSigns
    d_number := TW.mkDef X G a_number l_number (by intro _ _ _ _ _ _ us hl; match us, hl with | [_, _], _ => rfl)
    d_added := TW.mkDef X G a_added l_added (by intro _ _ _ _ _ _ us hl; match us, hl with | [_, _], _ => rfl)
    d_product := TW.mkDef X G a_product l_product (by intro _ _ _ _ _ _ us hl; match us, hl with | [_, _], _ => rfl)
    d_quotient := TW.mkDef X G a_quotient l_quotient (by intro _ _ _ _ _ _ us hl; match us, hl with | [_, _], _ => rfl)
    d_power := TW.mkDef X G a_power l_power (by intro _ _ _ _ _ _ us hl; match us, hl with | [_, _], _ => rfl)
    d_is_number := TW.mkDef X G a_is_number l_is_number (by intro _ _ _ _ _ _ us hl; match us, hl with | [_], _ => rfl)
    d_check_number := TW.mkDef X G a_check_number l_check_number (by intro _ _ _ _ _ _ us hl; match us, hl with | [_], _ => rfl)
    d_check_numbers := TW.mkDef X G a_check_numbers l_check_numbers (by intro _ _ _ _ _ _ us hl; match us, hl with | [_], _ => rfl)
    d__law_deck := TW.mkDef X G a__law_deck l__law_deck (by intro _ _ _ _ _ _ us hl; match us, hl with | [_], _ => rfl)
    d__law_draw := TW.mkDef X G a__law_draw l__law_draw (by intro _ _ _ _ _ _ us hl; match us, hl with | [_, _], _ => rfl)
    d__law_gcd := TW.mkDef X G a__law_gcd l__law_gcd (by intro _ _ _ _ _ _ us hl; match us, hl with | [_, _], _ => rfl)
    d__law_pair := TW.mkDef X G a__law_pair l__law_pair (by intro _ _ _ _ _ _ us hl; match us, hl with | [_, _], _ => rfl)
    d__law_alike := TW.mkDef X G a__law_alike l__law_alike (by intro _ _ _ _ _ _ us hl; match us, hl with | [_, _], _ => rfl)
    d__law_number := TW.mkDef X G a__law_number l__law_number (by intro _ _ _ _ _ _ us hl; match us, hl with | [_], _ => rfl)
    d__law_two := TW.mkDef X G a__law_two l__law_two (by intro _ _ _ _ _ _ us hl; match us, hl with | [_], _ => rfl)
    d__law_wrong := TW.mkDef X G a__law_wrong l__law_wrong (by intro _ _ _ _ _ _ us hl; match us, hl with | [_, _], _ => rfl)
    d__law_is_number := TW.mkDef X G a__law_is_number l__law_is_number (by intro _ _ _ _ _ _ us hl; match us, hl with | [_], _ => rfl)
    d__law_told := TW.mkDef X G a__law_told l__law_told (by intro _ _ _ _ _ _ us hl; match us, hl with | [_, _, _], _ => rfl)
    d__law_due := TW.mkDef X G a__law_due l__law_due (by intro _ _ _ _ _ _ us hl; match us, hl with | [_, _, _], _ => rfl)
    d_law := TW.mkDef X G a_law l_law (by intro _ _ _ _ _ _ us hl; match us, hl with | [_], _ => rfl)
    mg_gcd := PySem.W.mg_of X G a_gcd
    no_ValueError := PySem.W.mg_none_of X G z_ValueError
    no_abs := PySem.W.mg_none_of X G z_abs
    no_bool := PySem.W.mg_none_of X G z_bool
    no_int := PySem.W.mg_none_of X G z_int
    no_isinstance := PySem.W.mg_none_of X G z_isinstance
    no_len := PySem.W.mg_none_of X G z_len
    no_list := PySem.W.mg_none_of X G z_list
    no_range := PySem.W.mg_none_of X G z_range
    no_str := PySem.W.mg_none_of X G z_str
    no_tuple := PySem.W.mg_none_of X G z_tuple
    no_zip := PySem.W.mg_none_of X G z_zip }
  obtain ⟨oc, od, an, sl, kV, dc, pm, cd, ct, l, c, k⟩ := l_law
  have e := hfa.symm.trans (PySem.W.mg_of X G a_law)
  cases e
  refine ⟨PySem.W.fnOf "law" "law" (defArgs s_law) (defBody s_law) (defScope s_law) .none kV dc pm an cd ct, fun s v => .of_eq rfl, fun base _ _ => ?_⟩
  obtain ⟨f, fd, F, hm, fn, b⟩ := (c_law (P := P) (w := w) (base := base) T).ex
  have e := hm.symm.trans (PySem.W.mg_of X G a_law)
  cases e
  obtain ⟨oc', od', kV', dc', pm', an', cd', ct', sl', rfl, l', _⟩ := fn.ex
  have e2 := l.symm.trans l'
  cases e2
  exact F
theorem walk {l : PySem.W.OpenLaw} {q : Program} {loose : List Str} {XP : (Str → Option Value) → Heap → Prop} {YP : World → Heap → Prop} {d : DefRec} {K : Params → PySem.W.Frag} (hn : l.most = some 63) (hdf : d.params.defaults = [])
    (hY : ∀ (w : World) (h : Heap), YP w h → (K w.params).In h)
    (F : ∀ (w : World) (mg : Str → Option Value) (fa : Addr) (h : Heap), (K w.params).In h → h.Ns mainGlobals mg → mg d.name = some (.ref fa) →
      ∃ fd : FuncData, (∀ (s : Shared) (u : Value), BindsTo s fd ⟨[u], []⟩ [("_law_script", u)]) ∧ ∀ base : Heap, (K w.params).In base → base.Ns mainGlobals mg → FnOk l.prog w (K w.params) mg base CX0 7 fa fd ["_law_script"] (sp_law (K w.params))) :
    PySem.W.WalkO q loose XP YP l.row.toRowW d [] (fun f vs => PySem.call f vs) :=
  L2.walk_of (n := 63) (k := 7) (x := "_law_script") (CX := fun _ => CX0) (sp := fun w => sp_law (K w.params)) hn (by decide) hdf ⟨rfl, by decide, by decide⟩ hY F (fun _ _ a ns hl _ hS => ⟨a, ns, rfl, hS, hl, fun _ => rfl⟩) fun _ _ _ _ _ z => z
end K

open PySem PySem.W PyProof.Rows in
set_option maxRecDepth 100000 in
set_option maxHeartbeats 0 in
theorem PySem.Challenge.cw_textworths_k02_sums_products_quotients_p_holds : PySem.Challenge.rw_textworths_k02_sums_products_quotients_p.Holds := by
  w_on; o_law; k_head; (case hw => w_witness2)
  k_fill
  refine K.walk (l := PySem.Challenge.rw_textworths_k02_sums_products_quotients_p) rfl rfl (fun w h Y => PySem.W.kIn_of Y) ?F
  case F =>
    intro w mg fa h KX G hmg
    refine' K.all_mk KX G hmg ?a_WorthError ?a_InvalidNumber ?a_InvalidSigns ?a_UnknownSign ?a_InvalidMachine ?a_UnlikeSigns ?x_WorthError ?sa_WorthError ?ga_WorthError ?gt_WorthError ?sb_WorthError ?ty_WorthError ?kp_WorthError ?hd_WorthError ?cl_WorthError ?kl_WorthError ?mo_WorthError ?no_WorthError ?ve_WorthError ?me_WorthError ?x_InvalidNumber ?sa_InvalidNumber ?ga_InvalidNumber ?gt_InvalidNumber ?sb_InvalidNumber ?ty_InvalidNumber ?kp_InvalidNumber ?hd_InvalidNumber ?cl_InvalidNumber ?kl_InvalidNumber ?mo_InvalidNumber ?no_InvalidNumber ?ve_InvalidNumber ?me_InvalidNumber ?x_InvalidSigns ?sa_InvalidSigns ?ga_InvalidSigns ?gt_InvalidSigns ?sb_InvalidSigns ?ty_InvalidSigns ?kp_InvalidSigns ?hd_InvalidSigns ?cl_InvalidSigns ?kl_InvalidSigns ?mo_InvalidSigns ?no_InvalidSigns ?ve_InvalidSigns ?me_InvalidSigns ?x_UnknownSign ?sa_UnknownSign ?ga_UnknownSign ?gt_UnknownSign ?sb_UnknownSign ?ty_UnknownSign ?kp_UnknownSign ?hd_UnknownSign ?cl_UnknownSign ?kl_UnknownSign ?mo_UnknownSign ?no_UnknownSign ?ve_UnknownSign ?me_UnknownSign ?x_InvalidMachine ?sa_InvalidMachine ?ga_InvalidMachine ?gt_InvalidMachine ?sb_InvalidMachine ?ty_InvalidMachine ?kp_InvalidMachine ?hd_InvalidMachine ?cl_InvalidMachine ?kl_InvalidMachine ?mo_InvalidMachine ?no_InvalidMachine ?ve_InvalidMachine ?me_InvalidMachine ?x_UnlikeSigns ?sa_UnlikeSigns ?ga_UnlikeSigns ?gt_UnlikeSigns ?sb_UnlikeSigns ?ty_UnlikeSigns ?kp_UnlikeSigns ?hd_UnlikeSigns ?cl_UnlikeSigns ?kl_UnlikeSigns ?mo_UnlikeSigns ?no_UnlikeSigns ?ve_UnlikeSigns ?me_UnlikeSigns ?gs_get ?tk_get ?i_err ?t_err ?l_err ?in_InvalidNumber ?sb_InvalidNumber_WorthError ?sb_InvalidNumber_InvalidNumber ?sb_InvalidNumber_InvalidSigns ?sb_InvalidNumber_UnknownSign ?sb_InvalidNumber_InvalidMachine ?sb_InvalidNumber_UnlikeSigns ?a_number ?l_number ?a_added ?l_added ?a_product ?l_product ?a_quotient ?l_quotient ?a_power ?l_power ?a_is_number ?l_is_number ?a_check_number ?l_check_number ?a_check_numbers ?l_check_numbers ?a__law_deck ?l__law_deck ?a__law_draw ?l__law_draw ?a__law_gcd ?l__law_gcd ?a__law_pair ?l__law_pair ?a__law_alike ?l__law_alike ?a__law_number ?l__law_number ?a__law_two ?l__law_two ?a__law_wrong ?l__law_wrong ?a__law_is_number ?l__law_is_number ?a__law_told ?l__law_told ?a__law_due ?l__law_due ?a_law ?l_law ?a_gcd ?z_ValueError ?z_abs ?z_bool ?z_int ?z_isinstance ?z_len ?z_list ?z_range ?z_str ?z_tuple ?z_zip
    (case a_WorthError => k_is)
    (case a_InvalidNumber => k_is)
    (case a_InvalidSigns => k_is)
    (case a_UnknownSign => k_is)
    (case a_InvalidMachine => k_is)
    (case a_UnlikeSigns => k_is)
    (case x_WorthError => exact ⟨_, _, _, _, _, _, _, _, _, _, _, _, _, _, by k_is⟩)
    (case sa_WorthError => k_is)
    (case ga_WorthError => k_is)
    (case gt_WorthError => k_is)
    (case sb_WorthError => k_is)
    (case ty_WorthError => k_is)
    (case kp_WorthError => k_is)
    (case hd_WorthError => k_is)
    (case cl_WorthError => k_is)
    (case kl_WorthError => k_is)
    (case mo_WorthError => k_is)
    (case no_WorthError => k_is)
    (case ve_WorthError => k_is)
    (case me_WorthError => k_is)
    (case x_InvalidNumber => exact ⟨_, _, _, _, _, _, _, _, _, _, _, _, _, _, by k_is⟩)
    (case sa_InvalidNumber => k_is)
    (case ga_InvalidNumber => k_is)
    (case gt_InvalidNumber => k_is)
    (case sb_InvalidNumber => k_is)
    (case ty_InvalidNumber => k_is)
    (case kp_InvalidNumber => k_is)
    (case hd_InvalidNumber => k_is)
    (case cl_InvalidNumber => k_is)
    (case kl_InvalidNumber => k_is)
    (case mo_InvalidNumber => k_is)
    (case no_InvalidNumber => k_is)
    (case ve_InvalidNumber => k_is)
    (case me_InvalidNumber => k_is)
    (case x_InvalidSigns => exact ⟨_, _, _, _, _, _, _, _, _, _, _, _, _, _, by k_is⟩)
    (case sa_InvalidSigns => k_is)
    (case ga_InvalidSigns => k_is)
    (case gt_InvalidSigns => k_is)
    (case sb_InvalidSigns => k_is)
    (case ty_InvalidSigns => k_is)
    (case kp_InvalidSigns => k_is)
    (case hd_InvalidSigns => k_is)
    (case cl_InvalidSigns => k_is)
    (case kl_InvalidSigns => k_is)
    (case mo_InvalidSigns => k_is)
    (case no_InvalidSigns => k_is)
    (case ve_InvalidSigns => k_is)
    (case me_InvalidSigns => k_is)
    (case x_UnknownSign => exact ⟨_, _, _, _, _, _, _, _, _, _, _, _, _, _, by k_is⟩)
    (case sa_UnknownSign => k_is)
    (case ga_UnknownSign => k_is)
    (case gt_UnknownSign => k_is)
    (case sb_UnknownSign => k_is)
    (case ty_UnknownSign => k_is)
    (case kp_UnknownSign => k_is)
    (case hd_UnknownSign => k_is)
    (case cl_UnknownSign => k_is)
    (case kl_UnknownSign => k_is)
    (case mo_UnknownSign => k_is)
    (case no_UnknownSign => k_is)
    (case ve_UnknownSign => k_is)
    (case me_UnknownSign => k_is)
    (case x_InvalidMachine => exact ⟨_, _, _, _, _, _, _, _, _, _, _, _, _, _, by k_is⟩)
    (case sa_InvalidMachine => k_is)
    (case ga_InvalidMachine => k_is)
    (case gt_InvalidMachine => k_is)
    (case sb_InvalidMachine => k_is)
    (case ty_InvalidMachine => k_is)
    (case kp_InvalidMachine => k_is)
    (case hd_InvalidMachine => k_is)
    (case cl_InvalidMachine => k_is)
    (case kl_InvalidMachine => k_is)
    (case mo_InvalidMachine => k_is)
    (case no_InvalidMachine => k_is)
    (case ve_InvalidMachine => k_is)
    (case me_InvalidMachine => k_is)
    (case x_UnlikeSigns => exact ⟨_, _, _, _, _, _, _, _, _, _, _, _, _, _, by k_is⟩)
    (case sa_UnlikeSigns => k_is)
    (case ga_UnlikeSigns => k_is)
    (case gt_UnlikeSigns => k_is)
    (case sb_UnlikeSigns => k_is)
    (case ty_UnlikeSigns => k_is)
    (case kp_UnlikeSigns => k_is)
    (case hd_UnlikeSigns => k_is)
    (case cl_UnlikeSigns => k_is)
    (case kl_UnlikeSigns => k_is)
    (case mo_UnlikeSigns => k_is)
    (case no_UnlikeSigns => k_is)
    (case ve_UnlikeSigns => k_is)
    (case me_UnlikeSigns => k_is)
    (case gs_get => k_is)
    (case tk_get => k_is)
    (case i_err => k_is)
    (case t_err => k_is)
    (case l_err => exact ⟨_, _, _, _, _, _, _, _, _, by k_is, by k_is, by k_is⟩)
    (case in_InvalidNumber => k_is)
    (case sb_InvalidNumber_WorthError => k_is)
    (case sb_InvalidNumber_InvalidNumber => k_is)
    (case sb_InvalidNumber_InvalidSigns => k_is)
    (case sb_InvalidNumber_UnknownSign => k_is)
    (case sb_InvalidNumber_InvalidMachine => k_is)
    (case sb_InvalidNumber_UnlikeSigns => k_is)
    (case a_number => k_is)
    (case l_number => exact ⟨_, _, _, _, _, _, _, _, _, by k_is, by k_is, by k_is⟩)
    (case a_added => k_is)
    (case l_added => exact ⟨_, _, _, _, _, _, _, _, _, by k_is, by k_is, by k_is⟩)
    (case a_product => k_is)
    (case l_product => exact ⟨_, _, _, _, _, _, _, _, _, by k_is, by k_is, by k_is⟩)
    (case a_quotient => k_is)
    (case l_quotient => exact ⟨_, _, _, _, _, _, _, _, _, by k_is, by k_is, by k_is⟩)
    (case a_power => k_is)
    (case l_power => exact ⟨_, _, _, _, _, _, _, _, _, by k_is, by k_is, by k_is⟩)
    (case a_is_number => k_is)
    (case l_is_number => exact ⟨_, _, _, _, _, _, _, _, _, by k_is, by k_is, by k_is⟩)
    (case a_check_number => k_is)
    (case l_check_number => exact ⟨_, _, _, _, _, _, _, _, _, by k_is, by k_is, by k_is⟩)
    (case a_check_numbers => k_is)
    (case l_check_numbers => exact ⟨_, _, _, _, _, _, _, _, _, by k_is, by k_is, by k_is⟩)
    (case a__law_deck => k_is)
    (case l__law_deck => exact ⟨_, _, _, _, _, _, _, _, _, by k_is, by k_is, by k_is⟩)
    (case a__law_draw => k_is)
    (case l__law_draw => exact ⟨_, _, _, _, _, _, _, _, _, by k_is, by k_is, by k_is⟩)
    (case a__law_gcd => k_is)
    (case l__law_gcd => exact ⟨_, _, _, _, _, _, _, _, _, by k_is, by k_is, by k_is⟩)
    (case a__law_pair => k_is)
    (case l__law_pair => exact ⟨_, _, _, _, _, _, _, _, _, by k_is, by k_is, by k_is⟩)
    (case a__law_alike => k_is)
    (case l__law_alike => exact ⟨_, _, _, _, _, _, _, _, _, by k_is, by k_is, by k_is⟩)
    (case a__law_number => k_is)
    (case l__law_number => exact ⟨_, _, _, _, _, _, _, _, _, by k_is, by k_is, by k_is⟩)
    (case a__law_two => k_is)
    (case l__law_two => exact ⟨_, _, _, _, _, _, _, _, _, by k_is, by k_is, by k_is⟩)
    (case a__law_wrong => k_is)
    (case l__law_wrong => exact ⟨_, _, _, _, _, _, _, _, _, by k_is, by k_is, by k_is⟩)
    (case a__law_is_number => k_is)
    (case l__law_is_number => exact ⟨_, _, _, _, _, _, _, _, _, by k_is, by k_is, by k_is⟩)
    (case a__law_told => k_is)
    (case l__law_told => exact ⟨_, _, _, _, _, _, _, _, _, by k_is, by k_is, by k_is⟩)
    (case a__law_due => k_is)
    (case l__law_due => exact ⟨_, _, _, _, _, _, _, _, _, by k_is, by k_is, by k_is⟩)
    (case a_law => k_is)
    (case l_law => exact ⟨_, _, _, _, _, _, _, _, _, by k_is, by k_is, by k_is⟩)
    (case a_gcd => k_is)
    (case z_ValueError => k_is)
    (case z_abs => k_is)
    (case z_bool => k_is)
    (case z_int => k_is)
    (case z_isinstance => k_is)
    (case z_len => k_is)
    (case z_list => k_is)
    (case z_range => k_is)
    (case z_str => k_is)
    (case z_tuple => k_is)
    (case z_zip => k_is)
