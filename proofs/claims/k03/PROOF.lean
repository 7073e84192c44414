import PyProof.Rows.All
import Wide.All
import OpenK.AllK
import Wide.FinOn
import HandS.ForMost
import HandS.IsInst
import HandS.ClsMeth
import HandS.Property
import HandS.Strs
import HandS.Wide
import PyProof.LongRange
import HandS.Exc
import PyProof.Rows.NestShow
import HandS.SetFor
import HandS.Style
import HandS.Codes
import KE.RegKIsAll
import PySem.Challenge.RW_gaplesskeys_k03_moments_in_ranges
set_option Elab.async false
set_option linter.all false
set_option maxRecDepth 100000
set_option maxHeartbeats 4000000
/-! own rules: own operators, long ranges, a class held by a local name, a classmethod without arguments -/
namespace Jg
open PySem PySem.Spec PyProof.Rows L2

section
variable {X : Cx} {CX : CXT} {n k : Nat} {C f : Addr} {fd : FuncData} {ps : List Str} {sp : Sp} {E : XK} {dvs : List V} {ds : List Value}
/-- what an own method must be to serve an operator -/
structure Own (K : PySem.W.Frag) (C : Addr) (m : Str) (f : Addr) : Prop where
  at_ : PySem.W.findIn K (.ref C) m = some (some (.ref f))
  fn : PySem.W.isFn K (.ref f) = true
theorem back_of {pins : List (Addr × Obj)} {σ : L2.St} {Q : VK} {v : Value} {s : Shared} (h : EP X pins σ Q v s) : PySem.W.CmpBack (EP X pins σ Q) v s := by
  obtain ⟨x, H', I, r, q⟩ := h
  cases v <;> first
    | exact ⟨x, H', I, r, q⟩
    | (exfalso; cases x <;> simp [L2.RelV] at r)
/-- x == y, x < y .. by the own method of x -/
def rOwn (K : PySem.W.Frag) (C : Addr) (sp : Sp) (E : XK) : R2 := fun x y H Q => ∃ a dx fs t, x = .ref a ∧ H a = some (.ins C dx fs) ∧ TyX K H y t ∧ PySem.W.notFirst K C t = true ∧ sp [.ref a, y] H Q E
theorem op_own {op : CmpOp} (F : FnOk X.prog X.w X.K X.mg X.base CX n f fd ps sp) (hr : Room n X.A) (o : Own X.K C (cmpInfo op).2.1 f) (hb : Binds X.K fd ps []) (hx : Passes CX X E)
    (hc : ∀ v u, compareOp op v u = richCompare op v u := by intro _ _; rfl) : OpR X (compareOp op) (rOwn X.K C sp E) := by
  intro pins s σ H x y v u Q I rx ry h
  obtain ⟨a, dx, fs, t, rfl, ha, ty, nf, q⟩ := h
  cases rx
  obtain ⟨mA, J, _⟩ := ins_get I.hok ha
  obtain ⟨od, J, _⟩ := J.look
  obtain ⟨m, hF⟩ := I.fr
  obtain ⟨P, Z, p, _⟩ := kit_of I ry ty
  rw [hc]
  refine PySem.W.cmp_K (op := op) (tb := t) hr.units0 hF I.ok.mod.kin J (Z.ty _ _ I.kIn p) nf o.at_ o.fn ?_
  exact wpAny_mono (run_fn (us := [.ref a, u]) (vs := [.ref a, y]) F hr hb .nil hx I (.cons rfl (.cons ry .nil)) q) (fun _ _ z => back_of z) fun _ _ z => z
/-- x & y, x + y .. of two instances of the class -/
def rOwnB (C : Addr) (sp : Sp) (E : XK) : R2 := fun x y H Q => ∃ a b dx fs dy gs, x = .ref a ∧ y = .ref b ∧ H a = some (.ins C dx fs) ∧ H b = some (.ins C dy gs) ∧ sp [.ref a, .ref b] H Q E
theorem op_ownB {op : Operator} (F : FnOk X.prog X.w X.K X.mg X.base CX n f fd ps sp) (hr : Room n X.A) (o : Own X.K C (PySem.dunder op.info.2) f) (hc : PySem.W.selfFirst X.K C = true) (hb : Binds X.K fd ps []) (hx : Passes CX X E) :
    OpR X (binaryOp op) (rOwnB C sp E) := by
  intro pins s σ H x y v u Q I rx ry h
  obtain ⟨a, b, dx, fs, dy, gs, rfl, rfl, ha, hb', q⟩ := h
  cases rx
  cases ry
  obtain ⟨mA, J, _⟩ := ins_get I.hok ha
  obtain ⟨od, J, _⟩ := J.look
  obtain ⟨mB, J', _⟩ := ins_get I.hok hb'
  obtain ⟨od', J', _⟩ := J'.look
  obtain ⟨m, hF⟩ := I.fr
  refine PySem.W.binop_K (op := op) hF I.ok.mod.kin J J'.type hc o.at_ o.fn ?_
  exact wpAny_mono (run_fn (us := [.ref a, .ref b]) (vs := [.ref a, .ref b]) F hr hb .nil hx I (.cons rfl (.cons rfl .nil)) q) (fun _ _ z => back_of z) fun _ _ z => z
/-- y in x by the own method of x -/
def rOwnIn (C : Addr) (sp : Sp) (E : XK) : R2 := fun y x H Q => ∃ a dx fs, x = .ref a ∧ H a = some (.ins C dx fs) ∧ sp [.ref a, y] H (fun v H' => ∃ b, v = .bl b ∧ Q (.bl b) H') E
def rOwnNotIn (C : Addr) (sp : Sp) (E : XK) : R2 := fun y x H Q => ∃ a dx fs, x = .ref a ∧ H a = some (.ins C dx fs) ∧ sp [.ref a, y] H (fun v H' => ∃ b, v = .bl b ∧ Q (.bl (!b)) H') E
theorem op_ownIn (F : FnOk X.prog X.w X.K X.mg X.base CX n f fd ps sp) (hr : Room n X.A) (o : Own X.K C "__contains__" f) (hb : Binds X.K fd ps []) (hx : Passes CX X E) :
    OpR X (compareOp .In) (rOwnIn C sp E) := by
  intro pins s σ H y x u v Q I ry rx h
  obtain ⟨a, dx, fs, rfl, ha, q⟩ := h
  cases rx
  obtain ⟨mA, J, _⟩ := ins_get I.hok ha
  obtain ⟨od, J, _⟩ := J.look
  obtain ⟨m, hF⟩ := I.fr
  refine PySem.W.in_K hF I.ok.mod.kin J o.at_ o.fn ?_
  refine wpAny_mono (run_fn (us := [.ref a, u]) (vs := [.ref a, y]) F hr hb .nil hx I (.cons rfl (.cons ry .nil)) q) (fun r s' z => ?_) fun _ _ z => z
  obtain ⟨w', H', I', rw', b, rfl, q'⟩ := z
  cases (show r = Value.bool b from rw')
  exact wpAny_truthy_bool ⟨.bl _, H', I', rfl, q'⟩
theorem op_ownNotIn (F : FnOk X.prog X.w X.K X.mg X.base CX n f fd ps sp) (hr : Room n X.A) (o : Own X.K C "__contains__" f) (hb : Binds X.K fd ps []) (hx : Passes CX X E) :
    OpR X (compareOp .NotIn) (rOwnNotIn C sp E) := by
  intro pins s σ H y x u v Q I ry rx h
  obtain ⟨a, dx, fs, rfl, ha, q⟩ := h
  cases rx
  obtain ⟨mA, J, _⟩ := ins_get I.hok ha
  obtain ⟨od, J, _⟩ := J.look
  obtain ⟨m, hF⟩ := I.fr
  refine PySem.W.notIn_K hF I.ok.mod.kin J o.at_ o.fn ?_
  refine wpAny_mono (run_fn (us := [.ref a, u]) (vs := [.ref a, y]) F hr hb .nil hx I (.cons rfl (.cons ry .nil)) q) (fun r s' z => ?_) fun _ _ z => z
  obtain ⟨w', H', I', rw', b, rfl, q'⟩ := z
  cases (show r = Value.bool b from rw')
  exact wpAny_truthy_bool ⟨.bl _, H', I', rfl, q'⟩
end

/-! ### cls(e, ..), cls a local name that holds the class -/
def tMakeL (i : Nat) (C : Addr) (sp : Sp) (dvs : List V) (E : XK) (t : TA) : TE := fun σ H Q => σ[i]? = some (some (.ref C)) ∧ tMake C sp dvs E t σ H Q
section
variable {X : Cx} {CX : CXT} {k i : Nat} {C f : Addr} {fd : FuncData} {ps : List Str} {sp : Sp} {dvs : List V} {ds : List Value} {E : XK} {x : Str} {p pos : Pos} {e : Expr} {es : List Expr} {t : TA}
theorem pe_makeL (M : Mk X.K C f) (F : FnOk X.prog X.w X.K X.mg X.base CX k f fd ps sp) (hr : Room (k + 1) X.A) (hN : X.N[i]? = some x) (hv : Vis X.env.scope x) (hb : Binds X.K fd ps ds) (hd : Vals dvs ds) (hx : Passes CX X E) (ha : PA X (e :: es) t)
    (hdb : (x == ("__debug__" : Str)) = false := by decide) (hcd : (x == ("__classdict__" : Str)) = false := by decide)
    (he : starEach (e :: es) X.env = (false, eval e X.env) :: starEach es X.env := by rfl) (hpl : (backTo pos (starEach es X.env)).any (·.1) = false := by rfl) : PE X (.Call (.Name x p) (e :: es) [] pos) (tMakeL i C sp dvs E t) := by
  refine ⟨fun pins s σ H Q I h => ?_⟩
  obtain ⟨hs, ht⟩ := h
  refine wpAny_Call_Name_kw (thn ((pe_var (pos := p) hN hv hdb hcd).run pins s σ H (fun v H1 => v = .ref C ∧ H1 = H) I ⟨.ref C, hs, rfl, rfl⟩) fun u s1 ⟨v, H1, I1, r1, q1⟩ => ?_)
  obtain ⟨rfl, rfl⟩ := q1
  cases r1
  refine PySem.W.callWith_K (h₀ := X.base) I.ok.mod.kin M.kp (thn (ha.run pos pins s1 σ _ _ I1 ht) fun us s2 ⟨vs, H2, I2, r, q⟩ => ⟨I2.kIn, ?_⟩) he hpl
  exact run_make M F hr hb hd hx I2 r q
end

/-! ### C.m() , m a classmethod, no argument -/
section
open ClX
variable {X : Cx} {CX : CXT} {k : Nat} {C p g : Addr} {mc : Value} {sp : Sp} {E : XK} {o : Expr} {m : Str} {pos apos : Pos} {ta : TE} {pl : Sem Bool}
theorem pe_cmeth0 (he : PE X o ta) (r : CRead X.K C mc) (c : CMet X.K C mc m p g) (F : FnR X.prog X.w X.K X.mg X.base CX k g sp) (hr : Room k X.A) (hx : Passes CX X E)
    (ht : eval (.Call (.Attribute o m apos) [] [] pos) X.env = (do
      let ov ← eval o X.env
      standAt apos.atName
      let (f, first) ← holding [ov] (getMethod ov m pl)
      callWith pos f first (backTo pos (starEach [] X.env)) (backToKw pos (keywordEach [] X.env))) := by rfl) :
    PE X (.Call (.Attribute o m apos) [] [] pos) (tCMeth C sp E ta tNil) := by
  refine ⟨fun pins s σ H Q I h => ?_⟩
  refine PySem.W.methodCall_KW (pl := pl) (thn (he.run pins s σ H _ I h) fun u s1 ⟨x, H1, I1, rx, ex, q⟩ => ?_) ht
  subst ex
  obtain rfl : u = Value.ref C := rx
  refine getmethcm_ok I1 r c fun s2 I2 => ?_
  refine PySem.W.callWith_M0 (K := X.K) (first := []) ⟨pin_at I2, I2.kIn⟩ c.fi ?_
  exact run_cm F hr hx I2 .nil q
end

/-! ### range(a, b) of any size -/
theorem turn_long {P : Program} {w : World} {K : PySem.W.Frag} {tg : Expr} (it : Addr) (lo : Int) (n : Nat) : Turn P w K tg (Itr lo n) [it] it (fun i h => IsLongIter h it (lo + (i : Nat) * 1) ((n : Int) - (i : Nat)) 1) where
  mem := by simp
  obj := fun i h st b hb => by
    have e : b = it := by simpa using hb
    subst e
    exact ⟨_, st, fun v z => by
      have z' : Data.fields _ = Data.cell v := z
      cases z'⟩
  keep := fun i h h' st k => k it (by simp) _ st
  item := by
    intro X hP hw hK hc i pins s σ H E I hf st hg
    subst hP hw hK
    obtain ⟨f0, f1, f2, f3, f4, f5⟩ := hf it (by simp)
    have W := Walks.longrange (prog := X.prog) (w := X.w) (I.ok.hd hc) it lo 1 n
    refine W.item i s _ _ hg st fun v h' tk hv st' kk => ?_
    obtain ⟨t, rfl⟩ := hv
    have I1 : Inv X pins σ H { s with heap := h', toks := tk } := I.turned (fun b o hb e => kk b o (by simpa using hb) e) f0 f1 f3 f4 f5
    refine ⟨_, rfl, go_of (s := { s with heap := h', toks := tk }) (n := "longrange_iterator") st' rfl rfl (by decide) ⟨.int (lo + i), H, I1, ⟨t, ?_⟩, ⟨rfl, rfl⟩, st', fun b hb => (hf b hb).1⟩⟩
    rw [Int.mul_one]
  done := by
    intro X hP hw hK hc i pins s σ H E I hf st hg
    subst hP hw hK
    obtain ⟨f0, f1, f2, f3, f4, f5⟩ := hf it (by simp)
    exact wpAny_pyNext_long_end (I.ok.hd hc) st (by have : n ≤ i := hg; omega) fun h' eb => ⟨rfl, I.turned (t' := s.toks) (fun b o hb e => eb b o hb e) f0 f1 f3 f4 f5⟩
  self := fun _ _ _ _ _ st h => wpAny_pyIter_longiter st h
section
variable {X : Cx} {tg : Expr}
theorem rsize_nat (lo hi : Int) : (((hi - lo).toNat : Nat) : Int) = Builtin.Range.rangeSize lo hi 1 := by
  rw [rangeSize_one]; split <;> omega
theorem rangeW_it {pins : List (Addr × Obj)} {σ : L2.St} {H : Hp} {s : Shared} {R : It → Hp → Prop} {E : Value → Shared → Prop} {lo hi : Int} {t u v : Tok} {tk : Nat} (I : Inv X pins σ H s)
    (q : R (Itr lo (hi - lo).toNat) H) : wpAny (model X.prog X.w) X.A (pyIter (.ref s.heap.objs.size)) (PIE X pins σ tg R) E { s with heap := s.heap.push { cls := .type "range", data := .fields #[.int lo t, .int hi u, .int 1 v] }, toks := tk } := by
  have I1 : Inv X pins σ H { s with heap := s.heap.push { cls := .type "range", data := .fields #[.int lo t, .int hi u, .int 1 v] }, toks := tk } := I.kept fun b o e => Heap.get?_push_of_some _ e
  cases hs : Builtin.Range.small lo hi 1 with
  | true =>
    refine wpAny_pyIter_range (IsRange.new ..) hs ?_
    refine ⟨(s.heap.push { cls := .type "range", data := .fields #[.int lo t, .int hi u, .int 1 v] }).objs.size, [(s.heap.push { cls := .type "range", data := .fields #[.int lo t, .int hi u, .int 1 v] }).objs.size], _, _, H, rfl,
      I1.kept (t' := tk) fun b o e => Heap.get?_push_of_some _ e, turn_range _ lo (hi - lo).toNat, ?_, fun b hb => ?_, q⟩
    · have e1 : lo + ((0 : Nat) : Int) * 1 = lo := by simp
      have e2 : (((hi - lo).toNat : Nat) : Int) - ((0 : Nat) : Int) = Builtin.Range.rangeSize lo hi 1 := by rw [rsize_nat]; simp
      show IsRangeIter _ _ (lo + ((0 : Nat) : Int) * 1) ((((hi - lo).toNat : Nat) : Int) - ((0 : Nat) : Int)) 1
      rw [e1, e2]
      exact Heap.get?_push_size _ rfl
    · have e : b = (s.heap.push { cls := .type "range", data := .fields #[.int lo t, .int hi u, .int 1 v] }).objs.size := by simpa using hb
      subst e
      exact I1.fpOk (Nat.le_refl _) (I1.hok.fresh (Nat.le_refl _))
  | false =>
    refine wpAny_pyIter_longrange (IsRange.new ..) hs ?_
    refine ⟨(s.heap.push { cls := .type "range", data := .fields #[.int lo t, .int hi u, .int 1 v] }).objs.size, [(s.heap.push { cls := .type "range", data := .fields #[.int lo t, .int hi u, .int 1 v] }).objs.size], _, _, H, rfl,
      I1.kept (t' := tk) fun b o e => Heap.get?_push_of_some _ e, turn_long _ lo (hi - lo).toNat, ?_, fun b hb => ?_, q⟩
    · have e1 : lo + ((0 : Nat) : Int) * 1 = lo := by simp
      have e2 : (((hi - lo).toNat : Nat) : Int) - ((0 : Nat) : Int) = Builtin.Range.rangeSize lo hi 1 := by rw [rsize_nat]; simp
      show IsLongIter _ _ (lo + ((0 : Nat) : Int) * 1) ((((hi - lo).toNat : Nat) : Int) - ((0 : Nat) : Int)) 1
      rw [e1, e2]
      exact Heap.get?_push_size _ rfl
    · have e : b = (s.heap.push { cls := .type "range", data := .fields #[.int lo t, .int hi u, .int 1 v] }).objs.size := by simpa using hb
      subst e
      exact I1.fpOk (Nat.le_refl _) (I1.hok.fresh (Nat.le_refl _))
def iRng2W (ta : TA) : TI := fun σ H R => ta σ H fun vs H1 => ∃ i j : Int, vs = [.int i, .int j] ∧ R (Itr i (j - i).toNat) H1
theorem pi_range2W {a b : Expr} {ta : TA} {p pos : Pos} (hg : Gl X "range") (hm : X.mg "range" = none) (ha : PA X [a, b] ta) (hs : starEach [a, b] X.env = [(false, eval a X.env), (false, eval b X.env)] := by rfl) (hs2 : starEach [b] X.env = [(false, eval b X.env)] := by rfl) :
    PI X tg (.Call (.Name "range" p) [a, b] [] pos) (iRng2W ta) := by
  refine ⟨fun pins s σ H R I h => ?_⟩
  refine Call_ (ld_blt I hg hm boot_range (PyProof.Rows.callWith_type1 (thn (ha.run pos pins s σ H _ I h) fun us s1 ⟨vs, H1, I1, r1, q1⟩ => ?_) (by rw [hs, hs2]) (by rw [hs2]; rfl)))
  obtain ⟨i, j, e, q⟩ := q1
  subst e
  cases r1 with
  | cons r rr =>
    cases rr with
    | cons r' rr =>
      cases rr
      obtain ⟨t, rfl⟩ := r
      obtain ⟨t', rfl⟩ := r'
      exact call_range_2 (rangeW_it I1 q)
end
end Jg

/-! defs that are called where no repr is under way, repr of data, and the law's end over such a def -/
namespace Jg
open PySem PySem.Spec PyProof.Rows L2

/-- a def's promise where no repr is under way -/
structure FnG (P : Program) (w : World) (K : PySem.W.Frag) (mg : Str → Option Value) (base : Heap) (CX : CXT) (k : Nat) (f : Addr) (fd : FuncData) (ps : List Str) (sp : Sp) : Prop where
  len : ∀ vs H Q E, sp vs H Q E → vs.length = ps.length
  run : ∀ (A : Around), A.guards = some [] → ∀ (outer : List Env) (s : Shared) (H : Hp) (args : Args) (us : List Value) (vs : List V) (Q : VK) (E : XK), Room k A → Env0 P w K mg base A outer s H → BindsTo s fd args (ps.zip us) → Vals vs us → sp vs H Q E →
    codeAny (model P w) A (.call (.ref f) args) (CR CX outer P w H s Q E) s
theorem FnG.of {P : Program} {w : World} {K : PySem.W.Frag} {mg : Str → Option Value} {base : Heap} {CX : CXT} {k : Nat} {f : Addr} {fd : FuncData} {ps : List Str} {sp : Sp} (F : FnOk P w K mg base CX k f fd ps sp) : FnG P w K mg base CX k f fd ps sp :=
  ⟨F.len, fun A _ => F.run A⟩
theorem FnG.mono {P : Program} {w : World} {K : PySem.W.Frag} {mg : Str → Option Value} {base : Heap} {CX : CXT} {j k : Nat} {f : Addr} {fd : FuncData} {ps : List Str} {sp : Sp} (F : FnG P w K mg base CX j f fd ps sp) (h : j ≤ k) :
    FnG P w K mg base CX k f fd ps sp := ⟨F.len, fun A g outer s H args us vs Q E hr => F.run A g outer s H args us vs Q E (hr.mono h)⟩

section
variable {X : Cx} {CX : CXT} {k : Nat} {f : Addr} {fd : FuncData} {ps : List Str} {sp : Sp} {dvs : List V} {ds : List Value} {E : XK} {x : Str} {p pos : Pos} {e : Expr} {es : List Expr} {t : TA}
theorem run_fnG {pins : List (Addr × Obj)} {σ : L2.St} {H : Hp} {s : Shared} {Q : VK} {us : List Value} {vs : List V} (F : FnG X.prog X.w X.K X.mg X.base CX k f fd ps sp) (g : X.A.guards = some []) (hr : Room k X.A) (hb : Binds X.K fd ps ds) (hd : Vals dvs ds) (hx : Passes CX X E)
    (I : Inv X pins σ H s) (r : Vals vs us) (h : sp (vs ++ dvs) H Q E) : wpAny (model X.prog X.w) X.A (call (.ref f) us) (EP X pins σ Q) X.xe s := by
  have both := r.append hd
  have hl : (us ++ ds).length = ps.length := both.length.symm.trans (F.len _ _ _ _ h)
  have go := F.run X.A g X.stack s H ⟨us, []⟩ (us ++ ds) (vs ++ dvs) Q E hr I.env0 (hb s us I.kIn hl) both h
  refine wpAny_call (codeAny_mono go fun r s' hq => ?_)
  match r, hq with
  | .error e, hq => exact hx pins σ H s e s' I hq
  | .ok (.ret u), hq => exact I.after hq
/-- f(e, ..) -/
theorem pe_callG (F : FnG X.prog X.w X.K X.mg X.base CX k f fd ps sp) (g : X.A.guards = some []) (hr : Room k X.A) (hg : Gl X x) (hm : X.mg x = some (.ref f)) (hk : PySem.W.keepIn X.K (.ref f) = true) (hb : Binds X.K fd ps ds) (hd : Vals dvs ds) (hx : Passes CX X E)
    (ha : PA X (e :: es) t) (hdb : (x == ("__debug__" : Str)) = false := by decide) (he : starEach (e :: es) X.env = (false, eval e X.env) :: starEach es X.env := by rfl) (hpl : (backTo pos (starEach es X.env)).any (·.1) = false := by rfl) :
    PE X (.Call (.Name x p) (e :: es) [] pos) (tCall sp dvs E t) :=
  ⟨fun pins s σ H Q I h => wpAny_Call_Name_kw (ld_glob I hg hm (PySem.W.callWith_K (h₀ := X.base) I.ok.mod.kin hk (thn (ha.run pos pins s σ H _ I h) fun _ _ ⟨_, _, I1, r, q⟩ => ⟨I1.kIn, run_fnG F g hr hb hd hx I1 r q⟩) he hpl) hdb)⟩
end

theorem guards_deeper {A : Around} {e : Env} (h : A.guards = some []) : (A.deeper e).guards = some [] := by
  first | exact h | (unfold Around.deeper; simpa using h)

section
variable {P : Program} {w : World} {K : PySem.W.Frag} {mg : Str → Option Value} {base : Heap}
/-- a def of the text, its body walked where no repr is under way -/
theorem fnG_of {CX : CXT} {k : Nat} {x qual : Str} {st : Stmt} {f : Addr} {fd : FuncData} {N ps : List Str} {sp : Sp} (F : Fun K x qual st f fd) (S : FnScope N ps (defScope st)) (len : ∀ vs H Q E, sp vs H Q E → vs.length = ps.length)
    (hbody : ∀ (cdv : Value) (A : Around) (outer : List Env) (s : Shared) (H : Hp) (vs : List V) (Q : VK) (E : XK), A.guards = some [] → Room k (A.deeper (envOfC qual (defScope st) s.heap.objs.size f cdv)) → sp vs H Q E →
      ∃ t, PSs (cxOf CX P w K mg base N qual (defScope st) f cdv A outer s H E) (defBody st) t ∧ t { nx := fun _ H' => Q .non H', rt := Q } (start N vs) H) : FnG P w K mg base CX (k + 1) f fd ps sp := by
  obtain ⟨oc, od, kV, doc, pm, an, cdv, ct, osl, rfl, lk, hcd⟩ := F.ex
  refine ⟨len, fun A g outer s H args us vs Q E hr e0 hb r hsp => ?_⟩
  have inHeap : K.In s.heap := e0.mod.kin.keeps fun b o e => (e0.bs b o e).1
  have kinds : ∀ y ∈ ps.zip us, (defScope st).names.lookup y.1 = some .local ∨ ((defScope st).names.lookup y.1 = some .cell ∧ ((cellsFrom (s.heap.objs.size + 1) (defScope st).names []).lookup y.1).isSome = true) := fun y hy =>
    (S.par y.1 (List.of_mem_zip hy).1).imp id fun q => ⟨q, PySem.W.cellsFrom_some _ _ _ (.inl q)⟩
  refine codeAny_call_function hr.depth (inHeap _ _ lk) rfl S.co S.gen rfl (PySem.W.codeRec_of inHeap hcd) (hb _ _ _ _ ?_)
  refine wpAny_newFunctionEnv_cells S.kind kinds fun env he s1 y => ?_
  subst he
  obtain ⟨t, ht, hq⟩ := hbody cdv A outer s H vs Q E g (hr.deeper _) hsp
  have I := inv_start (CX := CX) (E := E) S hr.hd e0 (len _ _ _ _ hsp) r y
  refine ⟨(e0.mod.nolimit.keeps fun b o e => (e0.bs b o e).1).keeps y.toInCall.keep, codeAny_func (wpAny_mono (ht.run [] s1 (start N vs) H _ I hq) (fun fl s' hs => ?_) fun _ _ hs => hs)⟩
  match fl, hs with
  | .ret u, ⟨v, _, H', J, rv, q⟩ => exact ⟨v, H', J.os, J.bare, J.base, J.hok, rv, q⟩
  | .next, ⟨_, H', J, q⟩ => exact ⟨.non, H', J.os, J.bare, J.base, J.hok, rfl, q⟩
  | .brk, ⟨_, _, _, q⟩ => exact False.elim q
  | .cont, ⟨_, _, _, q⟩ => exact False.elim q
end

/-! ### repr of data -/
theorem noDict : ∀ (K : PySem.W.Frag) (H : Hp) (d : PyData) (v : V), Dp K H v d → d.hasDict = false := by
  intro K H d v h
  refine Dp.rec (motive_1 := fun _ d _ => d.hasDict = false) (motive_2 := fun _ ds _ => PyData.hasDictAll ds = false) ?_ ?_ ?_ ?_ ?_ ?_ ?_ ?_ h
  · rfl
  · intro b; rfl
  · intro i; rfl
  · intro x; rfl
  · intro a xs ds _ _ ih; exact ih
  · intro a xs ds _ _ ih; exact ih
  · rfl
  · intro v vs d ds _ _ h1 h2
    show (PyData.hasDict d || PyData.hasDictAll ds) = false
    rw [h1, h2]; rfl
def rRepr (K : PySem.W.Frag) : List V → Hp → VK → Prop := fun xs H Q => ∃ a d, xs = [.ref a] ∧ Dp K H (.ref a) d ∧ d.showable = true ∧ d.depth ≤ 40 ∧ d.shown.length ≤ sizeLine ∧ Q (.str d.shown) H
section
variable {X : Cx}
theorem call_reprD (g : X.A.guards = some []) (hu : X.A.units + 64 < cLine) : CallR X (.builtin "repr") (rRepr X.K) := by
  intro pins s σ H xs us Q I r h
  obtain ⟨a, d, rfl, hd, hs, dp, hz, q⟩ := h
  obtain ⟨u, rfl, ru⟩ := vals1 r
  cases ru
  obtain ⟨as, R⟩ := Dp.reads I d (.ref a) (.ref a) hd rfl
  refine repr_of_reads' R hs (PyData.noDict_hsm (noDict _ _ _ _ hd)) g (by omega) (fun _ _ e => e) (fun h' u tk hk => ?_) hz
  exact ⟨.str d.shown, H, I.kept hk, ⟨_, rfl⟩, q⟩
end

/-! ### the end -/
theorem law_callG {P : Program} {w : World} {K : PySem.W.Frag} {mg mb : Str → Option Value} {CX : CXT} {k : Nat} {fa a : Addr} {fd : FuncData} {x : Str} {sp : Sp} {s₁ : Shared} {vs : List Value} {ns : List Int}
    (KX : K.In s₁.heap) (hns : s₁.heap.Ns mainGlobals mg) (hb : s₁.heap.Ns builtinsNs mb) (hbb : ∀ x : Str, x ≠ "__name__" → mb x = bootBuiltins x) (hlim : s₁.heap.NoLimit) (hg : s₁.gens = #[])
    (ha : s₁.heap.get? a = some { cls := .type "list", data := .seq vs.toArray }) (hi : IntsAre vs ns) (hl : ns.length ≤ sizeLine) (hr : Room k callerA)
    (F : ∀ base : Heap, K.In base → base.Ns mainGlobals mg → FnG P w K mg base CX k fa fd [x] sp) (hbind : ∀ (s : Shared) (u : Value), BindsTo s fd ⟨[u], []⟩ [(x, u)])
    (hsp : ∀ H : Hp, Only H → SqL K H a (ns.map V.int) → sp [.ref a] H (fun v _ => v = .bl true) fun _ _ _ => False)
    (hCX : ∀ H e s', CX [] H s₁ (fun _ _ _ => False) e s' → False) :
    codeAny (model P w) callerA (.call (.ref fa) ⟨[.ref a], []⟩) (fun r s' => r = .ok (.ret (.bool true)) ∧ OldK s₁.heap s'.heap ∧ s'.os = s₁.os ∧ AllBare s'.gens) s₁ := by
  have lenV := hi.length
  let scriptO : Obj := { cls := .type "list", data := .seq vs.toArray }
  -- what is tracked: the script, unless it is one of the module's own objects
  let H : Hp := fun b => if b = a ∧ K.lookup a = none then some (.frz scriptO (.lst (ns.map V.int))) else none
  have H1 : ∀ b u, H b = some u → b = a ∧ K.lookup a = none ∧ u = .frz scriptO (.lst (ns.map V.int)) := fun b u e => by
    show b = a ∧ _ ∧ _
    by_cases c : b = a ∧ K.lookup a = none
    · have e' : some (HO.frz scriptO (.lst (ns.map V.int))) = some u := (if_pos c).symm.trans e
      exact ⟨c.1, c.2, (Option.some.inj e').symm⟩
    · have e' : (none : Option HO) = some u := (if_neg c).symm.trans e
      cases e'
  have only : Only H := fun b => by
    cases e : H b with
    | none => exact .inl rfl
    | some u =>
      obtain ⟨_, _, rfl⟩ := H1 b u e
      exact .inr ⟨_, _, rfl⟩
  have seq : SqL K H a (ns.map V.int) := by
    cases hk : K.lookup a with
    | none => exact .inl (.inr ⟨scriptO, if_pos ⟨rfl, hk⟩⟩)
    | some o =>
      have e := KX a o hk
      rw [ha] at e
      cases e
      exact .inr ⟨_, vs.toArray, _, hk, rfl, rfl, rfl, by rw [List.size_toArray, lenV]; exact hl, by simpa using vals_ints hi⟩
  have ok : HOk P w H s₁.heap := fun b u e => by
    obtain ⟨rfl, _, rfl⟩ := H1 b u e
    exact ⟨ha, by rw [List.length_map]; exact hl, vs, _, vals_ints hi, ha⟩
  -- objects of other kinds than the script are not tracked
  have dictFree : ∀ {b : Addr} {o : Obj} {es : Array DictEntry} {ep : Nat}, s₁.heap.get? b = some o → o.data = .dict es ep → H b = none := fun {b o es ep} e d => by
    cases q : H b with
    | none => rfl
    | some u =>
      obtain ⟨rfl, _, _⟩ := H1 b u q
      rw [ha] at e
      cases e
      exact nomatch (show Data.seq vs.toArray _ = Data.dict es ep from d)
  have ns0 : ∀ {b : Addr} {m : Str → Option Value}, s₁.heap.Ns b m → (hidT s₁.heap H).Ns b m := fun {b m} ⟨o, es, ep, e, d, r⟩ => ⟨o, es, ep, hidT_get e (dictFree e d), d, r⟩
  have kin0 : K.In (hidT s₁.heap H) := fun b o e => hidT_get (KX b o e) (by
    cases q : H b with
    | none => rfl
    | some u =>
      obtain ⟨rfl, hk, _⟩ := H1 b u q
      rw [hk] at e; cases e)
  have md : Mod K mg (hidT s₁.heap H) := ⟨kin0, ns0 hns, ⟨mb, ns0 hb, hbb⟩, let ⟨mc, c1, c2⟩ := hlim; ⟨mc, ns0 c1, c2⟩⟩
  have e0 : Env0 P w K mg (hidT s₁.heap H) callerA [] s₁ H := ⟨rfl, md, fun b o e => of_hidT e, Nat.le_of_eq (hidT_size _ _), trivial, fun b hb => absurd (show b ∈ ([] : List Addr) from hb) (by simp), ok, .of_eq hg⟩
  have go := (F _ kin0 (ns0 hns)).run callerA rfl [] s₁ H ⟨[.ref a], []⟩ [.ref a] [.ref a] _ _ hr e0 (hbind s₁ (.ref a)) (.cons rfl .nil) (hsp H only seq)
  refine codeAny_mono go fun r s' h => ?_
  match r, h with
  | .error e, h => exact (hCX H e s' h).elim
  | .ok (.ret u), ⟨v, H', os, bare, un, hok', r', q⟩ =>
    have q' : v = .bl true := q
    subst q'
    cases (show u = Value.bool true from r')
    refine ⟨rfl, OldK.of_keep fun b o e => ?_, os, bare⟩
    cases q : H b with
    | none => exact un.keep b o e q (fun z => absurd (show b ∈ ([] : List Addr) from z) (by simp)) (by simp)
    | some u =>
      obtain ⟨rfl, _, rfl⟩ := H1 b u q
      have w2 := (hok' _ _ (un.frzs _ _ _ q)).1
      rw [ha] at e
      cases e
      exact w2
theorem walk_ofG {l : PySem.W.OpenLaw} {n k : Nat} {q : Program} {loose : List Str} {XP : (Str → Option Value) → Heap → Prop} {YP : World → Heap → Prop} {d : DefRec} {K : Params → PySem.W.Frag} {CX : World → CXT} {sp : World → Sp} {x : Str}
    (hn : l.most = some n) (hn2 : n ≤ sizeLine) (hdf : d.params.defaults = []) (hr : Room k callerA)
    (hY : ∀ (w : World) (h : Heap), YP w h → (K w.params).In h)
    (F : ∀ (w : World) (mg : Str → Option Value) (fa : Addr) (h : Heap), (K w.params).In h → h.Ns mainGlobals mg → mg d.name = some (.ref fa) → XP mg h →
      ∃ fd : FuncData, (∀ (s : Shared) (u : Value), BindsTo s fd ⟨[u], []⟩ [(x, u)]) ∧
        ∀ base : Heap, (K w.params).In base → base.Ns mainGlobals mg → FnG l.prog w (K w.params) mg base (CX w) k fa fd [x] (sp w))
    (hsp : ∀ (w : World) (H : Hp) (a : Addr) (ns : List Int), ns.length ≤ n → Only H → SqL (K w.params) H a (ns.map V.int) → sp w [.ref a] H (fun v _ => v = .bl true) fun _ _ _ => False)
    (hCX : ∀ (w : World) (H : Hp) (s : Shared) (e : Value) (s' : Shared), CX w [] H s (fun _ _ _ => False) e s' → False) :
    PySem.W.WalkO q loose XP YP l.row.toRowW d [] (fun f vs => PySem.call f vs) :=
  Att.attach_call hn hdf fun w _ s₁ mg mb fa _ _ _ _ a vs ns G Y _ _ _ hmg hobj hints hlen hg =>
    let ⟨_, hb, hF⟩ := F w mg fa _ (hY w _ Y) G.T.g hmg G.X
    law_callG (hY w _ Y) G.T.g G.T.b G.T.builtins G.T.nolimit hg hobj hints (Nat.le_trans hlen hn2) hr hF hb (fun H hO hS => hsp w H a ns hlen hO hS) fun H e s' => hCX w H s₁ e s'
/-- a number that the top keeps under a name, whatever its token -/
theorem loose_int {p : Program} {lv : List (Str × PySem.W.WData)} {mg : Str → Option Value} {h : Heap} {x : Str} {i : Int} (X : PySem.W.XL p lv mg h) (hm : (x, PySem.W.WData.int i) ∈ lv) : ∃ u, mg x = some u ∧ L2.RelV (.int i) u := by
  obtain ⟨v, e, r⟩ := X.2.val _ hm
  cases r
  exact ⟨_, e, _, rfl⟩
end Jg

/-! defs, methods, properties and classes by their names: addresses hidden -/
namespace Jg
open PySem PySem.Spec PyProof.Rows L2

theorem iteFe {A D : Prop} {b : Bool} (e : b = false) (h : D) : if b = true then A else D := by rw [e]; exact iteF h
theorem iteTe {A D : Prop} {b : Bool} (e : b = true) (h : A) : if b = true then A else D := by rw [e]; exact iteT h
/-- a def of the module as the top leaves it -/
structure DefK (K : PySem.W.Frag) (mg : Str → Option Value) (x : Str) (st : Stmt) : Prop where
  ex : ∃ f fd, Fun K x x st f fd ∧ mg x = some (.ref f)
theorem DefK.of {K : PySem.W.Frag} {h : Heap} {mg : Str → Option Value} {x : Str} {st : Stmt} {f : Addr} {oc : Value} {od an : Option Addr} {osl : Array (Option Value)} {kV doc pm cdv ct : Value} (X : K.In h) (G : h.Ns mainGlobals mg)
    (a : PySem.W.nsIn K mainGlobals x = some (some (.ref f))) (l : K.lookup f = some ⟨oc, od, .func (PySem.W.fnOf x x (defArgs st) (defBody st) (defScope st) .none kV doc pm an cdv ct), osl⟩)
    (c : PySem.W.codeIn K cdv x = true) (k : PySem.W.keepIn K (.ref f) = true) : DefK K mg x st := ⟨f, _, fun_mk l c k, PySem.W.mg_of X G a⟩
/-- a method of the class at C -/
structure MetK (K : PySem.W.Frag) (C : Addr) (m qual : Str) (st : Stmt) : Prop where
  ex : ∃ f fd, Fun K m qual st f fd ∧ PySem.W.findIn K (.ref C) m = some (some (.ref f)) ∧ PySem.W.isFn K (.ref f) = true
theorem MetK.of {K : PySem.W.Frag} {C : Addr} {m qual : Str} {st : Stmt} {f : Addr} {oc : Value} {od an : Option Addr} {osl : Array (Option Value)} {kV doc pm cdv ct : Value}
    (a : PySem.W.findIn K (.ref C) m = some (some (.ref f))) (i : PySem.W.isFn K (.ref f) = true) (l : K.lookup f = some ⟨oc, od, .func (PySem.W.fnOf m qual (defArgs st) (defBody st) (defScope st) .none kV doc pm an cdv ct), osl⟩)
    (c : PySem.W.codeIn K cdv qual = true) (k : PySem.W.keepIn K (.ref f) = true) : MetK K C m qual st := ⟨f, _, fun_mk l c k, a, i⟩
/-- a property of the class at C -/
structure PrpK (K : PySem.W.Frag) (C : Addr) (m qual : Str) (st : Stmt) : Prop where
  ex : ∃ p f fd, Fun K m qual st f fd ∧ PropOf K C m p f
theorem PrpK.of {K : PySem.W.Frag} {C : Addr} {m qual : Str} {st : Stmt} {p f : Addr} {rest : List Value} {oc : Value} {od an : Option Addr} {osl : Array (Option Value)} {kV doc pm cdv ct : Value}
    (a : PySem.W.findIn K (.ref C) m = some (some (.ref p))) (g : PySem.W.specialIn K (.ref p) "__get__" = some (some (.builtin "property.__get__"))) (tk : PySem.W.takesIn K (.ref p) = some true) (rc : PySem.W.recIn K p "property" = some (.ref f :: rest))
    (l : K.lookup f = some ⟨oc, od, .func (PySem.W.fnOf m qual (defArgs st) (defBody st) (defScope st) .none kV doc pm an cdv ct), osl⟩)
    (c : PySem.W.codeIn K cdv qual = true) (k : PySem.W.keepIn K (.ref f) = true) : PrpK K C m qual st := ⟨p, f, _, fun_mk l c k, ⟨a, g, tk, rest, rc⟩⟩
/-- a classmethod of the class at C -/
structure CmtK (K : PySem.W.Frag) (C : Addr) (mc : Value) (m qual : Str) (st : Stmt) : Prop where
  ex : ∃ p f fd, Fun K m qual st f fd ∧ ClX.CRead K C mc ∧ ClX.CMet K C mc m p f
theorem CmtK.of {K : PySem.W.Frag} {C : Addr} {mc : Value} {m qual : Str} {st : Stmt} {p f : Addr} {rest : List Value} {oc : Value} {od an : Option Addr} {osl : Array (Option Value)} {kV doc pm cdv ct : Value}
    (rd : PySem.W.readsIn K C mc = true) (ga : PySem.W.specialIn K (.ref C) "__getattribute__" = some (some (.builtin "type.__getattribute__")))
    (a : PySem.W.findCls K (.ref C) mc m = some (.get (.builtin "classmethod.__get__") (.ref p) .none (.ref C))) (rc : PySem.W.recIn K p "classmethod" = some (.ref f :: rest)) (fi : PySem.W.fnIn K f = true)
    (l : K.lookup f = some ⟨oc, od, .func (PySem.W.fnOf m qual (defArgs st) (defBody st) (defScope st) .none kV doc pm an cdv ct), osl⟩)
    (c : PySem.W.codeIn K cdv qual = true) (k : PySem.W.keepIn K (.ref f) = true) : CmtK K C mc m qual st := ⟨p, f, _, fun_mk l c k, ⟨rd, ga⟩, ⟨a, ⟨rest, rc⟩, fi⟩⟩

section
variable (P : Program) (w : World) (K : PySem.W.Frag) (mg : Str → Option Value) (base : Heap) (CX : CXT) (k : Nat)
/-- a def that may be called by its name -/
structure Cal (x : Str) (sp : Sp) : Prop where
  ex : ∃ f fd ps, FnOk P w K mg base CX k f fd ps sp ∧ mg x = some (.ref f) ∧ PySem.W.keepIn K (.ref f) = true ∧ Binds K fd ps []
structure CalG (x : Str) (sp : Sp) : Prop where
  ex : ∃ f fd ps, FnG P w K mg base CX k f fd ps sp ∧ mg x = some (.ref f) ∧ PySem.W.keepIn K (.ref f) = true ∧ Binds K fd ps []
/-- a method of the class at C -/
structure Met (C : Addr) (m : Str) (sp : Sp) : Prop where
  ex : ∃ f fd ps, FnOk P w K mg base CX k f fd ps sp ∧ PySem.W.findIn K (.ref C) m = some (some (.ref f)) ∧ PySem.W.isFn K (.ref f) = true ∧ PySem.W.keepIn K (.ref f) = true ∧ Binds K fd ps []
structure Prp (C : Addr) (m : Str) (sp : Sp) : Prop where
  ex : ∃ p f fd ps, FnOk P w K mg base CX k f fd ps sp ∧ PropOf K C m p f ∧ Binds K fd ps []
structure Cmt (C : Addr) (mc : Value) (m : Str) (sp : Sp) : Prop where
  ex : ∃ p f fd ps, FnOk P w K mg base CX k f fd ps sp ∧ ClX.CRead K C mc ∧ ClX.CMet K C mc m p f ∧ Binds K fd ps []
end
theorem CalG.of {P : Program} {w : World} {K : PySem.W.Frag} {mg : Str → Option Value} {base : Heap} {CX : CXT} {k : Nat} {x : Str} {sp : Sp} (c : Cal P w K mg base CX k x sp) : CalG P w K mg base CX k x sp :=
  let ⟨f, fd, ps, F, a⟩ := c.ex
  ⟨f, fd, ps, .of F, a⟩

/-- how a def of the text binds its arguments -/
def BindOk (x qual : Str) (st : Stmt) (ps : List Str) : Prop :=
  ∀ (kV doc pm : Value) (an : Option Addr) (cdv ct : Value) (us : List Value), us.length = ps.length → bindArgs (PySem.W.fnOf x qual (defArgs st) (defBody st) (defScope st) .none kV doc pm an cdv ct) ⟨us, []⟩ = pure (ps.zip us)
/-- what a body must show -/
def BodyOk (CX : CXT) (P : Program) (w : World) (K : PySem.W.Frag) (mg : Str → Option Value) (base : Heap) (N : List Str) (qual : Str) (st : Stmt) (f : Addr) (k : Nat) (sp : Sp) : Prop :=
  ∀ (cdv : Value) (A : Around) (outer : List Env) (s : Shared) (H : Hp) (vs : List V) (Q : VK) (E : XK), Room k (A.deeper (envOfC qual (defScope st) s.heap.objs.size f cdv)) → sp vs H Q E →
      ∃ t, PSs (cxOf CX P w K mg base N qual (defScope st) f cdv A outer s H E).nox (defBody st) t ∧ t { nx := fun _ H' => Q .non H', rt := Q } (start N vs) H
section
variable {P : Program} {w : World} {K : PySem.W.Frag} {mg : Str → Option Value} {base : Heap} {k : Nat} {C : Addr} {mc : Value} {x m qual : Str} {st : Stmt} {N ps : List Str} {sp : Sp}
theorem DefK.cal (D : DefK K mg x st) (S : FnScope N ps (defScope st)) (b : BindOk x x st ps) (len : ∀ vs H Q E, sp vs H Q E → vs.length = ps.length) (hb : ∀ f, BodyOk CX0 P w K mg base N x st f k sp) : Cal P w K mg base CX0 (k + 1) x sp :=
  let ⟨f, fd, F, m⟩ := D.ex
  ⟨f, fd, ps, F.ok S len (hb f), m, F.kp, F.binds b⟩
theorem DefK.calG (D : DefK K mg x st) (S : FnScope N ps (defScope st)) (b : BindOk x x st ps) (len : ∀ vs H Q E, sp vs H Q E → vs.length = ps.length)
    (hb : ∀ (f : Addr) (cdv : Value) (A : Around) (outer : List Env) (s : Shared) (H : Hp) (vs : List V) (Q : VK) (E : XK), (cxOf CX0 P w K mg base N x (defScope st) f cdv A outer s H E).nox.A.guards = some [] → Room k (A.deeper (envOfC x (defScope st) s.heap.objs.size f cdv)) → sp vs H Q E →
      ∃ t, PSs (cxOf CX0 P w K mg base N x (defScope st) f cdv A outer s H E).nox (defBody st) t ∧ t { nx := fun _ H' => Q .non H', rt := Q } (start N vs) H) : CalG P w K mg base CX0 (k + 1) x sp :=
  let ⟨f, fd, F, m⟩ := D.ex
  ⟨f, fd, ps, fnG_of F S len fun cdv A outer s H vs Q E g hr h =>
    let ⟨t, a, q⟩ := hb f cdv A outer s H vs Q E (guards_deeper g) hr h
    ⟨t, a.nox, q⟩, m, F.kp, F.binds b⟩
/-- .. and the function object, for the end -/
theorem DefK.fnG {fa : Addr} (D : DefK K mg x st) (hm : mg x = some (.ref fa)) (S : FnScope N ps (defScope st)) (b : BindOk x x st ps) (len : ∀ vs H Q E, sp vs H Q E → vs.length = ps.length) :
    ∃ fd : FuncData, Binds K fd ps [] ∧ ∀ (base : Heap), (∀ (f : Addr) (cdv : Value) (A : Around) (outer : List Env) (s : Shared) (H : Hp) (vs : List V) (Q : VK) (E : XK), (cxOf CX0 P w K mg base N x (defScope st) f cdv A outer s H E).nox.A.guards = some [] → Room k (A.deeper (envOfC x (defScope st) s.heap.objs.size f cdv)) → sp vs H Q E →
      ∃ t, PSs (cxOf CX0 P w K mg base N x (defScope st) f cdv A outer s H E).nox (defBody st) t ∧ t { nx := fun _ H' => Q .non H', rt := Q } (start N vs) H) → FnG P w K mg base CX0 (k + 1) fa fd ps sp := by
  obtain ⟨f, fd, F, m⟩ := D.ex
  rw [hm] at m
  cases m
  exact ⟨fd, F.binds b, fun base hb => fnG_of F S len fun cdv A outer s H vs Q E g hr h =>
    let ⟨t, a, q⟩ := hb _ cdv A outer s H vs Q E (guards_deeper g) hr h
    ⟨t, a.nox, q⟩⟩
theorem MetK.met (D : MetK K C m qual st) (S : FnScope N ps (defScope st)) (b : BindOk m qual st ps) (len : ∀ vs H Q E, sp vs H Q E → vs.length = ps.length) (hb : ∀ f, BodyOk CX0 P w K mg base N qual st f k sp) : Met P w K mg base CX0 (k + 1) C m sp :=
  let ⟨f, fd, F, a, i⟩ := D.ex
  ⟨f, fd, ps, F.ok S len (hb f), a, i, F.kp, F.binds b⟩
theorem PrpK.prp (D : PrpK K C m qual st) (S : FnScope N ps (defScope st)) (b : BindOk m qual st ps) (len : ∀ vs H Q E, sp vs H Q E → vs.length = ps.length) (hb : ∀ f, BodyOk CX0 P w K mg base N qual st f k sp) : Prp P w K mg base CX0 (k + 1) C m sp :=
  let ⟨p, f, fd, F, a⟩ := D.ex
  ⟨p, f, fd, ps, F.ok S len (hb f), a, F.binds b⟩
theorem CmtK.cmt (D : CmtK K C mc m qual st) (S : FnScope N ps (defScope st)) (b : BindOk m qual st ps) (len : ∀ vs H Q E, sp vs H Q E → vs.length = ps.length) (hb : ∀ f, BodyOk CX0 P w K mg base N qual st f k sp) : Cmt P w K mg base CX0 (k + 1) C mc m sp :=
  let ⟨p, f, fd, F, r, a⟩ := D.ex
  ⟨p, f, fd, ps, F.ok S len (hb f), r, a, F.binds b⟩
end

section
variable {X : Cx} {k j : Nat} {C : Addr} {mc : Value} {x m : Str} {sp : Sp} {p pos apos : Pos} {e o : Expr} {es : List Expr} {ta : TE} {t : TA}
theorem pe_c (c : Cal X.prog X.w X.K X.mg X.base CX0 k x sp) (hr : Room j X.A) (hk : k ≤ j) (hg : Gl X x) (ha : PA X (e :: es) t)
    (hdb : (x == ("__debug__" : Str)) = false := by decide) (he : starEach (e :: es) X.env = (false, eval e X.env) :: starEach es X.env := by rfl) (hpl : (backTo pos (starEach es X.env)).any (·.1) = false := by rfl) :
    PE X (.Call (.Name x p) (e :: es) [] pos) (tCall sp [] E0 t) := by
  obtain ⟨f, fd, ps, F, hm, kp, b⟩ := c.ex
  exact pe_call F (hr.mono hk) hg hm kp b .nil pass0 ha hdb he hpl
theorem pe_cG (c : CalG X.prog X.w X.K X.mg X.base CX0 k x sp) (g : X.A.guards = some []) (hr : Room j X.A) (hk : k ≤ j) (hg : Gl X x) (ha : PA X (e :: es) t)
    (hdb : (x == ("__debug__" : Str)) = false := by decide) (he : starEach (e :: es) X.env = (false, eval e X.env) :: starEach es X.env := by rfl) (hpl : (backTo pos (starEach es X.env)).any (·.1) = false := by rfl) :
    PE X (.Call (.Name x p) (e :: es) [] pos) (tCall sp [] E0 t) := by
  obtain ⟨f, fd, ps, F, hm, kp, b⟩ := c.ex
  exact pe_callG F g (hr.mono hk) hg hm kp b .nil pass0 ha hdb he hpl
/-- a class that is made by its name -/
structure Mak (P : Program) (w : World) (K : PySem.W.Frag) (mg : Str → Option Value) (base : Heap) (CX : CXT) (k : Nat) (x : Str) (C : Addr) (sp : Sp) : Prop where
  mg_ : mg x = some (.ref C)
  mks : PySem.W.makesIn K C = true
  kp : PySem.W.keepIn K (.ref C) = true
  init : Met P w K mg base CX k C "__init__" sp
theorem pe_mk (c : Mak X.prog X.w X.K X.mg X.base CX0 k x C sp) (hr : Room j X.A) (hk : k + 1 ≤ j) (hg : Gl X x) (ha : PA X (e :: es) t)
    (hdb : (x == ("__debug__" : Str)) = false := by decide) (he : starEach (e :: es) X.env = (false, eval e X.env) :: starEach es X.env := by rfl) (hpl : (backTo pos (starEach es X.env)).any (·.1) = false := by rfl) :
    PE X (.Call (.Name x p) (e :: es) [] pos) (tMake C sp [] E0 t) := by
  obtain ⟨f, fd, ps, F, a, i, kp, b⟩ := c.init.ex
  exact pe_make ⟨c.mks, a, i, c.kp⟩ F (hr.mono hk) hg c.mg_ b .nil pass0 ha hdb he hpl
theorem pe_mkL {i : Nat} (c : Mak X.prog X.w X.K X.mg X.base CX0 k m C sp) (hr : Room j X.A) (hk : k + 1 ≤ j) (hN : X.N[i]? = some x) (hv : Vis X.env.scope x) (ha : PA X (e :: es) t)
    (hdb : (x == ("__debug__" : Str)) = false := by decide) (hcd : (x == ("__classdict__" : Str)) = false := by decide)
    (he : starEach (e :: es) X.env = (false, eval e X.env) :: starEach es X.env := by rfl) (hpl : (backTo pos (starEach es X.env)).any (·.1) = false := by rfl) : PE X (.Call (.Name x p) (e :: es) [] pos) (tMakeL i C sp [] E0 t) := by
  obtain ⟨f, fd, ps, F, a, b', kp, b⟩ := c.init.ex
  exact pe_makeL ⟨c.mks, a, b', c.kp⟩ F (hr.mono hk) hN hv b .nil pass0 ha hdb hcd he hpl
theorem pe_m {pl : Sem Bool} (c : Met X.prog X.w X.K X.mg X.base CX0 k C m sp) (cl : Cls X.K C) (hr : Room j X.A) (hk : k ≤ j) (he : PE X o ta) (ha : PA X (e :: es) t)
    (hst : starEach (e :: es) X.env = (false, eval e X.env) :: starEach es X.env := by rfl) (hpl : (backTo pos (starEach es X.env)).any (·.1) = false := by rfl)
    (ht : eval (.Call (.Attribute o m apos) (e :: es) [] pos) X.env = (do
      let ov ← eval o X.env
      standAt apos.atName
      let (f, first) ← holding [ov] (getMethod ov m pl)
      callWith pos f first (backTo pos (starEach (e :: es) X.env)) (backToKw pos (keywordEach [] X.env))) := by rfl) :
    PE X (.Call (.Attribute o m apos) (e :: es) [] pos) (tMeth C m sp [] E0 ta t) := by
  obtain ⟨f, fd, ps, F, a, i, kp, b⟩ := c.ex
  exact pe_meth (pl := pl) he cl ⟨a, i, kp⟩ F (hr.mono hk) b .nil pass0 ha hst hpl ht
theorem pe_p (c : Prp X.prog X.w X.K X.mg X.base CX0 k C m sp) (cl : Cls X.K C) (hr : Room j X.A) (hk : k + 1 ≤ j) (he : PE X o ta)
    (hab : attributeBase o m X.env (eval o X.env) = eval o X.env := by rfl) : PE X (.Attribute o m pos) (tProp C sp [] E0 ta) := by
  obtain ⟨q, f, fd, ps, F, a, b⟩ := c.ex
  exact pe_prop he cl a F (hr.mono hk) b .nil pass0 hab
theorem op_c {op : CmpOp} {m : Str} (c : Met X.prog X.w X.K X.mg X.base CX0 k C m sp) (hr : Room j X.A) (hk : k ≤ j) (hm : m = (cmpInfo op).2.1 := by rfl)
    (hc : ∀ v u, compareOp op v u = richCompare op v u := by intro _ _; rfl) : OpR X (compareOp op) (rOwn X.K C sp E0) := by
  subst hm
  obtain ⟨f, fd, ps, F, a, i, kp, b⟩ := c.ex
  exact op_own F (hr.mono hk) ⟨a, i⟩ b pass0 hc
theorem op_b {op : Operator} {m : Str} (c : Met X.prog X.w X.K X.mg X.base CX0 k C m sp) (sf : PySem.W.selfFirst X.K C = true) (hr : Room j X.A) (hk : k ≤ j) (hm : m = PySem.dunder op.info.2 := by rfl) : OpR X (binaryOp op) (rOwnB C sp E0) := by
  subst hm
  obtain ⟨f, fd, ps, F, a, i, kp, b⟩ := c.ex
  exact op_ownB F (hr.mono hk) ⟨a, i⟩ sf b pass0
theorem op_in (c : Met X.prog X.w X.K X.mg X.base CX0 k C "__contains__" sp) (hr : Room j X.A) (hk : k ≤ j) : OpR X (compareOp .In) (rOwnIn C sp E0) := by
  obtain ⟨f, fd, ps, F, a, i, kp, b⟩ := c.ex
  exact op_ownIn F (hr.mono hk) ⟨a, i⟩ b pass0
theorem op_notIn (c : Met X.prog X.w X.K X.mg X.base CX0 k C "__contains__" sp) (hr : Room j X.A) (hk : k ≤ j) : OpR X (compareOp .NotIn) (rOwnNotIn C sp E0) := by
  obtain ⟨f, fd, ps, F, a, i, kp, b⟩ := c.ex
  exact op_ownNotIn F (hr.mono hk) ⟨a, i⟩ b pass0
/-- a name of the module, by its value; a built-in type by its name -/
theorem pe_gc {v : V} (hg : Gl X x) (h : ∃ u, X.mg x = some u ∧ L2.RelV v u) (hd : (x == ("__debug__" : Str)) = false := by decide) : PE X (.Name x pos) (tC v) := by
  obtain ⟨u, hm, r⟩ := h
  exact pe_glob hg hm r hd
theorem pe_ty {n : String} (hg : Gl X x) (hm : X.mg x = none) (hv : bootBuiltins x = some (.type n)) (hn : x ≠ "__name__" := by decide) (hd : (x == ("__debug__" : Str)) = false := by decide) : PE X (.Name x pos) (tC (.ty n)) :=
  pe_bltn (v := .ty n) (u := .type n) hg hm hv rfl hn hd
theorem pe_cm0 {pl : Sem Bool} (c : Cmt X.prog X.w X.K X.mg X.base CX0 k C mc m sp) (hr : Room j X.A) (hk : k ≤ j) (he : PE X o ta)
    (ht : eval (.Call (.Attribute o m apos) [] [] pos) X.env = (do
      let ov ← eval o X.env
      standAt apos.atName
      let (f, first) ← holding [ov] (getMethod ov m pl)
      callWith pos f first (backTo pos (starEach [] X.env)) (backToKw pos (keywordEach [] X.env))) := by rfl) :
    PE X (.Call (.Attribute o m apos) [] [] pos) (ClX.tCMeth C (fun vs H Q E => sp (vs ++ []) H Q E) E0 ta tNil) := by
  obtain ⟨q, f, fd, ps, F, r, a, b⟩ := c.ex
  exact pe_cmeth0 (pl := pl) he r a (F.raw b .nil) (hr.mono hk) pass0 ht
end
end Jg

/-! set(xs) of a list of ints -/
namespace Jg
open PySem PySem.Spec PyProof.Rows L2
/-- a set just made -/
def mtSet (w : World) : Obj := { cls := .type "set", dict := none, data := .set #[] 0 (.fresh 0 0 (!w.params.followText "set-order")) }
section
variable {P : Program} {w : World} {A : Around} {E : Value → Shared → Prop} {s : Shared}
/-- what stands behind set(xs): a new set of the ints -/
abbrev SetDone (w : World) (s : Shared) (ns : List Int) (s₂ : Shared) : Prop :=
  ∃ h' tk c, s₂ = { s with heap := h', toks := tk } ∧ SetR w h' s.heap.objs.size (fun j => decide (j ∈ ns)) c ∧ c ≤ ns.length ∧ ∀ b o, s.heap.get? b = some o → h'.get? b = some o
theorem mt_at (w : World) (h : Heap) : (h.push (mtSet w)).get? h.objs.size = some (mtSet w) := Heap.get?_push_size _ rfl
set_option maxHeartbeats 8000000 in
theorem set_of_list {l : Addr} {items : Array Value} (ns : List Int) {Q : Value → Shared → Prop} (hh : A.handled = none) (hl : s.heap.IsList l items) (hit : IntsAre items.toList ns) (hb : ns.length + 1 < scanBound)
    (h : ∀ s₂, SetDone w s ns s₂ → Q (.ref s.heap.objs.size) s₂) : wpAny (model P w) A (call (.type "set") [.ref l]) Q E s := by
  have hsz : items.size = ns.length := (Array.length_toList (xs := items)).symm.trans (IntsAre.length hit)
  obtain ⟨c, tl, hmro⟩ := F.called_set.mro
  have m1 := F.called_set.made
  have m2 := F.called_set.sub
  have m3 := F.called_set.notType
  have m4 := F.called_set.canCreate
  have m5 := F.typeCall_set_1 (.ref l)
  refine wpAny_call (codeAny_of_tree (show wpAny _ _ (callAny (.type "set") _) _ _ _ from wpAny_pure ⟨Code.quiet_builtin _ (by decide +kernel), codeAny_builtin F.entry_type_call ?_⟩))
  rw [Around.under_plain (weight_type_call_type "set" [.ref l] []) rfl]
  repeat (any_goals (first | assumption | wp_step))
  refine codeAny_mono (code_set_led1 (.ref l) (E := E) (Q₁ := fun obj s₁ => obj = .ref s.heap.objs.size ∧ s₁ = { s with heap := s.heap.push (mtSet w) }) ⟨rfl, rfl⟩) fun r s₁ hr => ?_
  match r, hr with
  | .error e, hr => exact hr
  | .ok (.ret obj), hr =>
    obtain ⟨rfl, rfl⟩ := hr
    have new := mt_at w s.heap
    have ty : Shared.TypeIs { s with heap := s.heap.push (mtSet w) } (.ref s.heap.objs.size) "set" := ⟨_, new, rfl⟩
    have m6 := F.called_set.init.lookup
    have m7 := F.called_set.init.bind (.ref s.heap.objs.size)
    repeat (any_goals (first | assumption | wp_step))
    refine codeAny_mono (codeAny_call_builtin (R := wants (fun r s₂ => r = .none ∧ SetDone w s ns s₂) E) F.called_set.init.plain F.entry_set_init (check_set_init_1 ty ?_)) fun r₂ s₂ hr₂ => ?_
    · obtain ⟨⟨ocls, odict, odata, oslots⟩, hol, hcl, nl, hdl⟩ := hl
      simp only at hcl hdl
      subst hcl; subst hdl
      have lt : l < s.heap.objs.size := Heap.lt_size hol
      have old : (s.heap.push (mtSet w)).get? l = some { cls := .type "list", dict := odict, data := .seq items nl, slots := oslots } := Heap.get?_push_of_some _ hol
      have il : (s.heap.push (mtSet w)).IsList l items := ⟨_, old, rfl, nl, rfl⟩
      have n1 := F.sub_list_set
      have n2 := F.sub_list_frozenset
      have n3 : (Value.type "list" == Value.type "dict") = false := by decide
      have sz : (s.heap.push (mtSet w)).objs.size = s.heap.objs.size + 1 := Heap.size_push ..
      unfold Builtin.«set.__init__» noKeywords Builtin.Frozenset.updateFrom
      generalize hPI : pyIter = PI
      wp_walk
      subst hPI
      refine wpAny_pyIter_list il (wpAny_bind (wpAny_runValue ?_))
      have apart : l ≠ (s.heap.push (mtSet w)).objs.size := by rw [sz]; exact Nat.ne_of_lt (Nat.lt_succ_of_lt lt)
      refine set_update_ints (P := P) (w := w) ((Walks.list (show A.in1.in1.in1.handled = none by simp [hh]) _ l apart items).toS) s.heap.objs.size ?_ ns hsz hb (fun i v hv => ?_) (items.size - 0) 0 _ (by omega) (Nat.zero_le _)
        ⟨⟨_, Heap.get?_push_size _ rfl, rfl, rfl⟩, il.push _⟩ ⟨0, Nat.le_refl 0, setR_new_at (Heap.get?_push_of_some _ new)⟩ fun s' c' hm hc' hS' => ?_
      · rw [sz]
        intro z
        rcases List.mem_cons.mp z with z | z
        · exact absurd z (Nat.ne_of_lt (Nat.lt_succ_self _))
        · rcases List.mem_cons.mp z with z | z
          · exact absurd z (Nat.ne_of_gt lt)
          · cases z
      · have hi : i < ns.length := by rw [← hsz]; exact (Array.getElem?_eq_some_iff.mp hv).1
        obtain ⟨t, e⟩ := PyProof.Rows.IntsAre.int_at hit i v (by rw [Array.getElem?_toList]; exact hv)
        exact ⟨ns[i], t, List.getElem?_eq_getElem hi, by rw [e, List.getD_eq_getElem?_getD, List.getElem?_eq_getElem hi] <;> rfl⟩
      · obtain ⟨h', g2, d', tk', os'⟩ := s'
        obtain rfl : g2 = s.gens := hm.gens
        obtain rfl : d' = s.drawn := hm.drawn
        obtain rfl : os' = s.os := hm.os
        refine wpAny_pure (show wpAny _ _ (ret Value.none) _ _ _ from wpAny_pure ⟨rfl, h', tk', c', rfl, hS', by omega, fun b o e => ?_⟩)
        have lb : b < s.heap.objs.size := Heap.lt_size e
        refine hm.heap b o (fun z => ?_) (Heap.get?_push_of_some _ (Heap.get?_push_of_some _ e))
        rcases List.mem_cons.mp z with z | z
        · exact absurd z (Nat.ne_of_lt lb)
        · rcases List.mem_cons.mp z with z | z
          · rw [sz] at z
            exact absurd z (Nat.ne_of_lt (Nat.lt_succ_of_lt lb))
          · cases z
    · match r₂, hr₂ with
      | .error e, hr₂ => exact hr₂
      | .ok (.ret r), hr₂ =>
        obtain ⟨rfl, done⟩ := hr₂
        repeat (any_goals (first | assumption | wp_step))
        exact h _ done
end
/-- set(xs) -/
def rSetL (K : PySem.W.Frag) (w : World) : List V → Hp → VK → Prop := fun xs H Q => ∃ (a : Addr) (ns : List Int), xs = [.ref a] ∧ SqL K H a (ns.map V.int) ∧ ns.length + 1 < scanBound ∧
  ∀ p c, H p = none → c ≤ ns.length → Q (.ref p) (upd H p (SetO w p (fun j => decide (j ∈ ns)) c))
theorem ints_of : ∀ {ns : List Int} {us : List Value}, Vals (ns.map V.int) us → IntsAre us ns
  | [], [], .nil => .nil
  | n :: _, _ :: _, .cons ⟨t, e⟩ r => by
    subst e
    exact .cons n t (ints_of r)
theorem cr_setL {X : Cx} (hc : X.calm = true) : CallR X (.type "set") (rSetL X.K X.w) := by
  intro pins s σ H xs us Q I r h
  obtain ⟨a, ns, rfl, hs, hb, q⟩ := h
  obtain ⟨u, rfl, ru⟩ := vals1 r
  cases ru
  obtain ⟨its, rv, p, hz⟩ := I.list hs
  refine set_of_list ns (I.ok.hd hc) p.isList (by simpa using ints_of rv) hb fun s₂ ⟨h', tk, c, e, R, hc', k⟩ => ?_
  subst e
  exact ⟨.ref s.heap.objs.size, _, I.laid (t' := tk) k (Nat.le_refl _) (setO_new R), rfl, q _ c (I.hok.fresh (Nat.le_refl _)) hc'⟩
end Jg

/-! comprehensions that filter ints: [m for m in .. if test], the test pure -/
namespace Jg
open PySem PySem.Spec PyProof.Rows L2
def win (lo : Int) (n : Nat) : List Int := (List.range n).map fun j => lo + (j : Nat)
theorem win_succ (lo : Int) (n : Nat) : win lo (n + 1) = win lo n ++ [lo + (n : Nat)] := by
  unfold win
  rw [List.range_succ, List.map_append]; rfl
theorem win_len (lo : Int) (n : Nat) : (win lo n).length = n := by unfold win; simp
/-- the shape that a list comprehension's reading asks -/
abbrev LcAsk (J : It) (g : TG) (tt : TT) (te : TE) (vs : List Nat) (σ : L2.St) (H1 : Hp) (D : Addr) (Qd : Hp → Prop) : Prop :=
  ∃ W : Nat → Nat → Hp → Prop, (∃ m, W 0 m (upd H1 D (.lst []))) ∧ ∀ i m H, W i m H →
      (J.stop i H ∧ Qd H) ∨ (J.go i H ∧ ∃ Nx : Hp → Prop, (∀ H', Nx H' → ∃ m', m' < m ∧ W (i + 1) m' H') ∧ ∀ x H', J.yld i H x H' → g x (wipe σ vs) H' fun σ2 H2 => wipe σ2 vs = wipe σ vs ∧ tt σ2 H2 fun b H3 =>
        if b = true then te σ2 H3 fun y H4 => ∃ acc, H4 D = some (.lst acc) ∧ acc.length < sizeLine ∧ Nx (upd H4 D (.lst (acc ++ [y]))) else Nx H3)
section
variable {i : Nat} {tt : TT} {σ : L2.St} {H1 : Hp} {D : Addr} {Qd : Hp → Prop} {vs : List Nat}
theorem filt_step {p : Int → Bool} {ms : List Int} {m : Int} (nD : H1 D = none) (hl : ms.length < 1000) (hw : wipe ((wipe σ vs).set i (some (.int m))) vs = wipe σ vs) (hi : ((wipe σ vs).set i (some (.int m)))[i]? = some (some (.int m)))
    (ht : ∀ H (k : Bool → Hp → Prop), Same H1 H → k (p m) H → tt ((wipe σ vs).set i (some (.int m))) H k) (Pv : Hp → Prop) (hP : Pv (upd H1 D (.lst (((ms ++ [m]).filter p).map V.int)))) :
    gName i (.int m) (wipe σ vs) (upd H1 D (.lst ((ms.filter p).map V.int))) fun σ2 H2 => wipe σ2 vs = wipe σ vs ∧ tt σ2 H2 fun b H3 =>
      if b = true then tVar i σ2 H3 fun y H4 => ∃ acc, H4 D = some (.lst acc) ∧ acc.length < sizeLine ∧ Pv (upd H4 D (.lst (acc ++ [y]))) else Pv H3 := by
  refine ⟨hw, ht _ _ (fun b o e => by rw [upd_ne (ne_of_none e nD)]; exact e) ?_⟩
  have e1 : (ms ++ [m]).filter p = ms.filter p ++ [m].filter p := List.filter_append ..
  cases hp : p m with
  | true =>
    have e2 : [m].filter p = [m] := by simp [List.filter, hp]
    rw [e1, e2, List.map_append] at hP
    refine iteT ⟨.int m, hi, _, upd_same, ?_, ?_⟩
    · rw [List.length_map]
      exact small1000 (Nat.le_trans (List.length_filter_le ..) (Nat.le_of_lt hl))
    · rw [upd_upd]
      exact hP
  | false =>
    have e2 : [m].filter p = [] := by simp [List.filter, hp]
    rw [e1, e2, List.append_nil] at hP
    exact iteF hP
theorem lcf_range {lo : Int} {n : Nat} (p : Int → Bool) (nD : H1 D = none) (hn : n ≤ 900) (hw : ∀ m : Int, wipe ((wipe σ vs).set i (some (.int m))) vs = wipe σ vs) (hi : ∀ m : Int, ((wipe σ vs).set i (some (.int m)))[i]? = some (some (.int m)))
    (ht : ∀ (m : Int) H (k : Bool → Hp → Prop), m ∈ win lo n → Same H1 H → k (p m) H → tt ((wipe σ vs).set i (some (.int m))) H k) (hd : Qd (upd H1 D (.lst (((win lo n).filter p).map V.int)))) :
    LcAsk (Itr lo n) (gName i) tt (tVar i) vs σ H1 D Qd := by
  refine lc_range (lo := lo) (n := n) (fun j H => H = upd H1 D (.lst (((win lo j).filter p).map V.int))) rfl (fun j H hj e => ?_) fun H e => e ▸ hd
  subst e
  have hm : lo + (j : Nat) ∈ win lo n := List.mem_map.mpr ⟨j, List.mem_range.mpr hj, rfl⟩
  exact filt_step (p := p) nD (by rw [win_len]; omega) (hw _) (hi _) (fun H k => ht _ H k hm) (fun H => H = upd H1 D (.lst (((win lo (j + 1)).filter p).map V.int))) (by rw [win_succ])
theorem lcf_list {K : PySem.W.Frag} {a : Addr} {ms : List Int} (p : Int → Bool) (hs : SqL K H1 a (ms.map V.int)) (nD : H1 D = none) (hn : ms.length ≤ 900) (hw : ∀ m : Int, wipe ((wipe σ vs).set i (some (.int m))) vs = wipe σ vs) (hi : ∀ m : Int, ((wipe σ vs).set i (some (.int m)))[i]? = some (some (.int m)))
    (ht : ∀ (m : Int) H (k : Bool → Hp → Prop), m ∈ ms → Same H1 H → k (p m) H → tt ((wipe σ vs).set i (some (.int m))) H k) (hd : Qd (upd H1 D (.lst ((ms.filter p).map V.int)))) :
    LcAsk (Itl K a) (gName i) tt (tVar i) vs σ H1 D Qd := by
  have sn : ∀ o, Same H1 (upd H1 D o) := fun o b u e => by rw [upd_ne (ne_of_none e nD)]; exact e
  refine lc_list (K := K) (a := a) (xs := ms.map V.int) (fun j H => H = upd H1 D (.lst (((ms.take j).filter p).map V.int))) rfl (fun j H _ e => e ▸ (sn _).seq hs) (fun j x H hx e => ?_) fun H e => ?_
  · subst e
    rw [List.getElem?_map] at hx
    cases hm : ms[j]? with
    | none => rw [hm] at hx; cases hx
    | some m =>
      rw [hm] at hx
      cases hx
      have e2 : ms.take (j + 1) = ms.take j ++ [m] := by rw [List.take_add_one, hm]; rfl
      exact filt_step (p := p) nD (by rw [List.length_take]; omega) (hw _) (hi _) (fun H k => ht _ H k (List.mem_of_getElem? hm)) (fun H => H = upd H1 D (.lst (((ms.take (j + 1)).filter p).map V.int))) (by rw [e2])
  · rw [List.length_map, List.take_length] at e
    exact e ▸ hd
end
/-! ### strictly sorted lists of ints -/
theorem sorted_ext : ∀ {xs ys : List Int}, xs.Pairwise (· < ·) → ys.Pairwise (· < ·) → (∀ k, k ∈ xs ↔ k ∈ ys) → xs = ys
  | [], [], _, _, _ => rfl
  | [], y :: ys, _, _, h => absurd ((h y).mpr List.mem_cons_self) (by simp)
  | x :: xs, [], _, _, h => absurd ((h x).mp List.mem_cons_self) (by simp)
  | x :: xs, y :: ys, h1, h2, h => by
    obtain ⟨a1, a2⟩ := List.pairwise_cons.mp h1
    obtain ⟨b1, b2⟩ := List.pairwise_cons.mp h2
    have e : x = y := by
      have m1 := (h x).mp List.mem_cons_self
      have m2 := (h y).mpr List.mem_cons_self
      rcases List.mem_cons.mp m1 with z | z
      · exact z
      · rcases List.mem_cons.mp m2 with z' | z'
        · exact z'.symm
        · have := b1 x z
          have := a1 y z'
          omega
    subst e
    have t : xs = ys := sorted_ext a2 b2 fun k => by
      constructor
      · intro hk
        rcases List.mem_cons.mp ((h k).mp (List.mem_cons_of_mem _ hk)) with z | z
        · have := a1 k hk; omega
        · exact z
      · intro hk
        rcases List.mem_cons.mp ((h k).mpr (List.mem_cons_of_mem _ hk)) with z | z
        · have := b1 k hk; omega
        · exact z
    rw [t]
theorem win_sorted (lo : Int) (n : Nat) : (win lo n).Pairwise (· < ·) := by
  unfold win
  rw [List.pairwise_map]
  exact List.pairwise_lt_range.imp fun h => by omega
theorem mem_win {lo : Int} {n : Nat} {m : Int} : m ∈ win lo n ↔ lo ≤ m ∧ m < lo + n := by
  unfold win
  constructor
  · intro h
    obtain ⟨j, hj, rfl⟩ := List.mem_map.mp h
    have := List.mem_range.mp hj
    omega
  · intro h
    exact List.mem_map.mpr ⟨(m - lo).toNat, List.mem_range.mpr (by omega), by omega⟩
/-- the last item, the first one given -/
def lastOf (x : Int) : List Int → Int
  | [] => x
  | y :: r => lastOf y r
/-- how many there are at most between the first and the last, and when all of them are there -/
theorem tight : ∀ (x : Int) (l : List Int), (x :: l).Pairwise (· < ·) → x ≤ lastOf x l ∧ ((x :: l).length : Int) ≤ lastOf x l - x + 1 ∧ (((x :: l).length : Int) = lastOf x l - x + 1 ↔ ∀ m, x ≤ m → m ≤ lastOf x l → m ∈ x :: l)
  | x, [], _ => by
    refine ⟨Int.le_refl _, by show (1 : Int) ≤ x - x + 1; omega, ⟨fun _ m h1 h2 => ?_, fun _ => by show (1 : Int) = x - x + 1; omega⟩⟩
    have h3 : m ≤ x := h2
    have e : m = x := by omega
    rw [e]; exact List.mem_cons_self
  | x, y :: r, h => by
    obtain ⟨a1, a2⟩ := List.pairwise_cons.mp h
    have hxy := a1 y List.mem_cons_self
    obtain ⟨i1, i2, i3⟩ := tight y r a2
    have el : lastOf x (y :: r) = lastOf y r := rfl
    have en : ((x :: y :: r).length : Int) = ((y :: r).length : Int) + 1 := by simp
    rw [el, en]
    refine ⟨by omega, by omega, ⟨fun e m h1 h2 => ?_, fun q => ?_⟩⟩
    · have e1 : y = x + 1 := by omega
      by_cases c : m = x
      · rw [c]; exact List.mem_cons_self
      · exact List.mem_cons_of_mem _ (i3.mp (by omega) m (by omega) h2)
    · have e1 : y = x + 1 := by
        have m1 := q (x + 1) (by omega) (by omega)
        rcases List.mem_cons.mp m1 with z | z
        · omega
        · rcases List.mem_cons.mp z with z | z
          · exact z.symm
          · have := (List.pairwise_cons.mp a2).1 _ z
            omega
      have e2 := i3.mpr fun m h1 h2 => by
        rcases List.mem_cons.mp (q m (by omega) h2) with z | z
        · omega
        · exact z
      omega
theorem lastOf_get : ∀ (x : Int) (l : List Int), (x :: l)[l.length]? = some (lastOf x l)
  | x, [] => rfl
  | x, y :: r => by
    show (y :: r)[r.length]? = _
    exact lastOf_get y r
end Jg

/-! lists and tuples of ints as data: == and what it asks -/
namespace Jg
open PySem PySem.Spec PyProof.Rows L2
theorem lay_ints : ∀ xs : List Int, PyData.canLayAll0 (xs.map PyData.int) = true
  | [] => rfl
  | x :: xs => by
    show (PyData.canLay0 (.int x) && PyData.canLayAll0 (xs.map PyData.int)) = true
    rw [lay_ints xs]; rfl
theorem depth_ints : ∀ xs : List Int, PyData.depthAll (xs.map PyData.int) = 0
  | [] => rfl
  | x :: xs => by
    show max (PyData.depth (.int x)) (PyData.depthAll (xs.map PyData.int)) = 0
    rw [depth_ints xs]; rfl
theorem shaped_ints (xs : List Int) : SeqAt.shaped (.list (xs.map PyData.int)) = true := by
  show (PyData.canLayAll0 (xs.map PyData.int) && decide (PyData.depthAll (xs.map PyData.int) + 1 ≤ 64)) = true
  rw [lay_ints, depth_ints]; rfl
theorem shaped_tup (xs : List Int) : SeqAt.shaped (.tuple (xs.map PyData.int)) = true := by
  show (PyData.canLayAll0 (xs.map PyData.int) && decide (PyData.depthAll (xs.map PyData.int) + 1 ≤ 64)) = true
  rw [lay_ints, depth_ints]; rfl
theorem eqvAll_ints : ∀ xs ys : List Int, PyData.eqvAll (xs.map PyData.int) (ys.map PyData.int) = decide (xs = ys)
  | [], [] => rfl
  | [], y :: ys => rfl
  | x :: xs, [] => rfl
  | x :: xs, y :: ys => by
    have ih := eqvAll_ints xs ys
    show (PyData.eqv (.int x) (.int y) && PyData.eqvAll (xs.map PyData.int) (ys.map PyData.int)) = _
    rw [ih]
    have e : PyData.eqv (.int x) (.int y) = decide (x = y) := by
      by_cases c : x = y
      · subst c; simp [PyData.eqv]
      · simp [PyData.eqv, c]
    rw [e]
    by_cases c : x = y
    · subst c
      by_cases d : xs = ys
      · subst d; simp
      · simp [d]
    · simp [c]
theorem eqv_ints (xs ys : List Int) : PyData.eqv (.list (xs.map PyData.int)) (.list (ys.map PyData.int)) = decide (xs = ys) := by
  rw [PyData.eqv]; exact eqvAll_ints xs ys
theorem eqv_tup (xs ys : List Int) : PyData.eqv (.tuple (xs.map PyData.int)) (.tuple (ys.map PyData.int)) = decide (xs = ys) := by
  rw [PyData.eqv]; exact eqvAll_ints xs ys
theorem dpAll_ints {K : PySem.W.Frag} {H : Hp} : ∀ xs : List Int, DpAll K H (xs.map V.int) (xs.map PyData.int)
  | [] => .nil
  | x :: xs => .cons (.int x) (dpAll_ints xs)
theorem dp_ints {K : PySem.W.Frag} {H : Hp} {a : Addr} {xs : List Int} (h : SqL K H a (xs.map V.int)) : Dp K H (.ref a) (.list (xs.map PyData.int)) := .lst h (dpAll_ints xs)
theorem dp_tup {K : PySem.W.Frag} {H : Hp} {a : Addr} {xs : List Int} (h : SqT K H a (xs.map V.int)) : Dp K H (.ref a) (.tuple (xs.map PyData.int)) := .tup h (dpAll_ints xs)
/-- == of two lists of ints, of two tuples of ints -/
theorem ask_eqL {K : PySem.W.Frag} {H : Hp} {a b : Addr} {xs ys : List Int} {Q : VK} (h1 : SqL K H a (xs.map V.int)) (h2 : SqL K H b (ys.map V.int)) (q : Q (.bl (decide (xs = ys))) H) : rEqD K (.ref a) (.ref b) H Q :=
  ⟨_, _, dp_ints h1, dp_ints h2, shaped_ints xs, shaped_ints ys, by rw [eqv_ints]; exact q⟩
theorem ask_neL {K : PySem.W.Frag} {H : Hp} {a b : Addr} {xs ys : List Int} {Q : VK} (h1 : SqL K H a (xs.map V.int)) (h2 : SqL K H b (ys.map V.int)) (q : Q (.bl (!decide (xs = ys))) H) : rNeD K (.ref a) (.ref b) H Q :=
  ⟨_, _, dp_ints h1, dp_ints h2, shaped_ints xs, shaped_ints ys, by rw [eqv_ints]; exact q⟩
theorem ask_eqT {K : PySem.W.Frag} {H : Hp} {a b : Addr} {xs ys : List Int} {Q : VK} (h1 : SqT K H a (xs.map V.int)) (h2 : SqT K H b (ys.map V.int)) (q : Q (.bl (decide (xs = ys))) H) : rEqD K (.ref a) (.ref b) H Q :=
  ⟨_, _, dp_tup h1, dp_tup h2, shaped_tup xs, shaped_tup ys, by rw [eqv_tup]; exact q⟩
theorem pair_dec {a b c d : Int} : decide ([a, b] = [c, d]) = decide ((a, b) = (c, d)) := by
  by_cases h : (a, b) = (c, d)
  · cases h; rw [decide_eq_true rfl, decide_eq_true rfl]
  · rw [decide_eq_false h, decide_eq_false fun z => h (by injection z with z1 z2; injection z2 with z2 _; rw [z1, z2])]
/-- x in a list of ints -/
theorem inV_ints {m : Int} : ∀ {xs : List Int}, inV (.int m) (xs.map V.int) = decide (m ∈ xs)
  | [] => rfl
  | x :: xs => by
    have ih := inV_ints (m := m) (xs := xs)
    show (eqV (.int x) (.int m) || inV (.int m) (xs.map V.int)) = _
    rw [ih]
    have e : eqV (.int x) (.int m) = decide (x = m) := by
      by_cases c : x = m
      · subst c; simp [eqV]
      · simp [eqV, c]
    rw [e]
    by_cases c : x = m
    · subst c; simp
    · have c' : ¬ m = x := fun z => c z.symm
      simp [c, c']
theorem flat_ints : ∀ {xs : List Int}, (xs.map V.int).all flatV = true
  | [] => rfl
  | x :: xs => by
    show (flatV (.int x) && (xs.map V.int).all flatV) = true
    rw [flat_ints]; rfl
theorem ask_in {K : PySem.W.Frag} {H : Hp} {a : Addr} {xs : List Int} {m : Int} {Q : VK} (h : SqL K H a (xs.map V.int)) (q : Q (.bl (decide (m ∈ xs))) H) : rIn K false (.int m) (.ref a) H Q :=
  ⟨a, _, rfl, .inl h, rfl, flat_ints, by
    show Q (.bl (inV (.int m) (xs.map V.int))) H
    rw [inV_ints]; exact q⟩
theorem map_cat {K : PySem.W.Frag} {H : Hp} {a : Addr} {xs ys : List Int} (h : SqL K H a (xs.map V.int ++ ys.map V.int)) : SqL K H a ((xs ++ ys).map V.int) := by rw [List.map_append]; exact h
end Jg

namespace K03
open PySem PySem.Spec PyProof.Rows L2 Jg
local macro_rules | `(tactic| walk_at "rd1") => `(tactic| (first
  | refine ⟨_, rfl, ?_⟩
  | refine ⟨_, _, rfl, rfl, ?_⟩
  | refine ⟨_, _, rfl, ?_⟩
  | refine ⟨rfl, ?_⟩
  | (refine ⟨show (0 : Int) < _ by omega, ?_⟩)
  | (refine ⟨Or.inl ⟨by omega, by omega⟩, ?_⟩)
  | (refine ⟨Or.inr ⟨by omega, by omega⟩, ?_⟩)
  | (refine ⟨(⟨by decide, by decide, by decide⟩ : CPow _ _), ?_⟩)
  | refine Or.inl ⟨_, rfl, ?_⟩
  | refine Or.inr ⟨_, rfl, ?_⟩
  | fail "rd"))
local macro_rules | `(tactic| walk_at "rd") => `(tactic| repeat' walk_at "rd1")

def top (i : Nat) : Stmt := PySem.Challenge.pw_gaplesskeys_k03_moments_in_ranges.main.body.getD i (.Pass ⟨0, 0, 0, 0⟩)

theorem q_true {Q : VK} {b : Bool} {H : Hp} (e : b = true) (h : Q (.bl true) H) : Q (.bl b) H := e ▸ h
def B : Int := 10 ^ 60
theorem B_eq : B = 1000000000000000000000000000000000000000000000000000000000000 := by decide +kernel
/-! ### the data of a range -/
theorem klh : ¬ (("_low" : Str) = "_high") := by decide +kernel
theorem khl : ¬ (("_high" : Str) = "_low") := by decide +kernel
def flds (r : Int × Int) : List (Str × V) := [("_low", .int r.1), ("_high", .int r.2)]
theorem put_hi (lo hi : Int) : putF "_high" (.int hi) [(("_low" : Str), V.int lo)] = flds (lo, hi) := by
  show (if ("_low" : Str) = "_high" then _ else _) = _
  rw [if_neg klh]; rfl
theorem put_lo2 (r : Int × Int) (z : Int) : putF "_low" (.int z) (flds r) = flds (z, r.2) := by
  show (if ("_low" : Str) = "_low" then _ else _) = _
  rw [if_pos rfl]; rfl
theorem put_hi2 (r : Int × Int) (z : Int) : putF "_high" (.int z) (flds r) = flds (r.1, z) := by
  show (if ("_low" : Str) = "_high" then _ else _ :: (if ("_high" : Str) = "_high" then _ else _)) = _
  rw [if_neg klh, if_pos rfl]; rfl
theorem get_lo (r : Int × Int) : (flds r).lookup ("_low" : Str) = some (.int r.1) := by
  have e : ((("_low" : Str)) == ("_low" : Str)) = true := by decide +kernel
  simp only [flds, List.lookup, e]
theorem get_hi (r : Int × Int) : (flds r).lookup ("_high" : Str) = some (.int r.2) := by
  have e1 : ((("_high" : Str)) == ("_low" : Str)) = false := by decide +kernel
  have e2 : ((("_high" : Str)) == ("_high" : Str)) = true := by decide +kernel
  simp only [flds, List.lookup, e1, e2]
theorem get_no (r : Int × Int) {m : Str} (h1 : (m == ("_low" : Str)) = false) (h2 : (m == ("_high" : Str)) = false) : (flds r).lookup m = none := by
  simp only [flds, List.lookup, h1, h2]
/-- a range stands at p -/
def RAt (C : Addr) (H : Hp) (p : Addr) (r : Int × Int) : Prop := ∃ dx, H p = some (.ins C dx (flds r))
def oV : Option Int → V
  | none => .non
  | some i => .int i
/-- the pair that __init__ keeps -/
def mkR (f : Int) : Option Int → Int × Int
  | none => (f, B)
  | some l => if l < f then (-B, -B - 1) else (f, l)
def Bnd (i : Int) : Prop := -B < i ∧ i < B
def BndO : Option Int → Prop
  | none => True
  | some i => Bnd i
/-- what the walk asks of the text -/
structure Txt (K : PySem.W.Frag) (mg : Str → Option Value) (C : Addr) : Prop where
  cl : Cls K C
  nl : NoAttr K C "_low"
  nh : NoAttr K C "_high"
  sf : PySem.W.selfFirst K C = true
  cRange : mg "Range" = some (.ref C)
  gBOUND : ∃ u, mg "BOUND" = some u ∧ L2.RelV (.int B) u
  b_isinstance : mg "isinstance" = none
  b_int : mg "int" = none
  b_bool : mg "bool" = none
  b_str : mg "str" = none
  b_len : mg "len" = none
  b_max : mg "max" = none
  b_min : mg "min" = none
  b_range : mg "range" = none
  b_repr : mg "repr" = none
  b_sorted : mg "sorted" = none
  b_set : mg "set" = none
  cls_ : PySem.W.findIn K (.ref C) "__class__" = some (some (.builtin "object.__class__"))
  cgt : PySem.W.specialIn K (.builtin "object.__class__") "__get__" = some (some (.builtin "getset_descriptor.__get__"))
  ctk : PySem.W.takesIn K (.builtin "object.__class__") = some true
  mro : PySem.W.mroIn K C (.type "object") = some true
  kCC : PySem.W.kitOne K (.ref C) (.ref C) = some true
  kN : PySem.W.kitOne K (.type "NoneType") (.ref C) = some false
  kB : PySem.W.kitOne K (.type "bool") (.ref C) = some false
  kI : PySem.W.kitOne K (.type "int") (.ref C) = some false
  kS : PySem.W.kitOne K (.type "str") (.ref C) = some false
  kL : PySem.W.kitOne K (.type "list") (.ref C) = some false
  kT : PySem.W.kitOne K (.type "tuple") (.ref C) = some false
  kD : PySem.W.kitOne K (.type "dict") (.ref C) = some false
  kCi : PySem.W.kitOne K (.ref C) (.type "int") = some false
  oCC : PySem.W.notFirst K C (.ref C) = true
/-- other values than ranges and integers: what isinstance says of their types -/
structure OddTy (K : PySem.W.Frag) (C : Addr) (t : Value) : Prop where
  c : PySem.W.kitOne K t (.ref C) = some false
  i : ∃ b1 b2, PySem.W.kitOne K t (.type "int") = some b1 ∧ PySem.W.kitOne K t (.type "bool") = some b2 ∧ (b1 && !b2) = false
section
variable {K : PySem.W.Frag} {mg : Str → Option Value} {C : Addr}
theorem Txt.ty (T : Txt K mg C) {H : Hp} {p : Addr} {r : Int × Int} (h : RAt C H p r) : TyX K H (.ref p) (.ref C) :=
  let ⟨_, e⟩ := h
  .base (.ins e T.cl T.cls_ T.cgt T.ctk T.mro)
end
/-! ### promises -/
abbrev kit (K : PySem.W.Frag) (t : Value) (n : String) (b : Bool) : Prop := PySem.W.kitOne K t (.type n) = some b
def spIsInt (K : PySem.W.Frag) : Sp := fun vs H Q _ => ∃ x t b1 b2, vs = [x] ∧ TyX K H x t ∧ kit K t "int" b1 ∧ (b1 = true → kit K t "bool" b2) ∧ Q (.bl (b1 && !b2)) H
theorem kii {K : PySem.W.Frag} : kit K (.type "int") "int" true := kit_ty (by decide +kernel)
theorem kib {K : PySem.W.Frag} : kit K (.type "int") "bool" false := kit_ty (by decide +kernel)
/-- of an integer, or of a value that is none -/
def spBnd (K : PySem.W.Frag) : Sp := fun vs H Q _ => (∃ i, vs = [.int i] ∧ Q (.bl (decide (-B < i) && decide (i < B))) H) ∨
  (∃ x t b1 b2, vs = [x] ∧ TyX K H x t ∧ kit K t "int" b1 ∧ (b1 = true → kit K t "bool" b2) ∧ (b1 && !b2) = false ∧ Q (.bl false) H)
def spInit (C : Addr) : Sp := fun vs H Q _ => ∃ x dx f l, vs = [.ref x, .int f, oV l] ∧ H x = some (.ins C dx []) ∧ Bnd f ∧ BndO l ∧
  ∀ H', RAt C H' x (mkR f l) → (∀ b o, H b = some o → b ≠ x → H' b = some o) → Q .non H'
section
variable {P : Program} {w : World} {K : PySem.W.Frag} {mg : Str → Option Value} {base : Heap} {C : Addr}
abbrev s_is_integer : Stmt := top 7
theorem sc_is_integer : FnScope ["value"] ["value"] (defScope s_is_integer) := ⟨rfl, rfl, rfl, by decide +kernel, rfl, by decide +kernel, by decide +kernel⟩
theorem ok_is_integer (D : DefK K mg "is_integer" s_is_integer) (T : Txt K mg C) : Cal P w K mg base CX0 1 "is_integer" (spIsInt K) := by
  refine D.cal sc_is_integer (fun _ _ _ _ _ _ us hl => match us, hl with | [_], _ => rfl) (fun vs H Q E h => ?_) fun f cdv A outer s H vs Q E hr h => ?_
  · obtain ⟨x, t, b1, b2, rfl, _⟩ := h; rfl
  · obtain ⟨x, t, b1, b2, rfl, ty, k1, k2, q⟩ := h
    refine ⟨_, (pss_one (ps_ret (pe_and (pe_callB call_isi (by rfl) T.b_isinstance (by decide +kernel) (pa_cons (pv 0) (pa_cons (pe_ty (n := "int") (by rfl) T.b_int (by decide +kernel)) pa_nil))) (pe_one (pe_not (pe_callB call_isi (by rfl) T.b_isinstance (by decide +kernel) (pa_cons (pv 0) (pa_cons (pe_ty (n := "bool") (by rfl) T.b_bool (by decide +kernel)) pa_nil)))))))), ?_⟩
    refine ⟨_, rfl, x, .ty "int", t, _, b1, rfl, .ty "int", ty, k1, b1, rfl, ?_⟩
    cases b1 with
    | false => exact iteF q
    | true => exact iteT ⟨_, rfl, x, .ty "bool", t, _, b2, rfl, .ty "bool", ty, k2 rfl, b2, rfl, q⟩
abbrev s_is_bounded : Stmt := top 8
theorem sc_is_bounded : FnScope ["value"] ["value"] (defScope s_is_bounded) := ⟨rfl, rfl, rfl, by decide +kernel, rfl, by decide +kernel, by decide +kernel⟩
theorem ok_is_bounded (D : DefK K mg "is_bounded" s_is_bounded) (T : Txt K mg C) (G_is_integer : Cal P w K mg base CX0 1 "is_integer" (spIsInt K)) : Cal P w K mg base CX0 2 "is_bounded" (spBnd K) := by
  refine D.cal sc_is_bounded (fun _ _ _ _ _ _ us hl => match us, hl with | [_], _ => rfl) (fun vs H Q E h => ?_) fun f cdv A outer s H vs Q E hr h => ?_
  · rcases h with ⟨i, rfl, _⟩ | ⟨x, t, b1, b2, rfl, _⟩ <;> rfl
  · refine ⟨_, (pss_one (ps_ret (pe_and (pe_c G_is_integer hr (by decide) rfl (pa_cons (pv 0) pa_nil)) (pe_one (pe_chain op_lt op_lt (pe_un un_neg (pe_gc rfl T.gBOUND)) (pv 0) (pe_gc rfl T.gBOUND)))))), ?_⟩
    rcases h with ⟨i, rfl, q⟩ | ⟨x, t, b1, b2, rfl, ty, k1, k2, e, q⟩
    · refine ⟨_, rfl, .int i, _, true, false, rfl, .base (.int i), kii, fun _ => kib, true, rfl, iteT ?_⟩
      refine ⟨B, rfl, _, rfl, -B, i, rfl, rfl, _, rfl, ?_⟩
      by_cases c : -B < i
      · rw [decide_eq_true c]
        refine iteT ?_
        rw [decide_eq_true c] at q
        exact ⟨i, B, rfl, rfl, q⟩
      · rw [decide_eq_false c]
        refine iteF ?_
        rw [decide_eq_false c] at q
        exact q
    · refine ⟨_, rfl, x, t, b1, b2, rfl, ty, k1, k2, _, rfl, ?_⟩
      rw [e]
      exact iteF q
abbrev s_Range_init : Stmt := inClass (top 14) 0
theorem sc_Range_init : FnScope ["self", "first", "last"] ["self", "first", "last"] (defScope s_Range_init) := ⟨rfl, rfl, rfl, by decide +kernel, rfl, by decide +kernel, by decide +kernel⟩
theorem ok_init (D : MetK K C "__init__" "Range.__init__" s_Range_init) (T : Txt K mg C) (G_is_bounded : Cal P w K mg base CX0 2 "is_bounded" (spBnd K)) : Met P w K mg base CX0 3 C "__init__" (spInit C) := by
  refine D.met sc_Range_init (fun _ _ _ _ _ _ us hl => match us, hl with | [_, _, _], _ => rfl) (fun vs H Q E h => ?_) fun f cdv A outer s H vs Q E hr h => ?_
  · obtain ⟨x, dx, f, l, rfl, _⟩ := h; rfl
  · obtain ⟨x, dx, f, l, rfl, hx, bf, bl, q⟩ := h
    refine ⟨_, (pss_cons (ps_if (pt_not (pt_val (pe_c G_is_bounded hr (by decide) rfl (pa_cons (pv 1) pa_nil)))) (pss_one ps_never) pss_nil)
      (pss_cons (ps_if (PW.pt (pw_and (pt_cmpR op_notN (pv 2) pe_non (nomark _)) (pw_and1 (pt_not (pt_val (pe_c G_is_bounded hr (by decide) rfl (pa_cons (pv 2) pa_nil))))))) (pss_one ps_never) pss_nil)
      (pss_cons (ps_fld (pv 0) (pv 1) rfl)
      (pss_cons (ps_fld (pv 0) (pe_ifExp (pt_cmpR op_isN (pv 2) pe_non (nomark _)) (pe_gc rfl T.gBOUND) (pv 2)) rfl)
      (pss_one (ps_if (pt_cmpR op_lt (pe_fld (pv 0) rfl) (pe_fld (pv 0) rfl) (nomark _)) (pss_cons (ps_fld (pv 0) (pe_un un_neg (pe_gc rfl T.gBOUND)) rfl)
      (pss_one (ps_fld (pv 0) (pe_op op_sub (pe_un un_neg (pe_gc rfl T.gBOUND)) pe_int) rfl))) pss_nil)))))), ?_⟩
    have bB : (decide (-B < f) && decide (f < B)) = true := by rw [decide_eq_true bf.1, decide_eq_true bf.2]; rfl
    refine ⟨_, rfl, .inl ⟨f, rfl, _, rfl, ?_⟩⟩
    rw [bB]
    refine iteF ?_
    -- last is none, or a moment too
    have go : ∀ (D : Ends) (sg : L2.St), (decide (oV l = V.non) = true ∨ ∃ i, l = some i) → True := fun _ _ _ => trivial
    have npos : (0 : Nat) < 1000 := by decide
    have one : (1 : Nat) < 1000 := by decide
    have two : (2 : Nat) < 1000 := by decide
    cases l with
    | none =>
      refine ⟨_, rfl, rfl, _, rfl, iteF ?_⟩
      refine ⟨_, rfl, _, rfl, x, C, dx, [], rfl, hx, T.cl, T.nl, npos, ?_⟩
      refine ⟨_, rfl, rfl, _, rfl, iteT ⟨_, rfl, x, C, dx, _, rfl, upd_same, T.cl, T.nh, one, ?_⟩⟩
      rw [upd_upd, show putF "_low" (V.int f) [] = [(("_low" : Str), V.int f)] from rfl, put_hi]
      refine ⟨_, rfl, x, C, dx, _, _, rfl, upd_same, T.cl, T.nh, get_hi _, _, rfl, x, C, dx, _, _, rfl, upd_same, T.cl, T.nl, get_lo _, _, _, rfl, rfl, _, rfl, ?_⟩
      have nl : ¬ B < f := by have := bf.2; omega
      rw [decide_eq_false nl]
      refine iteF (q _ ⟨dx, upd_same⟩ fun b o e n => ?_)
      rw [upd_ne n]; exact e
    | some i =>
      have bi : (decide (-B < i) && decide (i < B)) = true := by rw [decide_eq_true bl.1, decide_eq_true bl.2]; rfl
      refine ⟨_, rfl, rfl, _, rfl, iteT ⟨_, rfl, .inl ⟨i, rfl, _, rfl, ?_⟩⟩⟩
      rw [bi]
      refine iteF ?_
      refine ⟨_, rfl, _, rfl, x, C, dx, [], rfl, hx, T.cl, T.nl, npos, ?_⟩
      refine ⟨_, rfl, rfl, _, rfl, iteF ⟨_, rfl, _, rfl, x, C, dx, _, rfl, upd_same, T.cl, T.nh, one, ?_⟩⟩
      rw [upd_upd, show putF "_low" (V.int f) [] = [(("_low" : Str), V.int f)] from rfl, show oV (some i) = V.int i from rfl, put_hi]
      refine ⟨_, rfl, x, C, dx, _, _, rfl, upd_same, T.cl, T.nh, get_hi _, _, rfl, x, C, dx, _, _, rfl, upd_same, T.cl, T.nl, get_lo _, _, _, rfl, rfl, _, rfl, ?_⟩
      by_cases c : i < f
      · rw [decide_eq_true c]
        refine iteT ⟨_, rfl, _, rfl, x, C, dx, _, rfl, upd_same, T.cl, T.nl, two, ?_⟩
        rw [put_lo2, upd_upd]
        refine ⟨_, rfl, _, _, rfl, rfl, _, rfl, x, C, dx, _, rfl, upd_same, T.cl, T.nh, two, ?_⟩
        rw [put_hi2, upd_upd]
        refine q _ ⟨dx, ?_⟩ fun b o e n => ?_
        · rw [upd_same]
          show some (HO.ins C dx (flds (-B, -B - 1))) = some (HO.ins C dx (flds (if i < f then (-B, -B - 1) else (f, i))))
          rw [if_pos c]
        · rw [upd_ne n]; exact e
      · rw [decide_eq_false c]
        refine iteF (q _ ⟨dx, ?_⟩ fun b o e n => ?_)
        · rw [upd_same]
          show some (HO.ins C dx (flds (f, i))) = some (HO.ins C dx (flds (if i < f then (-B, -B - 1) else (f, i))))
          rw [if_neg c]
        · rw [upd_ne n]; exact e
end

/-! ### covers, in, is_before -/
def cov (r o : Int × Int) : Bool := if o.2 < o.1 then true else decide (r.1 ≤ o.1) && decide (o.2 ≤ r.2)
def inR (r : Int × Int) (i : Int) : Bool := if i < r.1 then false else decide (r.2 = B) || decide (i ≤ r.2)
def bef (r o : Int × Int) : Bool := if r.2 < r.1 then true else if o.2 < o.1 then true else decide (r.2 < o.1)
def sp2 (C : Addr) (g : Int × Int → Int × Int → Bool) : Sp := fun vs H Q _ => ∃ p q r o, vs = [.ref p, .ref q] ∧ RAt C H p r ∧ RAt C H q o ∧ Q (.bl (g r o)) H
def spIn (K : PySem.W.Frag) (C : Addr) : Sp := fun vs H Q _ => ∃ p x r, vs = [.ref p, x] ∧ RAt C H p r ∧
  ((∃ q o, x = .ref q ∧ RAt C H q o ∧ Q (.bl (cov r o)) H) ∨ (∃ i, x = .int i ∧ Q (.bl (inR r i)) H) ∨ (∃ t, TyX K H x t ∧ OddTy K C t ∧ Q (.bl false) H))
section
variable {P : Program} {w : World} {K : PySem.W.Frag} {mg : Str → Option Value} {base : Heap} {C : Addr}
abbrev s_Range_covers : Stmt := inClass (top 14) 20
theorem sc_Range_covers : FnScope ["self", "other"] ["self", "other"] (defScope s_Range_covers) := ⟨rfl, rfl, rfl, by decide +kernel, rfl, by decide +kernel, by decide +kernel⟩
theorem ok_covers (D : MetK K C "covers" "Range.covers" s_Range_covers) (T : Txt K mg C) : Met P w K mg base CX0 1 C "covers" (sp2 C cov) := by
  refine D.met sc_Range_covers (fun _ _ _ _ _ _ us hl => match us, hl with | [_, _], _ => rfl) (fun vs H Q E h => ?_) fun f cdv A outer s H vs Q E hr h => ?_
  · obtain ⟨p, q, r, o, rfl, _⟩ := h; rfl
  · obtain ⟨p, q, r, o, rfl, ⟨dx, hp⟩, ⟨dy, hq⟩, k⟩ := h
    refine ⟨_, (pss_cons (ps_if (pt_cmpR op_gt (pe_fld (pv 1) rfl) (pe_fld (pv 1) rfl) (nomark _)) (pss_one (ps_ret pe_bl)) pss_nil)
      (pss_one (ps_ret (pe_and (pe_cmpR op_le (pe_fld (pv 0) rfl) (pe_fld (pv 1) rfl) (nomark _)) (pe_one (pe_cmpR op_le (pe_fld (pv 1) rfl) (pe_fld (pv 0) rfl) (nomark _))))))), ?_⟩
    refine ⟨_, rfl, q, C, dy, _, _, rfl, hq, T.cl, T.nl, get_lo _, _, rfl, q, C, dy, _, _, rfl, hq, T.cl, T.nh, get_hi _, _, _, rfl, rfl, _, rfl, ?_⟩
    by_cases c : o.2 < o.1
    · have e : cov r o = true := if_pos c
      rw [decide_eq_true c]
      rw [e] at k
      exact iteT k
    · have e : cov r o = (decide (r.1 ≤ o.1) && decide (o.2 ≤ r.2)) := if_neg c
      rw [decide_eq_false c]
      rw [e] at k
      refine iteF ⟨_, rfl, p, C, dx, _, _, rfl, hp, T.cl, T.nl, get_lo _, _, rfl, q, C, dy, _, _, rfl, hq, T.cl, T.nl, get_lo _, _, _, rfl, rfl, _, rfl, ?_⟩
      by_cases c2 : r.1 ≤ o.1
      · rw [decide_eq_true c2]
        rw [decide_eq_true c2] at k
        exact iteT ⟨_, rfl, q, C, dy, _, _, rfl, hq, T.cl, T.nh, get_hi _, _, rfl, p, C, dx, _, _, rfl, hp, T.cl, T.nh, get_hi _, _, _, rfl, rfl, k⟩
      · rw [decide_eq_false c2]
        rw [decide_eq_false c2] at k
        exact iteF k
abbrev s_Range_contains : Stmt := inClass (top 14) 15
theorem sc_Range_contains : FnScope ["self", "x"] ["self", "x"] (defScope s_Range_contains) := ⟨rfl, rfl, rfl, by decide +kernel, rfl, by decide +kernel, by decide +kernel⟩
theorem ok_contains (D : MetK K C "__contains__" "Range.__contains__" s_Range_contains) (T : Txt K mg C) (G_covers : Met P w K mg base CX0 1 C "covers" (sp2 C cov)) (G_is_integer : Cal P w K mg base CX0 1 "is_integer" (spIsInt K)) :
    Met P w K mg base CX0 2 C "__contains__" (spIn K C) := by
  refine D.met sc_Range_contains (fun _ _ _ _ _ _ us hl => match us, hl with | [_, _], _ => rfl) (fun vs H Q E h => ?_) fun f cdv A outer s H vs Q E hr h => ?_
  · obtain ⟨p, x, r, rfl, _⟩ := h; rfl
  · obtain ⟨p, x, r, rfl, ⟨dx, hp⟩, k⟩ := h
    refine ⟨_, (pss_cons (ps_if (pt_val (pe_callB call_isi (by rfl) T.b_isinstance (by decide +kernel) (pa_cons (pv 1) (pa_cons (pe_glob (v := .ref C) rfl T.cRange rfl) pa_nil)))) (pss_one (ps_ret (pe_m G_covers T.cl hr (by decide) (pv 0) (pa_cons (pv 1) pa_nil)))) pss_nil)
      (pss_cons (ps_if (PW.pt (pw_or (pt_not (pt_val (pe_c G_is_integer hr (by decide) rfl (pa_cons (pv 1) pa_nil)))) (pw_or1 (pt_cmpR op_lt (pv 1) (pe_fld (pv 0) rfl) (nomark _))))) (pss_one (ps_ret pe_bl)) pss_nil)
      (pss_one (ps_ret (pe_or (pe_cmpR op_eq (pe_fld (pv 0) rfl) (pe_gc rfl T.gBOUND) (nomark _)) (pe_one (pe_cmpR op_le (pv 1) (pe_fld (pv 0) rfl) (nomark _)))))))), ?_⟩
    rcases k with ⟨q, o, rfl, hq, k⟩ | ⟨i, rfl, k⟩ | ⟨t, ty, od, k⟩
    · refine ⟨_, rfl, .ref q, .ref C, _, _, true, rfl, .own C, T.ty hq, T.kCC, _, rfl, iteT ?_⟩
      exact ⟨_, rfl, p, dx, _, rfl, hp, get_no _ (by decide +kernel) (by decide +kernel), _, rfl, p, q, r, o, rfl, ⟨dx, hp⟩, hq, k⟩
    · refine ⟨_, rfl, .int i, .ref C, _, _, false, rfl, .own C, .base (.int i), T.kI, _, rfl, iteF ?_⟩
      refine ⟨_, rfl, .int i, _, true, false, rfl, .base (.int i), kii, fun _ => kib, _, rfl, iteF ?_⟩
      refine ⟨_, rfl, _, rfl, p, C, dx, _, _, rfl, hp, T.cl, T.nl, get_lo _, _, _, rfl, rfl, _, rfl, ?_⟩
      by_cases c : i < r.1
      · have e : inR r i = false := if_pos c
        rw [decide_eq_true c]
        rw [e] at k
        exact iteT k
      · have e : inR r i = (decide (r.2 = B) || decide (i ≤ r.2)) := if_neg c
        rw [decide_eq_false c]
        rw [e] at k
        refine iteF ⟨_, rfl, p, C, dx, _, _, rfl, hp, T.cl, T.nh, get_hi _, rfl, _, rfl, ?_⟩
        have ed : decide (V.int r.2 = V.int B) = decide (r.2 = B) := by
          by_cases c2 : r.2 = B
          · rw [c2]
            rw [decide_eq_true rfl, decide_eq_true rfl]
          · rw [decide_eq_false c2, decide_eq_false fun z => c2 (V.int.inj z)]
        rw [ed]
        by_cases c2 : r.2 = B
        · rw [decide_eq_true c2]
          rw [decide_eq_true c2] at k
          exact iteT k
        · rw [decide_eq_false c2]
          rw [decide_eq_false c2] at k
          exact iteF ⟨_, rfl, _, rfl, p, C, dx, _, _, rfl, hp, T.cl, T.nh, get_hi _, _, _, rfl, rfl, k⟩
    · obtain ⟨b1, b2, k1, k2, e⟩ := od.i
      refine ⟨_, rfl, x, .ref C, _, _, false, rfl, .own C, ty, od.c, _, rfl, iteF ?_⟩
      refine ⟨_, rfl, x, t, b1, b2, rfl, ty, k1, fun _ => k2, _, rfl, ?_⟩
      rw [e]
      exact iteT k
end

section
variable {P : Program} {w : World} {K : PySem.W.Frag} {mg : Str → Option Value} {base : Heap} {C : Addr}
abbrev s_Range_is_before : Stmt := inClass (top 14) 21
theorem sc_Range_is_before : FnScope ["self", "other"] ["self", "other"] (defScope s_Range_is_before) := ⟨rfl, rfl, rfl, by decide +kernel, rfl, by decide +kernel, by decide +kernel⟩
theorem ok_before (D : MetK K C "is_before" "Range.is_before" s_Range_is_before) (T : Txt K mg C) : Met P w K mg base CX0 1 C "is_before" (sp2 C bef) := by
  refine D.met sc_Range_is_before (fun _ _ _ _ _ _ us hl => match us, hl with | [_, _], _ => rfl) (fun vs H Q E h => ?_) fun f cdv A outer s H vs Q E hr h => ?_
  · obtain ⟨p, q, r, o, rfl, _⟩ := h; rfl
  · obtain ⟨p, q, r, o, rfl, ⟨dx, hp⟩, ⟨dy, hq⟩, k⟩ := h
    refine ⟨_, (pss_cons (ps_if (PW.pt (pw_or (pt_cmpR op_gt (pe_fld (pv 0) rfl) (pe_fld (pv 0) rfl) (nomark _)) (pw_or1 (pt_cmpR op_gt (pe_fld (pv 1) rfl) (pe_fld (pv 1) rfl) (nomark _))))) (pss_one (ps_ret pe_bl)) pss_nil)
      (pss_one (ps_ret (pe_cmpR op_lt (pe_fld (pv 0) rfl) (pe_fld (pv 1) rfl) (nomark _))))), ?_⟩
    refine ⟨_, rfl, p, C, dx, _, _, rfl, hp, T.cl, T.nl, get_lo _, _, rfl, p, C, dx, _, _, rfl, hp, T.cl, T.nh, get_hi _, _, _, rfl, rfl, _, rfl, ?_⟩
    by_cases c : r.2 < r.1
    · have e : bef r o = true := if_pos c
      rw [decide_eq_true c]
      rw [e] at k
      exact iteT (iteT k)
    · rw [decide_eq_false c]
      refine iteF ⟨_, rfl, q, C, dy, _, _, rfl, hq, T.cl, T.nl, get_lo _, _, rfl, q, C, dy, _, _, rfl, hq, T.cl, T.nh, get_hi _, _, _, rfl, rfl, _, rfl, ?_⟩
      by_cases c2 : o.2 < o.1
      · have e : bef r o = true := (if_neg c).trans (if_pos c2)
        rw [decide_eq_true c2]
        rw [e] at k
        exact iteT k
      · have e : bef r o = decide (r.2 < o.1) := (if_neg c).trans (if_neg c2)
        rw [decide_eq_false c2]
        rw [e] at k
        exact iteF ⟨_, rfl, p, C, dx, _, _, rfl, hp, T.cl, T.nh, get_hi _, _, rfl, q, C, dy, _, _, rfl, hq, T.cl, T.nl, get_lo _, _, _, rfl, rfl, k⟩
end

/-! ### draws -/
theorem seq_upd {K : PySem.W.Frag} {H : Hp} {l p : Addr} {xs : List V} {o : HO} (h : SqL K H l xs) (n : l ≠ p) : SqL K (upd H p o) l xs := by
  rcases h with (h | ⟨z, h⟩) | h
  · exact .inl (.inl (by rw [upd_ne n]; exact h))
  · exact .inl (.inr ⟨z, by rw [upd_ne n]; exact h⟩)
  · exact .inr h
theorem ne_dec {x y : Int} : decide (V.int x = V.int y) = decide (x = y) := by
  by_cases c : x = y
  · rw [c, decide_eq_true rfl, decide_eq_true rfl]
  · rw [decide_eq_false c, decide_eq_false fun z => c (V.int.inj z)]
def spStream (K : PySem.W.Frag) : Sp := fun vs H Q _ => ∃ (a : Addr) (ns : List Int) (k : Nat), vs = [.ref a, .int k] ∧ SqL K H a (ns.map V.int) ∧ k ≤ 1000 ∧
  ∀ p x y, H p = none → 0 ≤ x → Q (.ref p) (upd H p (.lst [.int x, .int y]))
def spDraw : Sp := fun vs H Q _ => ∃ p a b n, vs = [.ref p, .int n] ∧ H p = some (.lst [.int a, .int b]) ∧ 0 ≤ a ∧ 0 < n ∧ n.natAbs < 2 ^ 300 ∧
  ∀ v a' b', 0 ≤ v → v < n → 0 ≤ a' → Q (.int v) (upd H p (.lst [.int a', .int b']))
def spChoose (K : PySem.W.Frag) : Sp := fun vs H Q _ => ∃ p l a b xs, vs = [.ref p, .ref l] ∧ H p = some (.lst [.int a, .int b]) ∧ 0 ≤ a ∧ SqL K H l xs ∧ l ≠ p ∧ 0 < xs.length ∧ xs.length < 1000 ∧
  ∀ (i : Nat) (v : V) (a' b' : Int), xs[i]? = some v → 0 ≤ a' → Q v (upd H p (.lst [.int a', .int b']))
theorem i1000 {n : Int} (h0 : 0 ≤ n) (h : n < 1000) : n.natAbs < 2 ^ 300 := by
  have : n.natAbs < 1024 := by omega
  exact Nat.lt_of_lt_of_le this (by decide +kernel)
section
variable {P : Program} {w : World} {K : PySem.W.Frag} {mg : Str → Option Value} {base : Heap} {C : Addr}
abbrev s_law_stream : Stmt := top 16
theorem sc_law_stream : FnScope ["script", "k", "cell", "size", "mixed"] ["script", "k"] (defScope s_law_stream) := ⟨rfl, rfl, rfl, by decide +kernel, rfl, by decide +kernel, by decide +kernel⟩
theorem ok_stream (D : DefK K mg "_law_stream" s_law_stream) (T : Txt K mg C) : Cal P w K mg base CX0 1 "_law_stream" (spStream K) := by
  refine D.cal sc_law_stream (fun _ _ _ _ _ _ us hl => match us, hl with | [_, _], _ => rfl) (fun vs H Q E h => ?_) fun f cdv A outer s H vs Q E hr h => ?_
  · obtain ⟨a, ns, k, rfl, _⟩ := h; rfl
  · obtain ⟨a, ns, k, rfl, hS, hk, q⟩ := h
    refine ⟨_, (pss_cons (ps_set (i := 2) sc_law_stream.nd rfl (Or.inl rfl) pe_int)
      (pss_cons (ps_if (pt_cmpR op_lt (pv 1) (pe_callB call_len_seq (by rfl) T.b_len (by decide +kernel) (pa_cons (pv 0) pa_nil)) (nomark _)) (pss_one (ps_set (i := 2) sc_law_stream.nd rfl (Or.inl rfl) (pe_ix (r := rIxL K) ix_list (pv 0) (pv 1) (fun _ _ => rfl)))) pss_nil)
      (pss_cons (ps_set (i := 3) sc_law_stream.nd rfl (Or.inl rfl) (pe_callB (call_max2 rfl) (by rfl) T.b_max (by decide +kernel) (pa_cons (pv 2) (pa_cons (pe_op op_sub (pe_un un_neg pe_int) (pv 2)) pa_nil))))
      (pss_cons (ps_set (i := 4) sc_law_stream.nd rfl (Or.inl rfl) (pe_op op_mod (pe_op op_mul (pe_op op_add (pe_op op_add (pe_op op_add (pe_op op_mod (pv 3) pe_int) (pe_op op_mul (pe_op op_mul pe_int (pv 1)) (pv 1))) (pe_op op_mul pe_int (pv 1))) pe_int) pe_int) pe_int))
      (pss_one (ps_ret (pe_lst (pa_cons (pe_op op_mul (pv 3) (pe_callTy call_int1 (by rfl) T.b_int (by decide +kernel) (pa_cons (pe_cmpR op_ge (pv 3) (pe_op op_pow pe_int pe_int) (nomark _)) pa_nil))) (pa_cons (pv 4) pa_nil))))))))), ?_⟩
    have kb : -(2 ^ 64 : Int) < (k : Int) ∧ (k : Int) < 2 ^ 64 := by omega
    refine ⟨_, rfl, _, rfl, a, _, rfl, .inl hS, _, _, rfl, rfl, _, rfl, ?_⟩
    rw [List.length_map]
    by_cases c : (k : Int) < (ns.length : Int)
    · rw [decide_eq_true c]
      have at_ : (ns.map V.int)[k]? = some (V.int (ns[k]'(by omega))) := by rw [List.getElem?_map, List.getElem?_eq_getElem (by omega)]; rfl
      refine iteT ⟨_, rfl, _, rfl, a, _, _, _, rfl, rfl, hS, atI_nat at_, ?_⟩
      walk_at "rd"
      exact ⟨by show 2 ≤ sizeLine; decide, fun p hp => q p _ _ hp (Int.mul_nonneg (by split <;> omega) (by split <;> omega))⟩
    · rw [decide_eq_false c]
      refine iteF ?_
      walk_at "rd"
      exact ⟨by show 2 ≤ sizeLine; decide, fun p hp => q p _ _ hp (Int.mul_nonneg (by split <;> omega) (by split <;> omega))⟩
end
section
variable {P : Program} {w : World} {K : PySem.W.Frag} {mg : Str → Option Value} {base : Heap} {C : Addr}
abbrev s_law_draw : Stmt := top 17
theorem sc_law_draw : FnScope ["stream", "count", "result"] ["stream", "count"] (defScope s_law_draw) := ⟨rfl, rfl, rfl, by decide +kernel, rfl, by decide +kernel, by decide +kernel⟩
theorem ok_draw (D : DefK K mg "_law_draw" s_law_draw) : Cal P w K mg base CX0 1 "_law_draw" spDraw := by
  refine D.cal sc_law_draw (fun _ _ _ _ _ _ us hl => match us, hl with | [_, _], _ => rfl) (fun vs H Q E h => ?_) fun f cdv A outer s H vs Q E hr h => ?_
  · obtain ⟨p, a, b, n, rfl, _⟩ := h; rfl
  · obtain ⟨p, a, b, n, rfl, hp, ha, hn, hb, q⟩ := h
    have at0 : ∀ x y : Int, atI [V.int x, V.int y] 0 = some (V.int x) := fun _ _ => atI_nat (j := 0) rfl
    have at1 : ∀ x y : Int, atI [V.int x, V.int y] 1 = some (V.int y) := fun _ _ => atI_nat (j := 1) rfl
    have hw : CDivW a n := wide_div hn hb (by decide) (by decide)
    refine ⟨_, (pss_cons (ps_if (pt_cmpR op_gt (pe_ix (r := rIxL K) ix_list (pv 0) pe_int (fun _ _ => rfl)) pe_int (nomark _)) (pss_cons (ps_set (i := 2) sc_law_draw.nd rfl (Or.inl rfl) (pe_op op_mod (pe_ix (r := rIxL K) ix_list (pv 0) pe_int (fun _ _ => rfl)) (pv 1)))
      (pss_cons (ps_asg (pe_op op_fdivW (pe_ix (r := rIxL K) ix_list (pv 0) pe_int (fun _ _ => rfl)) (pv 1)) (pg_sub (pv 0) pe_int set_list))
      (pss_one (ps_ret (pv 2))))) pss_nil)
      (pss_cons (ps_asg (pe_op op_mod (pe_op op_add (pe_op op_mul (pe_ix (r := rIxL K) ix_list (pv 0) pe_int (fun _ _ => rfl)) pe_int) pe_int) pe_int) (pg_sub (pv 0) pe_int set_list))
      (pss_one (ps_ret (pe_op op_mod (pe_op op_fdiv (pe_op op_mod (pe_op op_mul (pe_ix (r := rIxL K) ix_list (pv 0) pe_int (fun _ _ => rfl)) (pe_ix (r := rIxL K) ix_list (pv 0) pe_int (fun _ _ => rfl))) pe_int) pe_int) (pv 1)))))), ?_⟩
    refine ⟨_, rfl, p, _, _, _, rfl, rfl, SqL.of hp, at0 _ _, _, _, rfl, rfl, _, rfl, ?_⟩
    by_cases c : 0 < a
    · rw [decide_eq_true c]
      refine iteT ⟨_, rfl, p, _, _, _, rfl, rfl, SqL.of hp, at0 _ _, _, rfl, _, _, rfl, rfl, hn, ?_⟩
      refine ⟨_, rfl, p, _, _, _, rfl, rfl, SqL.of hp, at0 _ _, _, rfl, _, _, rfl, rfl, hw, ?_⟩
      refine ⟨_, rfl, p, _, _, 0, rfl, rfl, hp, rfl, ?_⟩
      refine ⟨_, rfl, q _ _ _ (Int.emod_nonneg _ (by omega)) (Int.emod_lt_of_pos _ hn) (Int.ediv_nonneg ha (by omega))⟩
    · rw [decide_eq_false c]
      refine iteF ⟨_, rfl, p, _, _, _, rfl, rfl, SqL.of hp, at1 _ _, ?_⟩
      walk_at "rd"
      refine ⟨p, _, _, 1, rfl, rfl, hp, rfl, ?_⟩
      refine ⟨_, rfl, p, _, _, _, rfl, rfl, SqL.of upd_same, at1 _ _, _, rfl, p, _, _, _, rfl, rfl, SqL.of upd_same, at1 _ _, _, _, rfl, rfl, ?_⟩
      have m1 := Int.emod_nonneg (b * 39373 + 7) (show (2147483647 : Int) ≠ 0 by decide)
      have m2 := Int.emod_lt_of_pos (b * 39373 + 7) (show (0 : Int) < 2147483647 by decide)
      refine ⟨.inl ⟨by omega, by omega⟩, _, _, rfl, rfl, show (0 : Int) < _ by decide, _, _, rfl, rfl, ⟨by decide, by decide⟩, _, rfl, _, _, rfl, rfl, hn, ?_⟩
      exact q _ _ _ (Int.emod_nonneg _ (by omega)) (Int.emod_lt_of_pos _ hn) ha
abbrev s_law_choose : Stmt := top 18
theorem sc_law_choose : FnScope ["stream", "items"] ["stream", "items"] (defScope s_law_choose) := ⟨rfl, rfl, rfl, by decide +kernel, rfl, by decide +kernel, by decide +kernel⟩
theorem ok_choose (D : DefK K mg "_law_choose" s_law_choose) (T : Txt K mg C) (G_law_draw : Cal P w K mg base CX0 1 "_law_draw" spDraw) : Cal P w K mg base CX0 2 "_law_choose" (spChoose K) := by
  refine D.cal sc_law_choose (fun _ _ _ _ _ _ us hl => match us, hl with | [_, _], _ => rfl) (fun vs H Q E h => ?_) fun f cdv A outer s H vs Q E hr h => ?_
  · obtain ⟨p, l, a, b, xs, rfl, _⟩ := h; rfl
  · obtain ⟨p, l, a, b, xs, rfl, hp, ha, hl, n, h0, h1, q⟩ := h
    refine ⟨_, (pss_one (ps_ret (pe_ix (r := rIxL K) ix_list (pv 1) (pe_c G_law_draw hr (by decide) rfl (pa_cons (pv 0) (pa_cons (pe_callB call_len_seq (by rfl) T.b_len (by decide +kernel) (pa_cons (pv 1) pa_nil)) pa_nil))) (fun _ _ => rfl)))), ?_⟩
    refine ⟨_, rfl, _, rfl, _, rfl, l, xs, rfl, .inl hl, p, a, b, _, rfl, hp, ha, by omega, i1000 (by omega) (by omega), fun v a' b' v0 v1 a0 => ?_⟩
    have hi : v.toNat < xs.length := by omega
    have ev : xs[v.toNat]? = some (xs[v.toNat]'hi) := List.getElem?_eq_getElem hi
    have ev2 : v = ((v.toNat : Nat) : Int) := by omega
    exact ⟨l, xs, v, _, rfl, rfl, seq_upd hl n, at_of ev2 ev, q v.toNat _ a' b' ev a0⟩
end

end K03

namespace K03
open PySem PySem.Spec PyProof.Rows L2 Jg
local macro_rules | `(tactic| walk_at "rd1") => `(tactic| (first
  | refine ⟨_, rfl, ?_⟩
  | refine ⟨_, _, rfl, rfl, ?_⟩
  | refine ⟨_, _, rfl, ?_⟩
  | refine ⟨rfl, ?_⟩
  | (refine ⟨show (0 : Int) < _ by omega, ?_⟩)
  | (refine ⟨Or.inl ⟨by omega, by omega⟩, ?_⟩)
  | (refine ⟨Or.inr ⟨by omega, by omega⟩, ?_⟩)
  | (refine ⟨(⟨by decide, by decide, by decide⟩ : CPow _ _), ?_⟩)
  | refine Or.inl ⟨_, rfl, ?_⟩
  | refine Or.inr ⟨_, rfl, ?_⟩
  | fail "rd"))
local macro_rules | `(tactic| walk_at "rd") => `(tactic| repeat' walk_at "rd1")


/-! ### the law's own reckoning -/
abbrev Ed := Int × Option Int
def ends (e : Ed) : List V := [.int e.1, oV e.2]
def mk (e : Ed) : Int × Int := mkR e.1 e.2
def emp (e : Ed) : Bool := match e.2 with | none => false | some l => decide (l < e.1)
def hld (e : Ed) (m : Int) : Bool := decide (e.1 ≤ m) && (match e.2 with | none => true | some l => decide (m ≤ l))
def lcov (e f : Ed) : Bool := if emp f then true else if emp e || decide (f.1 < e.1) then false else match e.2 with | none => true | some l => match f.2 with | none => false | some k => decide (k ≤ l)
def lbef (e f : Ed) : Bool := if emp e || emp f then true else match e.2 with | none => false | some l => decide (l < f.1)
theorem ed0 (e : Ed) : atI (ends e) 0 = some (.int e.1) := atI_nat (j := 0) rfl
theorem ed1 (e : Ed) : atI (ends e) 1 = some (oV e.2) := atI_nat (j := 1) rfl
def spEmp (K : PySem.W.Frag) : Sp := fun vs H Q _ => ∃ q e, vs = [.ref q] ∧ SqT K H q (ends e) ∧ Q (.bl (emp e)) H
def spHld (K : PySem.W.Frag) : Sp := fun vs H Q _ => ∃ q e m, vs = [.ref q, .int m] ∧ SqT K H q (ends e) ∧ Q (.bl (hld e m)) H
def spE2 (K : PySem.W.Frag) (g : Ed → Ed → Bool) : Sp := fun vs H Q _ => ∃ q r e f, vs = [.ref q, .ref r] ∧ SqT K H q (ends e) ∧ SqT K H r (ends f) ∧ Q (.bl (g e f)) H
section
variable {P : Program} {w : World} {K : PySem.W.Frag} {mg : Str → Option Value} {base : Heap} {C : Addr}
abbrev s_law_is_empty : Stmt := top 20
theorem sc_law_is_empty : FnScope ["ends"] ["ends"] (defScope s_law_is_empty) := ⟨rfl, rfl, rfl, by decide +kernel, rfl, by decide +kernel, by decide +kernel⟩
theorem ok_is_empty (D : DefK K mg "_law_is_empty" s_law_is_empty) : Cal P w K mg base CX0 1 "_law_is_empty" (spEmp K) := by
  refine D.cal sc_law_is_empty (fun _ _ _ _ _ _ us hl => match us, hl with | [_], _ => rfl) (fun vs H Q E h => ?_) fun f cdv A outer s H vs Q E hr h => ?_
  · obtain ⟨q, e, rfl, _⟩ := h; rfl
  · obtain ⟨q, ⟨x, l⟩, rfl, hq, k⟩ := h
    refine ⟨_, (pss_one (ps_ret (pe_and (pe_cmpR op_notN (pe_ix (r := rIxT K) ix_tup (pv 0) pe_int (fun _ _ => rfl)) pe_non (nomark _)) (pe_one (pe_cmpR op_lt (pe_ix (r := rIxT K) ix_tup (pv 0) pe_int (fun _ _ => rfl)) (pe_ix (r := rIxT K) ix_tup (pv 0) pe_int (fun _ _ => rfl)) (nomark _)))))), ?_⟩
    refine ⟨_, rfl, q, _, 1, _, rfl, rfl, hq, ed1 _, ?_⟩
    cases l with
    | none =>
      walk_at "rd"
      exact k
    | some l =>
      walk_at "rd"
      exact ⟨q, _, 1, _, rfl, rfl, hq, ed1 _, _, rfl, q, _, 0, _, rfl, rfl, hq, ed0 _, _, _, rfl, rfl, k⟩
abbrev s_law_holds : Stmt := top 21
theorem sc_law_holds : FnScope ["ends", "moment"] ["ends", "moment"] (defScope s_law_holds) := ⟨rfl, rfl, rfl, by decide +kernel, rfl, by decide +kernel, by decide +kernel⟩
theorem ok_holds (D : DefK K mg "_law_holds" s_law_holds) : Cal P w K mg base CX0 1 "_law_holds" (spHld K) := by
  refine D.cal sc_law_holds (fun _ _ _ _ _ _ us hl => match us, hl with | [_, _], _ => rfl) (fun vs H Q E h => ?_) fun f cdv A outer s H vs Q E hr h => ?_
  · obtain ⟨q, e, m, rfl, _⟩ := h; rfl
  · obtain ⟨q, ⟨x, l⟩, m, rfl, hq, k⟩ := h
    refine ⟨_, (pss_one (ps_ret (pe_and (pe_cmpR op_le (pe_ix (r := rIxT K) ix_tup (pv 0) pe_int (fun _ _ => rfl)) (pv 1) (nomark _)) (pe_one (pe_or (pe_cmpR op_isN (pe_ix (r := rIxT K) ix_tup (pv 0) pe_int (fun _ _ => rfl)) pe_non (nomark _)) (pe_one (pe_cmpR op_le (pv 1) (pe_ix (r := rIxT K) ix_tup (pv 0) pe_int (fun _ _ => rfl)) (nomark _)))))))), ?_⟩
    refine ⟨_, rfl, q, _, 0, _, rfl, rfl, hq, ed0 _, ?_⟩
    walk_at "rd"
    unfold hld at k
    by_cases c : x ≤ m
    · simp only [decide_eq_true c, Bool.true_and] at k ⊢
      refine ⟨_, rfl, q, _, 1, _, rfl, rfl, hq, ed1 _, ?_⟩
      cases l with
      | none => 
        walk_at "rd"
        exact k
      | some l =>
        walk_at "rd"
        exact ⟨q, _, 1, _, rfl, rfl, hq, ed1 _, _, _, rfl, rfl, k⟩
    · simp only [decide_eq_false c, Bool.false_and] at k ⊢
      exact k
abbrev s_law_covers : Stmt := top 22
theorem sc_law_covers : FnScope ["ends", "others"] ["ends", "others"] (defScope s_law_covers) := ⟨rfl, rfl, rfl, by decide +kernel, rfl, by decide +kernel, by decide +kernel⟩
theorem ok_lcovers (D : DefK K mg "_law_covers" s_law_covers) (G_law_is_empty : Cal P w K mg base CX0 1 "_law_is_empty" (spEmp K)) : Cal P w K mg base CX0 2 "_law_covers" (spE2 K lcov) := by
  refine D.cal sc_law_covers (fun _ _ _ _ _ _ us hl => match us, hl with | [_, _], _ => rfl) (fun vs H Q E h => ?_) fun f cdv A outer s H vs Q E hr h => ?_
  · obtain ⟨q, r, e, g, rfl, _⟩ := h; rfl
  · obtain ⟨q, r, ⟨x, l⟩, ⟨y, m⟩, rfl, hq, hr', k⟩ := h
    refine ⟨_, (pss_cons (ps_if (pt_val (pe_c G_law_is_empty hr (by decide) rfl (pa_cons (pv 1) pa_nil))) (pss_one (ps_ret pe_bl)) pss_nil)
      (pss_cons (ps_if (PW.pt (pw_or (pt_val (pe_c G_law_is_empty hr (by decide) rfl (pa_cons (pv 0) pa_nil))) (pw_or1 (pt_cmpR op_lt (pe_ix (r := rIxT K) ix_tup (pv 1) pe_int (fun _ _ => rfl)) (pe_ix (r := rIxT K) ix_tup (pv 0) pe_int (fun _ _ => rfl)) (nomark _))))) (pss_one (ps_ret pe_bl)) pss_nil)
      (pss_one (ps_ret (pe_or (pe_cmpR op_isN (pe_ix (r := rIxT K) ix_tup (pv 0) pe_int (fun _ _ => rfl)) pe_non (nomark _)) (pe_one (pe_and (pe_cmpR op_notN (pe_ix (r := rIxT K) ix_tup (pv 1) pe_int (fun _ _ => rfl)) pe_non (nomark _)) (pe_one (pe_cmpR op_le (pe_ix (r := rIxT K) ix_tup (pv 1) pe_int (fun _ _ => rfl)) (pe_ix (r := rIxT K) ix_tup (pv 0) pe_int (fun _ _ => rfl)) (nomark _)))))))))), ?_⟩
    refine ⟨_, rfl, r, _, rfl, hr', _, rfl, ?_⟩
    unfold lcov at k
    cases ee : emp (y, m) with
    | true =>
      rw [ee] at k
      exact iteT k
    | false =>
      rw [ee] at k
      refine iteF ⟨_, rfl, q, _, rfl, hq, _, rfl, ?_⟩
      cases e2 : emp (x, l) with
      | true =>
        rw [e2] at k
        exact k
      | false =>
        rw [e2] at k
        refine iteF ⟨_, rfl, r, _, 0, _, rfl, rfl, hr', ed0 _, _, rfl, q, _, 0, _, rfl, rfl, hq, ed0 _, _, _, rfl, rfl, _, rfl, ?_⟩
        by_cases c : y < x
        · simp only [decide_eq_true c] at k ⊢
          exact k
        · simp only [decide_eq_false c] at k ⊢
          refine iteF ⟨_, rfl, q, _, 1, _, rfl, rfl, hq, ed1 _, ?_⟩
          cases l with
          | none =>
            walk_at "rd"
            exact k
          | some l =>
            walk_at "rd"
            refine ⟨r, _, 1, _, rfl, rfl, hr', ed1 _, ?_⟩
            cases m with
            | none =>
              walk_at "rd"
              exact k
            | some m =>
              walk_at "rd"
              exact ⟨r, _, 1, _, rfl, rfl, hr', ed1 _, _, rfl, q, _, 1, _, rfl, rfl, hq, ed1 _, _, _, rfl, rfl, k⟩
abbrev s_law_before : Stmt := top 23
theorem sc_law_before : FnScope ["ends", "others"] ["ends", "others"] (defScope s_law_before) := ⟨rfl, rfl, rfl, by decide +kernel, rfl, by decide +kernel, by decide +kernel⟩
theorem ok_lbefore (D : DefK K mg "_law_before" s_law_before) (G_law_is_empty : Cal P w K mg base CX0 1 "_law_is_empty" (spEmp K)) : Cal P w K mg base CX0 2 "_law_before" (spE2 K lbef) := by
  refine D.cal sc_law_before (fun _ _ _ _ _ _ us hl => match us, hl with | [_, _], _ => rfl) (fun vs H Q E h => ?_) fun f cdv A outer s H vs Q E hr h => ?_
  · obtain ⟨q, r, e, g, rfl, _⟩ := h; rfl
  · obtain ⟨q, r, ⟨x, l⟩, ⟨y, m⟩, rfl, hq, hr', k⟩ := h
    refine ⟨_, (pss_cons (ps_if (PW.pt (pw_or (pt_val (pe_c G_law_is_empty hr (by decide) rfl (pa_cons (pv 0) pa_nil))) (pw_or1 (pt_val (pe_c G_law_is_empty hr (by decide) rfl (pa_cons (pv 1) pa_nil)))))) (pss_one (ps_ret pe_bl)) pss_nil)
      (pss_one (ps_ret (pe_and (pe_cmpR op_notN (pe_ix (r := rIxT K) ix_tup (pv 0) pe_int (fun _ _ => rfl)) pe_non (nomark _)) (pe_one (pe_cmpR op_lt (pe_ix (r := rIxT K) ix_tup (pv 0) pe_int (fun _ _ => rfl)) (pe_ix (r := rIxT K) ix_tup (pv 1) pe_int (fun _ _ => rfl)) (nomark _))))))), ?_⟩
    refine ⟨_, rfl, q, _, rfl, hq, _, rfl, ?_⟩
    unfold lbef at k
    cases e1 : emp (x, l) with
    | true =>
      rw [e1] at k
      exact iteT k
    | false =>
      rw [e1] at k
      refine iteF ⟨_, rfl, r, _, rfl, hr', _, rfl, ?_⟩
      cases e2 : emp (y, m) with
      | true =>
        rw [e2] at k
        exact k
      | false =>
        rw [e2] at k
        refine iteF ⟨_, rfl, q, _, 1, _, rfl, rfl, hq, ed1 _, ?_⟩
        cases l with
        | none =>
          walk_at "rd"
          exact k
        | some l =>
          walk_at "rd"
          exact ⟨q, _, 1, _, rfl, rfl, hq, ed1 _, _, rfl, r, _, 0, _, rfl, rfl, hr', ed0 _, _, _, rfl, rfl, k⟩
end

end K03

namespace K03
open PySem PySem.Spec PyProof.Rows L2 Jg
local macro_rules | `(tactic| walk_at "rd1") => `(tactic| (first
  | refine ⟨_, rfl, ?_⟩
  | refine ⟨_, _, rfl, rfl, ?_⟩
  | refine ⟨_, _, rfl, ?_⟩
  | refine ⟨rfl, ?_⟩
  | (refine ⟨show (0 : Int) < _ by omega, ?_⟩)
  | (refine ⟨Or.inl ⟨by omega, by omega⟩, ?_⟩)
  | (refine ⟨Or.inr ⟨by omega, by omega⟩, ?_⟩)
  | (refine ⟨(⟨by decide, by decide, by decide⟩ : CPow _ _), ?_⟩)
  | refine Or.inl ⟨_, rfl, ?_⟩
  | refine Or.inr ⟨_, rfl, ?_⟩
  | fail "rd"))
local macro_rules | `(tactic| walk_at "rd") => `(tactic| repeat' walk_at "rd1")


def spDrawn : Sp := fun vs H Q _ => ∃ p a b far, vs = [.ref p, .int far] ∧ H p = some (.lst [.int a, .int b]) ∧ 0 ≤ a ∧
  ∀ (x : Int) (o : Option Int) (q : Addr) (a' b' : Int), far - 3 ≤ x → x ≤ far + 2 → (∀ i, o = some i → x - 1 ≤ i ∧ i ≤ x + 4) → 0 ≤ a' → (upd H p (.lst [.int a', .int b'])) q = none →
    Q (.ref q) (upd (upd H p (.lst [.int a', .int b'])) q (.tup (ends (x, o))))
section
variable {P : Program} {w : World} {K : PySem.W.Frag} {mg : Str → Option Value} {base : Heap} {C : Addr}
abbrev s_law_drawn : Stmt := top 19
theorem sc_law_drawn : FnScope ["stream", "far", "one", "way"] ["stream", "far"] (defScope s_law_drawn) := ⟨rfl, rfl, rfl, by decide +kernel, rfl, by decide +kernel, by decide +kernel⟩
theorem ok_drawn (D : DefK K mg "_law_drawn" s_law_drawn) (T : Txt K mg C) (G_law_draw : Cal P w K mg base CX0 1 "_law_draw" spDraw) : Cal P w K mg base CX0 2 "_law_drawn" spDrawn := by
  refine D.cal sc_law_drawn (fun _ _ _ _ _ _ us hl => match us, hl with | [_, _], _ => rfl) (fun vs H Q E h => ?_) fun f cdv A outer s H vs Q E hr h => ?_
  · obtain ⟨p, a, b, far, rfl, _⟩ := h; rfl
  · obtain ⟨p, a, b, far, rfl, hp, ha, k⟩ := h
    refine ⟨_, (pss_cons (ps_set (i := 2) sc_law_drawn.nd rfl (Or.inl rfl) (pe_op op_add (pe_op op_sub (pe_c G_law_draw hr (by decide) rfl (pa_cons (pv 0) (pa_cons pe_int pa_nil))) pe_int) (pv 1)))
      (pss_cons (ps_set (i := 3) sc_law_drawn.nd rfl (Or.inl rfl) (pe_c G_law_draw hr (by decide) rfl (pa_cons (pv 0) (pa_cons pe_int pa_nil))))
      (pss_one (ps_ret (pe_ifExp (pt_cmpR op_eq (pv 3) pe_int (nomark _)) (pe_tup (pa_cons (pv 2) (pa_cons pe_non pa_nil))) (pe_tup (pa_cons (pv 2) (pa_cons (pe_op op_sub (pe_op op_add (pv 2) (pe_c G_law_draw hr (by decide) rfl (pa_cons (pv 0) (pa_cons pe_int pa_nil)))) (pe_callTy call_int1 (by rfl) T.b_int (by decide +kernel) (pa_cons (pe_cmpR op_eq (pv 3) pe_int (nomark _)) pa_nil))) pa_nil)))))))), ?_⟩
    refine ⟨_, rfl, p, a, b, _, rfl, hp, ha, by decide, i1000 (by decide) (by decide), fun d a1 b1 d0 d1 ha1 => ?_⟩
    walk_at "rd"
    refine ⟨p, a1, b1, _, rfl, upd_same, ha1, by decide, i1000 (by decide) (by decide), fun y a2 b2 y0 y1 ha2 => ?_⟩
    rw [upd_upd]
    refine ⟨_, rfl, rfl, _, rfl, ?_⟩
    rw [ne_dec]
    by_cases c : y = 0
    · rw [decide_eq_true c]
      refine iteT ⟨_, rfl, by show 2 ≤ sizeLine; decide, fun q nq => ?_⟩
      exact k (d - 3 + far) none q a2 b2 (by omega) (by omega) (fun i h => nomatch h) ha2 nq
    · rw [decide_eq_false c]
      refine iteF ⟨_, rfl, _, rfl, ?_⟩
      refine ⟨_, rfl, p, a2, b2, _, rfl, upd_same, ha2, by decide, i1000 (by decide) (by decide), fun z a3 b3 z0 z1 ha3 => ?_⟩
      rw [upd_upd]
      refine ⟨_, _, rfl, rfl, _, rfl, rfl, .inr ⟨_, rfl, _, _, rfl, rfl, ?_⟩⟩
      rw [ne_dec]
      refine ⟨by show 2 ≤ sizeLine; decide, fun q nq => ?_⟩
      exact k (d - 3 + far) (some (d - 3 + far + z - (if decide (y = 1) = true then 1 else 0))) q a3 b3 (by omega) (by omega) (fun i h => by
        cases h
        split <;> omega) ha3 nq
end

theorem same_tup {K : PySem.W.Frag} {H H' : Hp} {a : Addr} {xs : List V} (e : Same H H') (h : SqT K H a xs) : SqT K H' a xs := by
  rcases h with (h | ⟨o, h⟩) | h
  · exact .inl (.inl (e _ _ h))
  · exact .inl (.inr ⟨o, e _ _ h⟩)
  · exact .inr h
theorem same_rat {C : Addr} {H H' : Hp} {p : Addr} {r : Int × Int} (e : Same H H') (h : RAt C H p r) : RAt C H' p r :=
  let ⟨dx, z⟩ := h
  ⟨dx, e _ _ z⟩
theorem same_new {H : Hp} {p : Addr} {o : HO} (h : H p = none) : Same H (upd H p o) := fun b u e => by rw [upd_ne (ne_of_none e h)]; exact e
theorem same_new' {H H1 : Hp} {p : Addr} {o : HO} (s : Same H H1) (h : H1 p = none) : Same H (upd H1 p o) := s.trans (same_new h)
/-- an object that the first heap does not know may change -/
theorem same_mut {H H1 : Hp} {p : Addr} {o : HO} (s : Same H H1) (h : H p = none) : Same H (upd H1 p o) := fun b u e => by rw [upd_ne (ne_of_none e h)]; exact s b u e
/-! ### the two readings agree -/
local macro_rules | `(tactic| walk_at "bo") => `(tactic| ((repeat' split) <;> (rw [Bool.eq_iff_iff]) <;> (try simp only [Bool.and_eq_true, Bool.or_eq_true, decide_eq_true_eq, Bool.false_eq_true, Bool.not_eq_true', decide_eq_false_iff_not, Bool.true_or, Bool.or_true, Bool.true_and, Bool.and_true, Bool.false_and, Bool.and_false, Bool.false_or, Bool.or_false, decide_true, decide_false, true_iff, iff_true, false_iff, iff_false, false_or, or_false, true_or, or_true, and_true, true_and, and_false, false_and, not_true_eq_false, not_false_eq_true, if_false, if_true, eq_self] at *) <;> (try omega) <;> (repeat' split) <;> (try simp only [Bool.false_eq_true, true_iff, iff_true, false_iff, iff_false, eq_self]) <;> (try omega)))
theorem mk_none (x : Int) : mk (x, none) = (x, B) := rfl
theorem mk_emp {x l : Int} (h : l < x) : mk (x, some l) = (-B, -B - 1) := if_pos h
theorem mk_some {x l : Int} (h : ¬ l < x) : mk (x, some l) = (x, l) := if_neg h
theorem cov_eq {e f : Ed} (b1 : Bnd e.1) (b2 : BndO e.2) (b3 : Bnd f.1) (b4 : BndO f.2) : cov (mk e) (mk f) = lcov e f := by
  obtain ⟨x, l⟩ := e
  obtain ⟨y, m⟩ := f
  have hB := B_eq
  have c1 : -B < x := b1.1
  have c2 : x < B := b1.2
  have c3 : -B < y := b3.1
  have c4 : y < B := b3.2
  cases l with
  | none =>
    rw [mk_none]
    cases m with
    | none =>
      rw [mk_none]
      simp only [cov, lcov, emp]
      walk_at "bo"
    | some m =>
      have c5 : -B < m := b4.1
      have c6 : m < B := b4.2
      by_cases g : m < y
      · rw [mk_emp g]
        simp only [cov, lcov, emp, decide_eq_true g]
        walk_at "bo"
      · rw [mk_some g]
        simp only [cov, lcov, emp, decide_eq_false g]
        walk_at "bo"
  | some l =>
    have c7 : -B < l := b2.1
    have c8 : l < B := b2.2
    by_cases k : l < x
    · rw [mk_emp k]
      cases m with
      | none =>
        rw [mk_none]
        simp only [cov, lcov, emp, decide_eq_true k]
        walk_at "bo"
      | some m =>
        have c5 : -B < m := b4.1
        have c6 : m < B := b4.2
        by_cases g : m < y
        · rw [mk_emp g]
          simp only [cov, lcov, emp, decide_eq_true g]
          walk_at "bo"
        · rw [mk_some g]
          simp only [cov, lcov, emp, decide_eq_false g, decide_eq_true k]
          walk_at "bo"
    · rw [mk_some k]
      cases m with
      | none =>
        rw [mk_none]
        simp only [cov, lcov, emp, decide_eq_false k]
        walk_at "bo"
      | some m =>
        have c5 : -B < m := b4.1
        have c6 : m < B := b4.2
        by_cases g : m < y
        · rw [mk_emp g]
          simp only [cov, lcov, emp, decide_eq_true g]
          walk_at "bo"
        · rw [mk_some g]
          simp only [cov, lcov, emp, decide_eq_false g, decide_eq_false k]
          walk_at "bo"
theorem inR_eq {e : Ed} {m : Int} (b1 : Bnd e.1) (b2 : BndO e.2) (hm : Bnd m) : inR (mk e) m = hld e m := by
  obtain ⟨x, l⟩ := e
  have hB := B_eq
  have c1 : -B < x := b1.1
  have c2 : x < B := b1.2
  have c3 := hm.1
  have c4 := hm.2
  cases l with
  | none =>
    rw [mk_none]
    simp only [inR, hld]
    walk_at "bo"
  | some l =>
    have c7 : -B < l := b2.1
    have c8 : l < B := b2.2
    by_cases k : l < x
    · rw [mk_emp k]
      simp only [inR, hld]
      walk_at "bo"
    · rw [mk_some k]
      simp only [inR, hld]
      walk_at "bo"
theorem bef_eq {e f : Ed} (b1 : Bnd e.1) (b2 : BndO e.2) (b3 : Bnd f.1) (b4 : BndO f.2) : bef (mk e) (mk f) = lbef e f := by
  obtain ⟨x, l⟩ := e
  obtain ⟨y, m⟩ := f
  have hB := B_eq
  have c1 : -B < x := b1.1
  have c2 : x < B := b1.2
  have c3 : -B < y := b3.1
  have c4 : y < B := b3.2
  cases l with
  | none =>
    rw [mk_none]
    cases m with
    | none =>
      rw [mk_none]
      simp only [bef, lbef, emp]
      walk_at "bo"
    | some m =>
      have c5 : -B < m := b4.1
      have c6 : m < B := b4.2
      by_cases g : m < y
      · rw [mk_emp g]
        simp only [bef, lbef, emp, decide_eq_true g]
        walk_at "bo"
      · rw [mk_some g]
        simp only [bef, lbef, emp, decide_eq_false g]
        walk_at "bo"
  | some l =>
    have c7 : -B < l := b2.1
    have c8 : l < B := b2.2
    by_cases k : l < x
    · rw [mk_emp k]
      simp only [bef, lbef, emp, decide_eq_true k]
      walk_at "bo"
    · rw [mk_some k]
      cases m with
      | none =>
        rw [mk_none]
        simp only [bef, lbef, emp, decide_eq_false k]
        walk_at "bo"
      | some m =>
        have c5 : -B < m := b4.1
        have c6 : m < B := b4.2
        by_cases g : m < y
        · rw [mk_emp g]
          simp only [bef, lbef, emp, decide_eq_true g]
          walk_at "bo"
        · rw [mk_some g]
          simp only [bef, lbef, emp, decide_eq_false g, decide_eq_false k]
          walk_at "bo"
def spPair (K : PySem.W.Frag) : Sp := fun vs H Q _ => ∃ q r e f, vs = [.ref q, .ref r] ∧ SqT K H q (ends e) ∧ SqT K H r (ends f) ∧ Bnd e.1 ∧ BndO e.2 ∧ Bnd f.1 ∧ BndO f.2 ∧ ∀ H', Same H H' → Q (.bl true) H'
def b3 (a b c : Bool) : PyData := .list [.bool a, .bool b, .bool c]
theorem dp3 {K : PySem.W.Frag} {H : Hp} {t : Addr} {a b c : Bool} (h : H t = some (.lst [.bl a, .bl b, .bl c])) : Dp K H (.ref t) (b3 a b c) := .lst (SqL.of h) (.cons (.bl a) (.cons (.bl b) (.cons (.bl c) .nil)))
theorem sh3 (a b c : Bool) : (b3 a b c).showable = true ∧ (b3 a b c).depth ≤ 40 ∧ (b3 a b c).shown.length ≤ sizeLine := by cases a <;> cases b <;> cases c <;> decide +kernel
section
variable {P : Program} {w : World} {K : PySem.W.Frag} {mg : Str → Option Value} {base : Heap} {C : Addr}
abbrev s_law_pair_right : Stmt := top 24
theorem sc_law_pair_right : FnScope ["ends", "others", "told", "one", "other"] ["ends", "others"] (defScope s_law_pair_right) := ⟨rfl, rfl, rfl, by decide +kernel, rfl, by decide +kernel, by decide +kernel⟩
theorem ok_pair (D : DefK K mg "_law_pair_right" s_law_pair_right) (T : Txt K mg C) (M_Range : Mak P w K mg base CX0 3 "Range" C (spInit C)) (G_covers : Met P w K mg base CX0 1 C "covers" (sp2 C cov)) (G_before : Met P w K mg base CX0 1 C "is_before" (sp2 C bef))
    (G_contains : Met P w K mg base CX0 2 C "__contains__" (spIn K C)) (G_law_covers : Cal P w K mg base CX0 2 "_law_covers" (spE2 K lcov)) (G_law_before : Cal P w K mg base CX0 2 "_law_before" (spE2 K lbef)) : CalG P w K mg base CX0 5 "_law_pair_right" (spPair K) := by
  refine D.calG sc_law_pair_right (fun _ _ _ _ _ _ us hl => match us, hl with | [_, _], _ => rfl) (fun vs H Q E h => ?_) fun ff cdv A outer s H vs Q E g hr h => ?_
  · obtain ⟨q, r, e, f, rfl, _⟩ := h; rfl
  · obtain ⟨q, r, e, f, rfl, hq, hr', b1, b2, b3', b4, k⟩ := h
    have hu : (A.deeper (envOfC _ _ _ ff cdv)).units + 64 < cLine := hr.units
    have e1 := ed0 e
    have e2 := ed1 e
    have f1 := ed0 f
    have f2 := ed1 f
    refine ⟨_, (pss_cons (ps_par (i := 3) (j := 4) (by rfl) sc_law_pair_right.nd rfl rfl (by decide) rfl rfl (pa_cons (pe_mk M_Range hr (by decide) rfl (pa_cons (pe_ix (r := rIxT K) ix_tup (pv 0) pe_int (fun _ _ => rfl)) (pa_cons (pe_ix (r := rIxT K) ix_tup (pv 0) pe_int (fun _ _ => rfl)) pa_nil))) (pa_cons (pe_mk M_Range hr (by decide) rfl (pa_cons (pe_ix (r := rIxT K) ix_tup (pv 1) pe_int (fun _ _ => rfl)) (pa_cons (pe_ix (r := rIxT K) ix_tup (pv 1) pe_int (fun _ _ => rfl)) pa_nil))) pa_nil)) (by rfl))
      (pss_cons (ps_set (i := 2) sc_law_pair_right.nd rfl (Or.inl rfl) (pe_lst (pa_cons (pe_m G_covers T.cl hr (by decide) (pv 3) (pa_cons (pv 4) pa_nil)) (pa_cons (pe_cmpR (op_in G_contains hr (by decide)) (pv 4) (pv 3) (by rfl)) (pa_cons (pe_m G_before T.cl hr (by decide) (pv 3) (pa_cons (pv 4) pa_nil)) pa_nil)))))
      (pss_one (ps_ret (pe_cmpR op_eq (pe_callB (call_reprD g hu) (by rfl) T.b_repr (by decide +kernel) (pa_cons (pv 2) pa_nil)) (pe_callB (call_reprD g hu) (by rfl) T.b_repr (by decide +kernel) (pa_cons (pe_lst (pa_cons (pe_c G_law_covers hr (by decide) rfl (pa_cons (pv 0) (pa_cons (pv 1) pa_nil))) (pa_cons (pe_c G_law_covers hr (by decide) rfl (pa_cons (pv 0) (pa_cons (pv 1) pa_nil))) (pa_cons (pe_c G_law_before hr (by decide) rfl (pa_cons (pv 0) (pa_cons (pv 1) pa_nil))) pa_nil)))) pa_nil)) (nomark _)))))), ?_⟩
    -- the two ranges
    refine ⟨_, rfl, q, _, 0, _, rfl, rfl, hq, e1, _, rfl, q, _, 1, _, rfl, rfl, hq, e2, fun x dx nx ndx nex => ⟨x, dx, e.1, e.2, rfl, upd_same, b1, b2, fun H1 R1 kp1 => ⟨rfl, ?_⟩⟩⟩
    have s1 : Same H H1 := Same.made nx ndx kp1
    refine ⟨_, rfl, r, _, 0, _, rfl, rfl, same_tup s1 hr', f1, _, rfl, r, _, 1, _, rfl, rfl, same_tup s1 hr', f2, fun y dy ny ndy ney => ⟨y, dy, f.1, f.2, rfl, upd_same, b3', b4, fun H2 R2 kp2 => ⟨rfl, ?_⟩⟩⟩
    have s2 : Same H1 H2 := Same.made ny ndy kp2
    have s := s1.trans s2
    have R1' : RAt C H2 x (mk e) := same_rat s2 R1
    have R2' : RAt C H2 y (mk f) := R2
    obtain ⟨dx1, hx⟩ := id R1'
    refine ⟨_, _, rfl, ?_⟩
    -- what the program tells
    refine ⟨_, rfl, x, dx1, _, rfl, hx, get_no _ (by decide +kernel) (by decide +kernel), _, rfl, x, y, _, _, rfl, R1', R2', ?_⟩
    refine ⟨_, rfl, _, rfl, x, dx1, _, rfl, hx, x, _, _, rfl, R1', .inl ⟨y, _, rfl, R2', _, rfl, ?_⟩⟩
    refine ⟨_, rfl, x, dx1, _, rfl, hx, get_no _ (by decide +kernel) (by decide +kernel), _, rfl, x, y, _, _, rfl, R1', R2', ?_⟩
    refine ⟨by show 3 ≤ sizeLine; decide, fun t nt => ?_⟩
    rw [cov_eq b1 b2 b3' b4, bef_eq b1 b2 b3' b4]
    generalize hc : lcov e f = bc
    generalize hb : lbef e f = bb
    have st : Same H (upd H2 t (.lst [.bl bc, .bl bc, .bl bb])) := same_new' s nt
    obtain ⟨z1, z2, z3⟩ := sh3 bc bc bb
    -- the two texts
    refine ⟨_, rfl, t, _, rfl, dp3 upd_same, z1, z2, z3, ?_⟩
    refine ⟨_, rfl, _, rfl, q, r, e, f, rfl, same_tup st hq, same_tup st hr', ?_⟩
    refine ⟨_, rfl, _, rfl, q, r, e, f, rfl, same_tup st hq, same_tup st hr', ?_⟩
    refine ⟨_, rfl, _, rfl, q, r, e, f, rfl, same_tup st hq, same_tup st hr', ?_⟩
    refine ⟨by show 3 ≤ sizeLine; decide, fun t2 nt2 => ?_⟩
    rw [hc, hb]
    refine ⟨t2, _, rfl, dp3 upd_same, z1, z2, z3, rfl, ?_⟩
    exact q_true (decide_eq_true rfl) (k _ (same_new' st nt2))
end

end K03

namespace K03
open PySem PySem.Spec PyProof.Rows L2 Jg
local macro_rules | `(tactic| walk_at "rd1") => `(tactic| (first
  | refine ⟨_, rfl, ?_⟩
  | refine ⟨_, _, rfl, rfl, ?_⟩
  | refine ⟨_, _, rfl, ?_⟩
  | refine ⟨rfl, ?_⟩
  | (refine ⟨show (0 : Int) < _ by omega, ?_⟩)
  | (refine ⟨Or.inl ⟨by omega, by omega⟩, ?_⟩)
  | (refine ⟨Or.inr ⟨by omega, by omega⟩, ?_⟩)
  | (refine ⟨(⟨by decide, by decide, by decide⟩ : CPow _ _), ?_⟩)
  | refine Or.inl ⟨_, rfl, ?_⟩
  | refine Or.inr ⟨_, rfl, ?_⟩
  | fail "rd"))
local macro_rules | `(tactic| walk_at "rd") => `(tactic| repeat' walk_at "rd1")


/-- a stream stands at p -/
def StA (H : Hp) (p : Addr) : Prop := ∃ a b, H p = some (.lst [.int a, .int b]) ∧ 0 ≤ a
def Far (x : Int) : Prop := -(10 ^ 59) ≤ x ∧ x ≤ 10 ^ 59
theorem far_bnd {far x : Int} (h : Far far) (h1 : far - 3 ≤ x) (h2 : x ≤ far + 2) : Bnd x ∧ ∀ k : Int, -10 ≤ k → k ≤ 10 → Bnd (x + k) := by
  have hB := B_eq
  have e1 := h.1
  have e2 := h.2
  exact ⟨⟨by omega, by omega⟩, fun k k1 k2 => ⟨by omega, by omega⟩⟩
theorem far_bndO {far x : Int} {o : Option Int} (h : Far far) (h1 : far - 3 ≤ x) (h2 : x ≤ far + 2) (ho : ∀ i, o = some i → x - 1 ≤ i ∧ i ≤ x + 4) : BndO o := by
  cases o with
  | none => trivial
  | some i =>
    obtain ⟨z1, z2⟩ := ho i rfl
    have := (far_bnd h h1 h2).2 (i - x) (by omega) (by omega)
    have e : x + (i - x) = i := by omega
    rw [e] at this
    exact this
def spLaw (K : PySem.W.Frag) : Sp := fun vs H Q _ => ∃ (a : Addr) (ns : List Int), vs = [.ref a] ∧ SqL K H a (ns.map V.int) ∧ ns.length ≤ 63 ∧ ∀ H', Q (.bl true) H'
theorem nine_eq : (9 : Int) * 10 ^ (59 : Int).toNat = 900000000000000000000000000000000000000000000000000000000000 := by decide +kernel
theorem far59 : (10 : Int) ^ 59 = 100000000000000000000000000000000000000000000000000000000000 := by decide +kernel
theorem nine {far x : Int} {o : Option Int} (h : Far far) (h1 : far - 3 ≤ x) (h2 : x ≤ far + 2) (ho : ∀ i, o = some i → x - 1 ≤ i ∧ i ≤ x + 4) : inR (mk (x, o)) (9 * 10 ^ (59 : Int).toNat) = decide (oV o = V.non) := by
  have hB := B_eq
  have e1 := h.1
  have e2 := h.2
  rw [far59] at e1 e2
  rw [nine_eq, inR_eq (far_bnd h h1 h2).1 (far_bndO h h1 h2 ho) ⟨by omega, by omega⟩]
  cases o with
  | none =>
    rw [decide_eq_true (show oV none = V.non from rfl)]
    show (decide (x ≤ _) && true) = true
    rw [decide_eq_true (by omega)]; rfl
  | some i =>
    obtain ⟨z1, z2⟩ := ho i rfl
    rw [decide_eq_false (fun z : oV (some i) = V.non => nomatch z)]
    show (decide (x ≤ _) && decide (_ ≤ i)) = false
    rw [decide_eq_false (by omega : ¬ 900000000000000000000000000000000000000000000000000000000000 ≤ i), Bool.and_false]
theorem lg {x : Int} (h : Bnd x) : x.natAbs.log2 < 1920 := by
  have hB := B_eq
  have e1 := h.1
  have e2 := h.2
  have : x.natAbs < 1000000000000000000000000000000000000000000000000000000000000 := by omega
  exact Nat.lt_of_lt_of_le (PySem.Flt.log2_lt_of (k := 300) (by decide) (Nat.lt_of_lt_of_le this (by decide +kernel))) (by decide)
section
variable {P : Program} {w : World} {K : PySem.W.Frag} {mg : Str → Option Value} {base : Heap} {C : Addr}
abbrev s_law : Stmt := top 25
theorem sc_law : FnScope ["script", "k", "stream", "far", "turn", "one", "moment", "odd", "ends", "others"] ["script"] (defScope s_law) := ⟨rfl, rfl, rfl, by decide +kernel, rfl, by decide +kernel, by decide +kernel⟩
theorem body_law (T : Txt K mg C) (o0 : OddTy K C (.type "NoneType")) (o1' : OddTy K C (.type "bool")) (o2' : OddTy K C (.type "str")) (o3 : OddTy K C (.type "tuple")) (o4 : OddTy K C (.type "list")) (o5 : OddTy K C (.type "dict"))
    (M_Range : Mak P w K mg base CX0 3 "Range" C (spInit C)) (G_contains : Met P w K mg base CX0 2 C "__contains__" (spIn K C)) (G_law_stream : Cal P w K mg base CX0 1 "_law_stream" (spStream K)) (G_law_choose : Cal P w K mg base CX0 2 "_law_choose" (spChoose K))
    (G_law_drawn : Cal P w K mg base CX0 2 "_law_drawn" spDrawn) (G_law_holds : Cal P w K mg base CX0 1 "_law_holds" (spHld K)) (G_law_pair_right : CalG P w K mg base CX0 5 "_law_pair_right" (spPair K))
    (ff : Addr) (cdv : Value) (A : Around) (outer : List Env) (s : Shared) (H : Hp) (vs : List V) (Q : VK) (E : XK) (g : (cxOf CX0 P w K mg base ["script", "k", "stream", "far", "turn", "one", "moment", "odd", "ends", "others"] "law" (defScope s_law) ff cdv A outer s H E).nox.A.guards = some []) (hr : Room 5 (A.deeper (envOfC "law" (defScope s_law) s.heap.objs.size ff cdv))) (h : spLaw K vs H Q E) :
    ∃ t, PSs (cxOf CX0 P w K mg base ["script", "k", "stream", "far", "turn", "one", "moment", "odd", "ends", "others"] "law" (defScope s_law) ff cdv A outer s H E).nox (defBody s_law) t ∧ t { nx := fun _ H' => Q .non H', rt := Q } (start ["script", "k", "stream", "far", "turn", "one", "moment", "odd", "ends", "others"] vs) H := by
  obtain ⟨a, ns, rfl, hS, hl, k⟩ := h
  refine ⟨_, (pss_cons (ps_for PassesOwn.never rfl (pi_range1 (by rfl) T.b_range (pa_cons (pe_callB (call_max2 rfl) (by rfl) T.b_max (by decide +kernel) (pa_cons pe_int (pa_cons (pe_callB (call_min2 rfl) (by rfl) T.b_min (by decide +kernel) (pa_cons pe_int (pa_cons (pe_callB call_len_seq (by rfl) T.b_len (by decide +kernel) (pa_cons (pv 0) pa_nil)) pa_nil))) pa_nil))) pa_nil)) (pg_name (i := 1) sc_law.nd rfl (Or.inl rfl)) (pss_cons (ps_set (i := 2) sc_law.nd rfl (Or.inl rfl) (pe_c G_law_stream hr (by decide) rfl (pa_cons (pv 0) (pa_cons (pv 1) pa_nil))))
      (pss_cons (ps_set (i := 3) sc_law.nd rfl (Or.inl rfl) (pe_c G_law_choose hr (by decide) rfl (pa_cons (pv 2) (pa_cons (pe_lst (pa_cons pe_int (pa_cons pe_int (pa_cons (pe_op op_pow pe_int pe_int) (pa_cons (pe_un un_neg (pe_op op_pow pe_int pe_int)) pa_nil))))) pa_nil))))
      (pss_one (ps_for PassesOwn.never rfl (pi_range1 (by rfl) T.b_range (pa_cons pe_int pa_nil)) (pg_name (i := 4) sc_law.nd rfl (Or.inl rfl)) (pss_cons (ps_par (i := 8) (j := 9) (by rfl) sc_law.nd rfl rfl (by decide) rfl rfl (pa_cons (pe_c G_law_drawn hr (by decide) rfl (pa_cons (pv 2) (pa_cons (pv 3) pa_nil))) (pa_cons (pe_c G_law_drawn hr (by decide) rfl (pa_cons (pv 2) (pa_cons (pe_c G_law_choose hr (by decide) rfl (pa_cons (pv 2) (pa_cons (pe_lst (pa_cons (pv 3) (pa_cons (pv 3) (pa_cons pe_int pa_nil)))) pa_nil))) pa_nil))) pa_nil)) (by rfl))
      (pss_cons (ps_set (i := 5) sc_law.nd rfl (Or.inl rfl) (pe_mk M_Range hr (by decide) rfl (pa_cons (pe_ix (r := rIxT K) ix_tup (pv 8) pe_int (fun _ _ => rfl)) (pa_cons (pe_ix (r := rIxT K) ix_tup (pv 8) pe_int (fun _ _ => rfl)) pa_nil))))
      (pss_cons (ps_for PassesOwn.never rfl (pi_range2W (by rfl) T.b_range (pa_cons (pe_op op_sub (pe_ix (r := rIxT K) ix_tup (pv 8) pe_int (fun _ _ => rfl)) pe_int) (pa_cons (pe_op op_add (pe_ix (r := rIxT K) ix_tup (pv 8) pe_int (fun _ _ => rfl)) pe_int) pa_nil))) (pg_name (i := 6) sc_law.nd rfl (Or.inl rfl)) (pss_one (ps_if (pt_cmpR op_ne (pe_cmpR (op_in G_contains hr (by decide)) (pv 6) (pv 5) (by rfl)) (pe_c G_law_holds hr (by decide) rfl (pa_cons (pv 8) (pa_cons (pv 6) pa_nil))) (nomark _)) (pss_one (ps_ret pe_bl)) pss_nil)))
      (pss_cons (ps_if (pt_cmpR op_ne (pe_cmpR (op_in G_contains hr (by decide)) (pe_op op_mul pe_int (pe_op op_pow pe_int pe_int)) (pv 5) (by rfl)) (pe_cmpR op_isN (pe_ix (r := rIxT K) ix_tup (pv 8) pe_int (fun _ _ => rfl)) pe_non (nomark _)) (nomark _)) (pss_one (ps_ret pe_bl)) pss_nil)
      (pss_cons (ps_for PassesOwn.never rfl (pi_list (pe_lst (pa_cons pe_non (pa_cons pe_bl (pa_cons pe_bl (pa_cons (pe_callTy call_str_int (by rfl) T.b_str (by decide +kernel) (pa_cons (pe_ix (r := rIxT K) ix_tup (pv 8) pe_int (fun _ _ => rfl)) pa_nil)) (pa_cons (pe_tup (pa_cons (pe_ix (r := rIxT K) ix_tup (pv 8) pe_int (fun _ _ => rfl)) pa_nil)) (pa_cons (pe_lst (pa_cons (pe_ix (r := rIxT K) ix_tup (pv 8) pe_int (fun _ _ => rfl)) pa_nil)) (pa_cons pe_dnewK pa_nil))))))))) (pg_name (i := 7) sc_law.nd rfl (Or.inl rfl)) (pss_one (ps_if (pt_cmpR (op_in G_contains hr (by decide)) (pv 7) (pv 5) (by rfl)) (pss_one (ps_ret pe_bl)) pss_nil)))
      (pss_cons (ps_if (PW.pt (pw_or (pt_not (pt_val (pe_cG G_law_pair_right g hr (by decide) rfl (pa_cons (pv 8) (pa_cons (pv 9) pa_nil))))) (pw_or1 (pt_not (pt_val (pe_cG G_law_pair_right g hr (by decide) rfl (pa_cons (pv 9) (pa_cons (pv 8) pa_nil)))))))) (pss_one (ps_ret pe_bl)) pss_nil)
      (pss_one (ps_if (pt_not (pt_val (pe_cG G_law_pair_right g hr (by decide) rfl (pa_cons (pv 8) (pa_cons (pv 8) pa_nil))))) (pss_one (ps_ret pe_bl)) pss_nil)))))))))))))
      (pss_one (ps_ret pe_bl))), ?_⟩
  refine ⟨_, rfl, a, _, rfl, .inl hS, _, _, rfl, _, _, rfl, _, rfl, by split <;> split <;> omega, by rw [List.length_map]; split <;> split <;> omega, ?_⟩
  have tn : ∀ i : Nat, i < (if (if ((ns.map V.int).length : Int) < 10 then ((ns.map V.int).length : Int) else 10) > 1 then (if ((ns.map V.int).length : Int) < 10 then ((ns.map V.int).length : Int) else 10) else 1).toNat → i ≤ 1000 := by
    intro i hi
    rw [List.length_map] at hi
    split at hi <;> split at hi <;> omega
  refine for_range (lo := 0) (fun i sg H' => ∃ v1 v2 v3 v4 v5 v6 v7 v8 v9 : Option V, sg = [some (.ref a), v1, v2, v3, v4, v5, v6, v7, v8, v9] ∧ Same H H') ⟨_, _, _, _, _, _, _, _, _, rfl, .refl H⟩ ?_ ?_
  · rintro i sg H1 hi ⟨v1, v2, v3, v4, v5, v6, v7, v8, v9, rfl, s1⟩
    have hk := tn i hi
    clear tn hi
    have ei : (0 : Int) + (i : Nat) = ((i : Nat) : Int) := by omega
    rw [ei]
    -- stream = _law_stream(script, k)
    refine ⟨_, rfl, _, rfl, a, ns, i, rfl, s1.seq hS, hk, fun p x y np hx => ?_⟩
    have npH : H p = none := s1.free np
    -- far = _law_choose(stream, [..])
    refine ⟨_, rfl, _, _, rfl, rfl, ⟨by decide, by decide, by decide⟩, ?_⟩
    refine ⟨_, _, rfl, rfl, ⟨by decide, by decide, by decide⟩, _, rfl, by show 4 ≤ sizeLine; decide, fun l nl => ?_⟩
    have hl1 : l ≠ p := fun z => by rw [z, upd_same] at nl; cases nl
    refine ⟨p, l, x, y, _, rfl, by rw [upd_ne hl1.symm, upd_same], hx, SqL.of upd_same, hl1, by show 0 < 4; decide, by show 4 < 1000; decide, fun j v a1 b1 hv ha1 => ?_⟩
    have hfar : ∃ far, v = V.int far ∧ Far far := by
      match j, hv with
      | 0, hv => cases hv; exact ⟨0, rfl, by decide, by decide⟩
      | 1, hv => cases hv; exact ⟨0, rfl, by decide, by decide⟩
      | 2, hv => cases hv; exact ⟨_, rfl, by decide +kernel, by decide +kernel⟩
      | 3, hv => cases hv; exact ⟨_, rfl, by decide +kernel, by decide +kernel⟩
      | j + 4, hv => cases hv
    obtain ⟨far, rfl, hfar⟩ := hfar
    have sA : Same H (upd (upd (upd H1 p (.lst [.int x, .int y])) l (.lst [.int 0, .int 0, .int ((10 : Int) ^ (59 : Int).toNat), .int (-((10 : Int) ^ (59 : Int).toNat))])) p (.lst [.int a1, .int b1])) :=
      same_mut (same_new' (same_new' s1 np) nl) npH
    -- for turn in range(5)
    refine ⟨5, rfl, by decide, by decide, ?_⟩
    refine for_range (lo := 0) (n := 5) (fun _ sg H' => ∃ v4 v5 v6 v7 v8 v9 : Option V, sg = [some (.ref a), some (.int i), some (.ref p), some (.int far), v4, v5, v6, v7, v8, v9] ∧ Same H H' ∧ StA H' p) ⟨_, _, _, _, _, _, rfl, sA, _, _, upd_same, ha1⟩ ?_ ?_
    · rintro t sg H2 _ ⟨v4, v5, v6, v7, v8, v9, rfl, s2, a2, b2, hp2, ha2⟩
      clear sA
      -- ends, others
      refine ⟨_, rfl, _, rfl, p, a2, b2, far, rfl, hp2, ha2, fun x1 o1 q a3 b3 x10 x11 ho1 ha3 nq => ?_⟩
      have hqp : q ≠ p := fun z => by rw [z, upd_same] at nq; cases nq
      refine ⟨_, rfl, _, rfl, _, rfl, _, rfl, by show 3 ≤ sizeLine; decide, fun l2 nl2 => ?_⟩
      have hl2p : l2 ≠ p := fun z => by rw [z, upd_ne hqp.symm, upd_same] at nl2; cases nl2
      have hl2q : l2 ≠ q := fun z => by rw [z, upd_same] at nl2; cases nl2
      refine ⟨p, l2, a3, b3, _, rfl, by rw [upd_ne hl2p.symm, upd_ne hqp.symm, upd_same], ha3, SqL.of upd_same, hl2p, by show 0 < 3; decide, by show 3 < 1000; decide, fun j v a4 b4 hv ha4 => ?_⟩
      have hfar2 : ∃ f2, v = V.int f2 ∧ Far f2 := by
        match j, hv with
        | 0, hv => cases hv; exact ⟨far, rfl, hfar⟩
        | 1, hv => cases hv; exact ⟨far, rfl, hfar⟩
        | 2, hv => cases hv; exact ⟨0, rfl, by decide, by decide⟩
        | j + 3, hv => cases hv
      obtain ⟨f2, rfl, hfar2⟩ := hfar2
      refine ⟨p, a4, b4, f2, rfl, upd_same, ha4, fun x2 o2 q2 a5 b5 x20 x21 ho2 ha5 nq2 => ?_⟩
      rw [upd_upd] at nq2 ⊢
      have hq2p : q2 ≠ p := fun z => by rw [z, upd_same] at nq2; cases nq2
      have hq2q : q2 ≠ q := fun z => by rw [z, upd_ne hqp, upd_ne hl2q.symm, upd_same] at nq2; cases nq2
      refine ⟨_, _, rfl, ?_⟩
      have sC := same_new' (o := .tup (ends (x2, o2))) (same_mut (o := .lst [.int a5, .int b5]) (same_new' (o := .lst [.int far, .int far, .int 0]) (same_new' (o := .tup (ends (x1, o1))) (same_mut (o := .lst [.int a3, .int b3]) s2 npH) nq) nl2) npH) nq2
      revert sC
      generalize hHc : upd (upd (upd (upd (upd H2 p (.lst [.int a3, .int b3])) q (.tup (ends (x1, o1)))) l2 (.lst [.int far, .int far, .int 0])) p (.lst [.int a5, .int b5])) q2 (.tup (ends (x2, o2))) = Hc
      intro sC
      have cq : Hc q = some (.tup (ends (x1, o1))) := by rw [← hHc, upd_ne hq2q.symm, upd_ne hqp, upd_ne hl2q.symm, upd_same]
      have cq2 : Hc q2 = some (.tup (ends (x2, o2))) := by rw [← hHc, upd_same]
      have cp : Hc p = some (.lst [.int a5, .int b5]) := by rw [← hHc, upd_ne hq2p.symm, upd_same]
      have bx1 := (far_bnd hfar x10 x11).1
      have bo1 := far_bndO hfar x10 x11 ho1
      have bx2 := (far_bnd hfar2 x20 x21).1
      have bo2 := far_bndO hfar2 x20 x21 ho2
      -- one = Range(..)
      refine ⟨_, rfl, q, _, 0, _, rfl, rfl, SqT.of cq, ed0 _, _, rfl, q, _, 1, _, rfl, rfl, SqT.of cq, ed1 _, fun x dx nx ndx nex => ⟨x, dx, x1, o1, rfl, upd_same, bx1, bo1, fun Hd R kp => ⟨rfl, ?_⟩⟩⟩
      have sD : Same Hc Hd := Same.made nx ndx kp
      have dq := sD _ _ cq
      obtain ⟨dxx, hx⟩ := id R
      -- for moment in range(..)
      refine ⟨_, rfl, q, _, 0, _, rfl, rfl, SqT.of dq, ed0 _, _, _, rfl, rfl, _, rfl, q, _, 0, _, rfl, rfl, SqT.of dq, ed0 _, _, _, rfl, rfl, _, _, rfl, ?_⟩
      refine for_range (lo := x1 - 3) (fun _ sg H' => ∃ v6 : Option V, sg = [some (.ref a), some (.int i), some (.ref p), some (.int far), some (.int (0 + (t : Nat))), some (.ref x), v6, v7, some (.ref q), some (.ref q2)] ∧ H' = Hd) ⟨_, rfl, rfl⟩ ?_ ?_
      · rintro m sg H3 hm ⟨v6', rfl, rfl⟩
        have hm' : m < 12 := by omega
        refine ⟨_, rfl, _, rfl, x, dxx, _, rfl, hx, x, _, _, rfl, R, .inr (.inl ⟨_, rfl, _, rfl, ?_⟩)⟩
        refine ⟨_, rfl, _, rfl, q, (x1, o1), _, rfl, SqT.of dq, rfl, _, rfl, iteFe ?_ ⟨_, rfl, rfl⟩⟩
        have bm : Bnd (x1 - 3 + (m : Nat)) := by
          have := (far_bnd hfar x10 x11).2 ((m : Int) - 3) (by omega) (by omega)
          rw [show x1 + ((m : Int) - 3) = x1 - 3 + (m : Nat) by omega] at this
          exact this
        rw [show mkR x1 o1 = mk (x1, o1) from rfl, inR_eq bx1 bo1 bm, decide_eq_true rfl]
        rfl
      · rintro sg H3 ⟨v6', rfl, rfl⟩
        -- if (9 * 10 ** 59 in one) != (ends[1] is None)
        refine ⟨_, _, rfl, rfl, ⟨by decide, by decide, by decide⟩, _, _, rfl, rfl, .inl ⟨by decide, by decide⟩, _, rfl, x, dxx, _, rfl, hx, x, _, _, rfl, R, .inr (.inl ⟨_, rfl, _, rfl, ?_⟩)⟩
        refine ⟨_, rfl, q, _, 1, _, rfl, rfl, SqT.of dq, ed1 _, rfl, rfl, _, rfl, iteFe ?_ ?_⟩
        · rw [show mkR x1 o1 = mk (x1, o1) from rfl, nine hfar x10 x11 ho1, decide_eq_true rfl]
          rfl
        -- for odd in [..]
        refine ⟨_, rfl, q, _, 0, _, rfl, rfl, SqT.of dq, ed0 _, _, rfl, lg bx1, ?_⟩
        refine ⟨_, rfl, q, _, 0, _, rfl, rfl, SqT.of dq, ed0 _, by show 1 ≤ sizeLine; decide, fun t1 nt1 => ?_⟩
        have s1' := same_new (o := .tup [.int x1]) nt1
        refine ⟨_, rfl, q, _, 0, _, rfl, rfl, SqT.of (s1' _ _ dq), ed0 _, by show 1 ≤ sizeLine; decide, fun t2 nt2 => ?_⟩
        have s2' := same_new' (o := .lst [.int x1]) s1' nt2
        intro t3 nt3
        have s3' := same_new' (o := .dK []) s2' nt3
        refine ⟨by show 7 ≤ sizeLine; decide, fun lo nlo => ?_⟩
        have s4' := same_new' (o := .lst [.non, .bl true, .bl false, .str (toString x1), .ref t1, .ref t2, .ref t3]) s3' nlo
        have n21 : t2 ≠ t1 := fun z => by rw [z, upd_same] at nt2; cases nt2
        have n31 : t3 ≠ t1 := fun z => by rw [z, upd_ne n21.symm, upd_same] at nt3; cases nt3
        have n32 : t3 ≠ t2 := fun z => by rw [z, upd_same] at nt3; cases nt3
        have nl1 : lo ≠ t1 := fun z => by rw [z, upd_ne n31.symm, upd_ne n21.symm, upd_same] at nlo; cases nlo
        have nl2' : lo ≠ t2 := fun z => by rw [z, upd_ne n32.symm, upd_same] at nlo; cases nlo
        have nl3 : lo ≠ t3 := fun z => by rw [z, upd_same] at nlo; cases nlo
        generalize hHe : upd (upd (upd (upd H3 t1 (.tup [.int x1])) t2 (.lst [.int x1])) t3 (.dK [])) lo (.lst [.non, .bl true, .bl false, .str (toString x1), .ref t1, .ref t2, .ref t3]) = He at s4'
        have e1 : He t1 = some (.tup [.int x1]) := by rw [← hHe, upd_ne nl1.symm, upd_ne n31.symm, upd_ne n21.symm, upd_same]
        have e2 : He t2 = some (.lst [.int x1]) := by rw [← hHe, upd_ne nl2'.symm, upd_ne n32.symm, upd_same]
        have e3 : He t3 = some (.dK []) := by rw [← hHe, upd_ne nl3.symm, upd_same]
        have el : He lo = some (.lst [.non, .bl true, .bl false, .str (toString x1), .ref t1, .ref t2, .ref t3]) := by rw [← hHe, upd_same]
        have hxe := s4' _ _ hx
        have Re : RAt C He x (mkR x1 o1) := ⟨dxx, hxe⟩
        refine ⟨lo, rfl, ⟨_, SqL.of (by first | exact upd_same | exact el)⟩, ?_⟩
        refine for_list (K := K) (a := lo) (xs := [.non, .bl true, .bl false, .str (toString x1), .ref t1, .ref t2, .ref t3]) (fun _ sg H' => ∃ v7 : Option V, sg = [some (.ref a), some (.int i), some (.ref p), some (.int far), some (.int (0 + (t : Nat))), some (.ref x), v6', v7, some (.ref q), some (.ref q2)] ∧ H' = He) ⟨_, rfl, by first | exact hHe | rfl⟩ (fun _ sg H' _ ⟨_, _, z⟩ => z ▸ SqL.of el) ?_ ?_
        · rintro j y sg H4 hj ⟨v7', rfl, rfl⟩
          have ty : ∃ tt, TyX K H4 y tt ∧ OddTy K C tt := by
            match j, hj with
            | 0, hj => cases hj; exact ⟨_, .base .non, o0⟩
            | 1, hj => cases hj; exact ⟨_, .base (.bl _), o1'⟩
            | 2, hj => cases hj; exact ⟨_, .base (.bl _), o1'⟩
            | 3, hj => cases hj; exact ⟨_, .base (.str _), o2'⟩
            | 4, hj => cases hj; exact ⟨_, .base (.tup e1), o3⟩
            | 5, hj => cases hj; exact ⟨_, .base (.lst e2), o4⟩
            | 6, hj => cases hj; exact ⟨_, .base (.dK e3), o5⟩
            | j + 7, hj => cases hj
          obtain ⟨tt, ty, od⟩ := ty
          refine ⟨_, rfl, _, rfl, x, dxx, _, rfl, hxe, x, _, _, rfl, Re, .inr (.inr ⟨tt, ty, od, _, rfl, _, rfl, iteF ⟨_, rfl, rfl⟩⟩)⟩
        · rintro sg H4 ⟨v7', rfl, rfl⟩
          -- the pairs
          have tq := SqT.of (K := K) (s4' _ _ dq)
          have tq2 := SqT.of (K := K) (s4' _ _ (sD _ _ cq2))
          refine ⟨_, rfl, _, rfl, q, q2, _, _, rfl, tq, tq2, bx1, bo1, bx2, bo2, fun H5 s5 => ⟨_, rfl, iteF ?_⟩⟩
          refine ⟨_, rfl, _, rfl, q2, q, _, _, rfl, same_tup s5 tq2, same_tup s5 tq, bx2, bo2, bx1, bo1, fun H6 s6 => ⟨_, rfl, iteF ?_⟩⟩
          have s56 := s5.trans s6
          refine ⟨_, rfl, _, rfl, q, q, _, _, rfl, same_tup s56 tq, same_tup s56 tq, bx1, bo1, bx1, bo1, fun H7 s7 => ⟨_, rfl, iteF ?_⟩⟩
          have s17 : Same Hc H7 := sD.trans (s4'.trans (s56.trans s7))
          exact ⟨_, _, _, _, _, _, rfl, sC.trans s17, _, _, s17 _ _ cp, ha5⟩
    · rintro sg H2 ⟨v4, v5, v6, v7, v8, v9, rfl, s2, _⟩
      exact ⟨_, _, _, _, _, _, _, _, _, rfl, s2⟩
  · rintro sg H1 ⟨v1, v2, v3, v4, v5, v6, v7, v8, v9, rfl, s1⟩
    exact k H1
end

end K03

namespace K03
open PySem PySem.Spec PyProof.Rows L2 Jg
local macro_rules | `(tactic| walk_at "rd1") => `(tactic| (first
  | refine ⟨_, rfl, ?_⟩
  | refine ⟨_, _, rfl, rfl, ?_⟩
  | refine ⟨_, _, rfl, ?_⟩
  | refine ⟨rfl, ?_⟩
  | (refine ⟨show (0 : Int) < _ by omega, ?_⟩)
  | (refine ⟨Or.inl ⟨by omega, by omega⟩, ?_⟩)
  | (refine ⟨Or.inr ⟨by omega, by omega⟩, ?_⟩)
  | (refine ⟨(⟨by decide, by decide, by decide⟩ : CPow _ _), ?_⟩)
  | refine Or.inl ⟨_, rfl, ?_⟩
  | refine Or.inr ⟨_, rfl, ?_⟩
  | fail "rd"))
local macro_rules | `(tactic| walk_at "rd") => `(tactic| repeat' walk_at "rd1")


theorem Txt.of {K : PySem.W.Frag} {h : Heap} {mg : Str → Option Value} {C : Addr} (X : K.In h) (G : h.Ns mainGlobals mg)
    (aC : PySem.W.nsIn K mainGlobals "Range" = some (some (.ref C)))
    (pg : PySem.W.plainGet K C Str.empty = true) (hd : PySem.W.hasDictIn K C = true) (po : PySem.W.plainOver K C = true) (sa : PySem.W.findIn K (.ref C) "__setattr__" = some (some (.builtin "object.__setattr__")))
    (nl : PySem.W.findIn K (.ref C) "_low" = some none) (nh : PySem.W.findIn K (.ref C) "_high" = some none) (sf : PySem.W.selfFirst K C = true)
    (aB : ∃ u, mg "BOUND" = some u ∧ L2.RelV (.int 1000000000000000000000000000000000000000000000000000000000000) u)
    (b1 : PySem.W.nsIn K mainGlobals "isinstance" = some none) (b2 : PySem.W.nsIn K mainGlobals "int" = some none) (b3 : PySem.W.nsIn K mainGlobals "bool" = some none) (b4 : PySem.W.nsIn K mainGlobals "str" = some none)
    (b5 : PySem.W.nsIn K mainGlobals "len" = some none) (b6 : PySem.W.nsIn K mainGlobals "max" = some none) (b7 : PySem.W.nsIn K mainGlobals "min" = some none) (b8 : PySem.W.nsIn K mainGlobals "range" = some none)
    (b9 : PySem.W.nsIn K mainGlobals "repr" = some none) (b10 : PySem.W.nsIn K mainGlobals "sorted" = some none) (b11 : PySem.W.nsIn K mainGlobals "set" = some none)
    (c1 : PySem.W.findIn K (.ref C) "__class__" = some (some (.builtin "object.__class__"))) (c2 : PySem.W.specialIn K (.builtin "object.__class__") "__get__" = some (some (.builtin "getset_descriptor.__get__"))) (c3 : PySem.W.takesIn K (.builtin "object.__class__") = some true)
    (c4 : PySem.W.mroIn K C (.type "object") = some true)
    (k1 : PySem.W.kitOne K (.ref C) (.ref C) = some true) (k2 : PySem.W.kitOne K (.type "NoneType") (.ref C) = some false) (k3 : PySem.W.kitOne K (.type "bool") (.ref C) = some false) (k4 : PySem.W.kitOne K (.type "int") (.ref C) = some false)
    (k5 : PySem.W.kitOne K (.type "str") (.ref C) = some false) (k6 : PySem.W.kitOne K (.type "list") (.ref C) = some false) (k7 : PySem.W.kitOne K (.type "tuple") (.ref C) = some false) (k8 : PySem.W.kitOne K (.type "dict") (.ref C) = some false)
    (k9 : PySem.W.kitOne K (.ref C) (.type "int") = some false) (k10 : PySem.W.notFirst K C (.ref C) = true) : Txt K mg C :=
  have n {x : Str} (z : PySem.W.nsIn K mainGlobals x = some none) : mg x = none := PySem.W.mg_none_of X G z
  ⟨⟨pg, hd, po, sa⟩, nl, nh, sf, PySem.W.mg_of X G aC, by rw [B_eq]; exact aB, n b1, n b2, n b3, n b4, n b5, n b6, n b7, n b8, n b9, n b10, n b11, c1, c2, c3, c4, k1, k2, k3, k4, k5, k6, k7, k8, k9, k10⟩
theorem odds {K : PySem.W.Frag} {mg : Str → Option Value} {C : Addr} (T : Txt K mg C) : OddTy K C (.type "NoneType") ∧ OddTy K C (.type "bool") ∧ OddTy K C (.type "str") ∧ OddTy K C (.type "tuple") ∧ OddTy K C (.type "list") ∧ OddTy K C (.type "dict") :=
  ⟨⟨T.kN, false, false, kit_ty (by decide +kernel), kit_ty (by decide +kernel), rfl⟩, ⟨T.kB, true, true, kit_ty (by decide +kernel), kit_ty (by decide +kernel), rfl⟩, ⟨T.kS, false, false, kit_ty (by decide +kernel), kit_ty (by decide +kernel), rfl⟩,
    ⟨T.kT, false, false, kit_ty (by decide +kernel), kit_ty (by decide +kernel), rfl⟩, ⟨T.kL, false, false, kit_ty (by decide +kernel), kit_ty (by decide +kernel), rfl⟩, ⟨T.kD, false, false, kit_ty (by decide +kernel), kit_ty (by decide +kernel), rfl⟩⟩

theorem fin {P : Program} {w : World} {K : PySem.W.Frag} {mg : Str → Option Value} {fa C : Addr} (hfa : mg "law" = some (.ref fa)) (T : Txt K mg C) (mk1 : PySem.W.makesIn K C = true) (mk2 : PySem.W.keepIn K (.ref C) = true)
    (d1 : DefK K mg "is_integer" s_is_integer) (d2 : DefK K mg "is_bounded" s_is_bounded) (d3 : MetK K C "__init__" "Range.__init__" s_Range_init) (d4 : MetK K C "covers" "Range.covers" s_Range_covers) (d5 : MetK K C "__contains__" "Range.__contains__" s_Range_contains)
    (d6 : MetK K C "is_before" "Range.is_before" s_Range_is_before) (d7 : DefK K mg "_law_stream" s_law_stream) (d8 : DefK K mg "_law_draw" s_law_draw) (d9 : DefK K mg "_law_choose" s_law_choose) (d10 : DefK K mg "_law_drawn" s_law_drawn)
    (d11 : DefK K mg "_law_is_empty" s_law_is_empty) (d12 : DefK K mg "_law_holds" s_law_holds) (d13 : DefK K mg "_law_covers" s_law_covers) (d14 : DefK K mg "_law_before" s_law_before) (d15 : DefK K mg "_law_pair_right" s_law_pair_right) (d16 : DefK K mg "law" s_law) :
    ∃ fd : FuncData, (∀ (s : Shared) (v : Value), BindsTo s fd ⟨[v], []⟩ [("script", v)]) ∧ ∀ base : Heap, K.In base → base.Ns mainGlobals mg → FnG P w K mg base CX0 6 fa fd ["script"] (spLaw K) := by
  obtain ⟨f, fd, F, m⟩ := d16.ex
  rw [hfa] at m
  cases m
  obtain ⟨o0, o1, o2, o3, o4, o5⟩ := odds T
  refine ⟨fd, ?_, fun base _ _ => ?_⟩
  · obtain ⟨_, _, _, _, _, _, _, _, _, rfl, _, _⟩ := F.ex
    exact fun s v => .of_eq rfl
  · have g1 := ok_is_integer (P := P) (w := w) (base := base) d1 T
    have g2 := ok_is_bounded (P := P) (w := w) (base := base) d2 T g1
    have g3 := ok_init (P := P) (w := w) (base := base) d3 T g2
    have g4 := ok_covers (P := P) (w := w) (base := base) d4 T
    have g5 := ok_contains (P := P) (w := w) (base := base) d5 T g4 g1
    have g6 := ok_before (P := P) (w := w) (base := base) d6 T
    have g7 := ok_stream (P := P) (w := w) (base := base) d7 T
    have g8 := ok_draw (P := P) (w := w) (base := base) d8
    have g9 := ok_choose (P := P) (w := w) (base := base) d9 T g8
    have g10 := ok_drawn (P := P) (w := w) (base := base) d10 T g8
    have g11 := ok_is_empty (P := P) (w := w) (base := base) d11
    have g12 := ok_holds (P := P) (w := w) (base := base) d12
    have g13 := ok_lcovers (P := P) (w := w) (base := base) d13 g11
    have g14 := ok_lbefore (P := P) (w := w) (base := base) d14 g11
    have M : Mak P w K mg base CX0 3 "Range" C (spInit C) := ⟨T.cRange, mk1, mk2, g3⟩
    have g15 := ok_pair (P := P) (w := w) (base := base) d15 T M g4 g6 g5 g13 g14
    exact fnG_of F sc_law (fun vs H Q E h => by obtain ⟨a, ns, rfl, _⟩ := h; rfl) fun cdv A outer s H vs Q E g hr h =>
      let ⟨t, a, q⟩ := body_law T o0 o1 o2 o3 o4 o5 M g5 g7 g9 g10 g12 g15 fa cdv A outer s H vs Q E (guards_deeper g) hr h
      ⟨t, a.nox, q⟩
theorem walk {l : PySem.W.OpenLaw} {q : Program} {loose : List Str} {XP : (Str → Option Value) → Heap → Prop} {YP : World → Heap → Prop} {d : DefRec} {K : Params → PySem.W.Frag} (hn : l.most = some 63) (hdf : d.params.defaults = [])
    (hY : ∀ (w : World) (h : Heap), YP w h → (K w.params).In h)
    (F : ∀ (w : World) (mg : Str → Option Value) (fa : Addr) (h : Heap), (K w.params).In h → h.Ns mainGlobals mg → mg d.name = some (.ref fa) → XP mg h →
      ∃ fd : FuncData, (∀ (s : Shared) (u : Value), BindsTo s fd ⟨[u], []⟩ [("script", u)]) ∧ ∀ base : Heap, (K w.params).In base → base.Ns mainGlobals mg → FnG l.prog w (K w.params) mg base CX0 6 fa fd ["script"] (spLaw (K w.params))) :
    PySem.W.WalkO q loose XP YP l.row.toRowW d [] (fun f vs => PySem.call f vs) :=
  walk_ofG (n := 63) (k := 6) (x := "script") (CX := fun _ => CX0) (sp := fun w => spLaw (K w.params)) hn (by decide) hdf ⟨rfl, by decide, by decide⟩ hY F (fun _ _ a ns hl _ hS => ⟨a, ns, rfl, hS, hl, fun _ => rfl⟩) fun _ _ _ _ _ z => z
end K03
open PySem PySem.W PyProof.Rows
local macro_rules | `(tactic| walk_at "dk") => `(tactic| (refine' Jg.DefK.of (by assumption) (by assumption) ?a ?l ?c ?k; (case a => k_is); (case l => k_is); (case c => k_is); (case k => k_is)))
local macro_rules | `(tactic| walk_at "mk") => `(tactic| (refine' Jg.MetK.of ?a ?i ?l ?c ?k; (case a => k_is); (case i => k_is); (case l => k_is); (case c => k_is); (case k => k_is)))
set_option maxRecDepth 100000 in
set_option maxHeartbeats 0 in
theorem PySem.Challenge.cw_gaplesskeys_k03_moments_in_ranges_holds : PySem.Challenge.rw_gaplesskeys_k03_moments_in_ranges.Holds := by
  w_on; o_law; k_head; (case hw => w_witness2)
  k_fill
  refine K03.walk (l := PySem.Challenge.rw_gaplesskeys_k03_moments_in_ranges) rfl rfl (fun w h Y => PySem.W.kIn_of Y) ?F
  case F =>
    intro w mg fa h KX G hmg XP
    refine' K03.fin hmg ?T ?mk1 ?mk2 ?d1 ?d2 ?d3 ?d4 ?d5 ?d6 ?d7 ?d8 ?d9 ?d10 ?d11 ?d12 ?d13 ?d14 ?d15 ?d16
    case T =>
      refine' K03.Txt.of KX G ?aC ?pg ?hd ?po ?sa ?nl ?nh ?sf ?aB ?b1 ?b2 ?b3 ?b4 ?b5 ?b6 ?b7 ?b8 ?b9 ?b10 ?b11 ?c1 ?c2 ?c3 ?c4 ?k1 ?k2 ?k3 ?k4 ?k5 ?k6 ?k7 ?k8 ?k9 ?k10
      case aC => k_is
      case aB => exact Jg.loose_int XP (List.Mem.head _)
      all_goals (first | k_is | kit_is)
    (case mk1 => k_is); (case mk2 => k_is)
    (case d1 => walk_at "dk"); (case d2 => walk_at "dk"); (case d3 => walk_at "mk"); (case d4 => walk_at "mk"); (case d5 => walk_at "mk"); (case d6 => walk_at "mk"); (case d7 => walk_at "dk"); (case d8 => walk_at "dk"); (case d9 => walk_at "dk"); (case d10 => walk_at "dk")
    (case d11 => walk_at "dk"); (case d12 => walk_at "dk"); (case d13 => walk_at "dk"); (case d14 => walk_at "dk"); (case d15 => walk_at "dk"); (case d16 => walk_at "dk")
#print axioms PySem.Challenge.cw_gaplesskeys_k03_moments_in_ranges_holds

