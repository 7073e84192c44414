import PyProof.Rows.All
import Wide.All
import OpenK.AllK
import Wide.FinOn
import HandS.ForMost
import HandS.IsInst
import HandS.ClsMeth
import HandS.Property
import HandS.Strs
import HandS.Wide
import PyProof.LongRange
import HandS.Exc
import PyProof.Rows.NestShow
import HandS.SetFor
import HandS.ExcInit
import HandS.ExcField
import HandS.ExcOwn
import HandS.WordsExc
import KE.KExcIs
import HandS.Small
import PyProof.Rows.Range3
import HandS.Style
import HandS.Codes
import KE.RegKIsAll
import HandS.ExcIs
import PySem.Challenge.RW_gaplesskeys_k01_ranges_made
set_option Elab.async false
set_option linter.all false
set_option maxRecDepth 100000
set_option maxHeartbeats 4000000
/-! own rules: own operators, long ranges, a class held by a local name, a classmethod without arguments -/
namespace Jg
open PySem PySem.Spec PyProof.Rows L2

section
variable {X : Cx} {CX : CXT} {n k : Nat} {C f : Addr} {fd : FuncData} {ps : List Str} {sp : Sp} {E : XK} {dvs : List V} {ds : List Value}
/-- what an own method must be to serve an operator -/
structure Own (K : PySem.W.Frag) (C : Addr) (m : Str) (f : Addr) : Prop where
  at_ : PySem.W.findIn K (.ref C) m = some (some (.ref f))
  fn : PySem.W.isFn K (.ref f) = true
theorem back_of {pins : List (Addr × Obj)} {σ : L2.St} {Q : VK} {v : Value} {s : Shared} (h : EP X pins σ Q v s) : PySem.W.CmpBack (EP X pins σ Q) v s := by
  obtain ⟨x, H', I, r, q⟩ := h
  cases v <;> first
    | exact ⟨x, H', I, r, q⟩
    | (exfalso; cases x <;> simp [L2.RelV] at r)
/-- x == y, x < y .. by the own method of x -/
def rOwn (K : PySem.W.Frag) (C : Addr) (sp : Sp) (E : XK) : R2 := fun x y H Q => ∃ a dx fs t, x = .ref a ∧ H a = some (.ins C dx fs) ∧ TyX K H y t ∧ PySem.W.notFirst K C t = true ∧ sp [.ref a, y] H Q E
theorem op_own {op : CmpOp} (F : FnOk X.prog X.w X.K X.mg X.base CX n f fd ps sp) (hr : Room n X.A) (o : Own X.K C (cmpInfo op).2.1 f) (hb : Binds X.K fd ps []) (hx : Passes CX X E)
    (hc : ∀ v u, compareOp op v u = richCompare op v u := by intro _ _; rfl) : OpR X (compareOp op) (rOwn X.K C sp E) := by
  intro pins s σ H x y v u Q I rx ry h
  obtain ⟨a, dx, fs, t, rfl, ha, ty, nf, q⟩ := h
  cases rx
  obtain ⟨mA, J, _⟩ := ins_get I.hok ha
  obtain ⟨od, J, _⟩ := J.look
  obtain ⟨m, hF⟩ := I.fr
  obtain ⟨P, Z, p, _⟩ := kit_of I ry ty
  rw [hc]
  refine PySem.W.cmp_K (op := op) (tb := t) hr.units0 hF I.ok.mod.kin J (Z.ty _ _ I.kIn p) nf o.at_ o.fn ?_
  exact wpAny_mono (run_fn (us := [.ref a, u]) (vs := [.ref a, y]) F hr hb .nil hx I (.cons rfl (.cons ry .nil)) q) (fun _ _ z => back_of z) fun _ _ z => z
/-- x & y, x + y .. of two instances of the class -/
def rOwnB (C : Addr) (sp : Sp) (E : XK) : R2 := fun x y H Q => ∃ a b dx fs dy gs, x = .ref a ∧ y = .ref b ∧ H a = some (.ins C dx fs) ∧ H b = some (.ins C dy gs) ∧ sp [.ref a, .ref b] H Q E
theorem op_ownB {op : Operator} (F : FnOk X.prog X.w X.K X.mg X.base CX n f fd ps sp) (hr : Room n X.A) (o : Own X.K C (PySem.dunder op.info.2) f) (hc : PySem.W.selfFirst X.K C = true) (hb : Binds X.K fd ps []) (hx : Passes CX X E) :
    OpR X (binaryOp op) (rOwnB C sp E) := by
  intro pins s σ H x y v u Q I rx ry h
  obtain ⟨a, b, dx, fs, dy, gs, rfl, rfl, ha, hb', q⟩ := h
  cases rx
  cases ry
  obtain ⟨mA, J, _⟩ := ins_get I.hok ha
  obtain ⟨od, J, _⟩ := J.look
  obtain ⟨mB, J', _⟩ := ins_get I.hok hb'
  obtain ⟨od', J', _⟩ := J'.look
  obtain ⟨m, hF⟩ := I.fr
  refine PySem.W.binop_K (op := op) hF I.ok.mod.kin J J'.type hc o.at_ o.fn ?_
  exact wpAny_mono (run_fn (us := [.ref a, .ref b]) (vs := [.ref a, .ref b]) F hr hb .nil hx I (.cons rfl (.cons rfl .nil)) q) (fun _ _ z => back_of z) fun _ _ z => z
/-- y in x by the own method of x -/
def rOwnIn (C : Addr) (sp : Sp) (E : XK) : R2 := fun y x H Q => ∃ a dx fs, x = .ref a ∧ H a = some (.ins C dx fs) ∧ sp [.ref a, y] H (fun v H' => ∃ b, v = .bl b ∧ Q (.bl b) H') E
def rOwnNotIn (C : Addr) (sp : Sp) (E : XK) : R2 := fun y x H Q => ∃ a dx fs, x = .ref a ∧ H a = some (.ins C dx fs) ∧ sp [.ref a, y] H (fun v H' => ∃ b, v = .bl b ∧ Q (.bl (!b)) H') E
theorem op_ownIn (F : FnOk X.prog X.w X.K X.mg X.base CX n f fd ps sp) (hr : Room n X.A) (o : Own X.K C "__contains__" f) (hb : Binds X.K fd ps []) (hx : Passes CX X E) :
    OpR X (compareOp .In) (rOwnIn C sp E) := by
  intro pins s σ H y x u v Q I ry rx h
  obtain ⟨a, dx, fs, rfl, ha, q⟩ := h
  cases rx
  obtain ⟨mA, J, _⟩ := ins_get I.hok ha
  obtain ⟨od, J, _⟩ := J.look
  obtain ⟨m, hF⟩ := I.fr
  refine PySem.W.in_K hF I.ok.mod.kin J o.at_ o.fn ?_
  refine wpAny_mono (run_fn (us := [.ref a, u]) (vs := [.ref a, y]) F hr hb .nil hx I (.cons rfl (.cons ry .nil)) q) (fun r s' z => ?_) fun _ _ z => z
  obtain ⟨w', H', I', rw', b, rfl, q'⟩ := z
  cases (show r = Value.bool b from rw')
  exact wpAny_truthy_bool ⟨.bl _, H', I', rfl, q'⟩
theorem op_ownNotIn (F : FnOk X.prog X.w X.K X.mg X.base CX n f fd ps sp) (hr : Room n X.A) (o : Own X.K C "__contains__" f) (hb : Binds X.K fd ps []) (hx : Passes CX X E) :
    OpR X (compareOp .NotIn) (rOwnNotIn C sp E) := by
  intro pins s σ H y x u v Q I ry rx h
  obtain ⟨a, dx, fs, rfl, ha, q⟩ := h
  cases rx
  obtain ⟨mA, J, _⟩ := ins_get I.hok ha
  obtain ⟨od, J, _⟩ := J.look
  obtain ⟨m, hF⟩ := I.fr
  refine PySem.W.notIn_K hF I.ok.mod.kin J o.at_ o.fn ?_
  refine wpAny_mono (run_fn (us := [.ref a, u]) (vs := [.ref a, y]) F hr hb .nil hx I (.cons rfl (.cons ry .nil)) q) (fun r s' z => ?_) fun _ _ z => z
  obtain ⟨w', H', I', rw', b, rfl, q'⟩ := z
  cases (show r = Value.bool b from rw')
  exact wpAny_truthy_bool ⟨.bl _, H', I', rfl, q'⟩
end

/-! ### cls(e, ..), cls a local name that holds the class -/
def tMakeL (i : Nat) (C : Addr) (sp : Sp) (dvs : List V) (E : XK) (t : TA) : TE := fun σ H Q => σ[i]? = some (some (.ref C)) ∧ tMake C sp dvs E t σ H Q
section
variable {X : Cx} {CX : CXT} {k i : Nat} {C f : Addr} {fd : FuncData} {ps : List Str} {sp : Sp} {dvs : List V} {ds : List Value} {E : XK} {x : Str} {p pos : Pos} {e : Expr} {es : List Expr} {t : TA}
theorem pe_makeL (M : Mk X.K C f) (F : FnOk X.prog X.w X.K X.mg X.base CX k f fd ps sp) (hr : Room (k + 1) X.A) (hN : X.N[i]? = some x) (hv : Vis X.env.scope x) (hb : Binds X.K fd ps ds) (hd : Vals dvs ds) (hx : Passes CX X E) (ha : PA X (e :: es) t)
    (hdb : (x == ("__debug__" : Str)) = false := by decide) (hcd : (x == ("__classdict__" : Str)) = false := by decide)
    (he : starEach (e :: es) X.env = (false, eval e X.env) :: starEach es X.env := by rfl) (hpl : (backTo pos (starEach es X.env)).any (·.1) = false := by rfl) : PE X (.Call (.Name x p) (e :: es) [] pos) (tMakeL i C sp dvs E t) := by
  refine ⟨fun pins s σ H Q I h => ?_⟩
  obtain ⟨hs, ht⟩ := h
  refine wpAny_Call_Name_kw (thn ((pe_var (pos := p) hN hv hdb hcd).run pins s σ H (fun v H1 => v = .ref C ∧ H1 = H) I ⟨.ref C, hs, rfl, rfl⟩) fun u s1 ⟨v, H1, I1, r1, q1⟩ => ?_)
  obtain ⟨rfl, rfl⟩ := q1
  cases r1
  refine PySem.W.callWith_K (h₀ := X.base) I.ok.mod.kin M.kp (thn (ha.run pos pins s1 σ _ _ I1 ht) fun us s2 ⟨vs, H2, I2, r, q⟩ => ⟨I2.kIn, ?_⟩) he hpl
  exact run_make M F hr hb hd hx I2 r q
end

/-! ### C.m() , m a classmethod, no argument -/
section
open ClX
variable {X : Cx} {CX : CXT} {k : Nat} {C p g : Addr} {mc : Value} {sp : Sp} {E : XK} {o : Expr} {m : Str} {pos apos : Pos} {ta : TE} {pl : Sem Bool}
theorem pe_cmeth0 (he : PE X o ta) (r : CRead X.K C mc) (c : CMet X.K C mc m p g) (F : FnR X.prog X.w X.K X.mg X.base CX k g sp) (hr : Room k X.A) (hx : Passes CX X E)
    (ht : eval (.Call (.Attribute o m apos) [] [] pos) X.env = (do
      let ov ← eval o X.env
      standAt apos.atName
      let (f, first) ← holding [ov] (getMethod ov m pl)
      callWith pos f first (backTo pos (starEach [] X.env)) (backToKw pos (keywordEach [] X.env))) := by rfl) :
    PE X (.Call (.Attribute o m apos) [] [] pos) (tCMeth C sp E ta tNil) := by
  refine ⟨fun pins s σ H Q I h => ?_⟩
  refine PySem.W.methodCall_KW (pl := pl) (thn (he.run pins s σ H _ I h) fun u s1 ⟨x, H1, I1, rx, ex, q⟩ => ?_) ht
  subst ex
  obtain rfl : u = Value.ref C := rx
  refine getmethcm_ok I1 r c fun s2 I2 => ?_
  refine PySem.W.callWith_M0 (K := X.K) (first := []) ⟨pin_at I2, I2.kIn⟩ c.fi ?_
  exact run_cm F hr hx I2 .nil q
end

/-! ### range(a, b) of any size -/
theorem turn_long {P : Program} {w : World} {K : PySem.W.Frag} {tg : Expr} (it : Addr) (lo : Int) (n : Nat) : Turn P w K tg (Itr lo n) [it] it (fun i h => IsLongIter h it (lo + (i : Nat) * 1) ((n : Int) - (i : Nat)) 1) where
  mem := by simp
  obj := fun i h st b hb => by
    have e : b = it := by simpa using hb
    subst e
    exact ⟨_, st, fun v z => by
      have z' : Data.fields _ = Data.cell v := z
      cases z'⟩
  keep := fun i h h' st k => k it (by simp) _ st
  item := by
    intro X hP hw hK hc i pins s σ H E I hf st hg
    subst hP hw hK
    obtain ⟨f0, f1, f2, f3, f4, f5⟩ := hf it (by simp)
    have W := Walks.longrange (prog := X.prog) (w := X.w) (I.ok.hd hc) it lo 1 n
    refine W.item i s _ _ hg st fun v h' tk hv st' kk => ?_
    obtain ⟨t, rfl⟩ := hv
    have I1 : Inv X pins σ H { s with heap := h', toks := tk } := I.turned (fun b o hb e => kk b o (by simpa using hb) e) f0 f1 f3 f4 f5
    refine ⟨_, rfl, go_of (s := { s with heap := h', toks := tk }) (n := "longrange_iterator") st' rfl rfl (by decide) ⟨.int (lo + i), H, I1, ⟨t, ?_⟩, ⟨rfl, rfl⟩, st', fun b hb => (hf b hb).1⟩⟩
    rw [Int.mul_one]
  done := by
    intro X hP hw hK hc i pins s σ H E I hf st hg
    subst hP hw hK
    obtain ⟨f0, f1, f2, f3, f4, f5⟩ := hf it (by simp)
    exact wpAny_pyNext_long_end (I.ok.hd hc) st (by have : n ≤ i := hg; omega) fun h' eb => ⟨rfl, I.turned (t' := s.toks) (fun b o hb e => eb b o hb e) f0 f1 f3 f4 f5⟩
  self := fun _ _ _ _ _ st h => wpAny_pyIter_longiter st h
section
variable {X : Cx} {tg : Expr}
theorem rsize_nat (lo hi : Int) : (((hi - lo).toNat : Nat) : Int) = Builtin.Range.rangeSize lo hi 1 := by
  rw [rangeSize_one]; split <;> omega
theorem rangeW_it {pins : List (Addr × Obj)} {σ : L2.St} {H : Hp} {s : Shared} {R : It → Hp → Prop} {E : Value → Shared → Prop} {lo hi : Int} {t u v : Tok} {tk : Nat} (I : Inv X pins σ H s)
    (q : R (Itr lo (hi - lo).toNat) H) : wpAny (model X.prog X.w) X.A (pyIter (.ref s.heap.objs.size)) (PIE X pins σ tg R) E { s with heap := s.heap.push { cls := .type "range", data := .fields #[.int lo t, .int hi u, .int 1 v] }, toks := tk } := by
  have I1 : Inv X pins σ H { s with heap := s.heap.push { cls := .type "range", data := .fields #[.int lo t, .int hi u, .int 1 v] }, toks := tk } := I.kept fun b o e => Heap.get?_push_of_some _ e
  cases hs : Builtin.Range.small lo hi 1 with
  | true =>
    refine wpAny_pyIter_range (IsRange.new ..) hs ?_
    refine ⟨(s.heap.push { cls := .type "range", data := .fields #[.int lo t, .int hi u, .int 1 v] }).objs.size, [(s.heap.push { cls := .type "range", data := .fields #[.int lo t, .int hi u, .int 1 v] }).objs.size], _, _, H, rfl,
      I1.kept (t' := tk) fun b o e => Heap.get?_push_of_some _ e, turn_range _ lo (hi - lo).toNat, ?_, fun b hb => ?_, q⟩
    · have e1 : lo + ((0 : Nat) : Int) * 1 = lo := by simp
      have e2 : (((hi - lo).toNat : Nat) : Int) - ((0 : Nat) : Int) = Builtin.Range.rangeSize lo hi 1 := by rw [rsize_nat]; simp
      show IsRangeIter _ _ (lo + ((0 : Nat) : Int) * 1) ((((hi - lo).toNat : Nat) : Int) - ((0 : Nat) : Int)) 1
      rw [e1, e2]
      exact Heap.get?_push_size _ rfl
    · have e : b = (s.heap.push { cls := .type "range", data := .fields #[.int lo t, .int hi u, .int 1 v] }).objs.size := by simpa using hb
      subst e
      exact I1.fpOk (Nat.le_refl _) (I1.hok.fresh (Nat.le_refl _))
  | false =>
    refine wpAny_pyIter_longrange (IsRange.new ..) hs ?_
    refine ⟨(s.heap.push { cls := .type "range", data := .fields #[.int lo t, .int hi u, .int 1 v] }).objs.size, [(s.heap.push { cls := .type "range", data := .fields #[.int lo t, .int hi u, .int 1 v] }).objs.size], _, _, H, rfl,
      I1.kept (t' := tk) fun b o e => Heap.get?_push_of_some _ e, turn_long _ lo (hi - lo).toNat, ?_, fun b hb => ?_, q⟩
    · have e1 : lo + ((0 : Nat) : Int) * 1 = lo := by simp
      have e2 : (((hi - lo).toNat : Nat) : Int) - ((0 : Nat) : Int) = Builtin.Range.rangeSize lo hi 1 := by rw [rsize_nat]; simp
      show IsLongIter _ _ (lo + ((0 : Nat) : Int) * 1) ((((hi - lo).toNat : Nat) : Int) - ((0 : Nat) : Int)) 1
      rw [e1, e2]
      exact Heap.get?_push_size _ rfl
    · have e : b = (s.heap.push { cls := .type "range", data := .fields #[.int lo t, .int hi u, .int 1 v] }).objs.size := by simpa using hb
      subst e
      exact I1.fpOk (Nat.le_refl _) (I1.hok.fresh (Nat.le_refl _))
def iRng2W (ta : TA) : TI := fun σ H R => ta σ H fun vs H1 => ∃ i j : Int, vs = [.int i, .int j] ∧ R (Itr i (j - i).toNat) H1
theorem pi_range2W {a b : Expr} {ta : TA} {p pos : Pos} (hg : Gl X "range") (hm : X.mg "range" = none) (ha : PA X [a, b] ta) (hs : starEach [a, b] X.env = [(false, eval a X.env), (false, eval b X.env)] := by rfl) (hs2 : starEach [b] X.env = [(false, eval b X.env)] := by rfl) :
    PI X tg (.Call (.Name "range" p) [a, b] [] pos) (iRng2W ta) := by
  refine ⟨fun pins s σ H R I h => ?_⟩
  refine Call_ (ld_blt I hg hm boot_range (PyProof.Rows.callWith_type1 (thn (ha.run pos pins s σ H _ I h) fun us s1 ⟨vs, H1, I1, r1, q1⟩ => ?_) (by rw [hs, hs2]) (by rw [hs2]; rfl)))
  obtain ⟨i, j, e, q⟩ := q1
  subst e
  cases r1 with
  | cons r rr =>
    cases rr with
    | cons r' rr =>
      cases rr
      obtain ⟨t, rfl⟩ := r
      obtain ⟨t', rfl⟩ := r'
      exact call_range_2 (rangeW_it I1 q)
end
end Jg

/-! defs that are called where no repr is under way, repr of data, and the law's end over such a def -/
namespace Jg
open PySem PySem.Spec PyProof.Rows L2

/-- a def's promise where no repr is under way -/
structure FnG (P : Program) (w : World) (K : PySem.W.Frag) (mg : Str → Option Value) (base : Heap) (CX : CXT) (k : Nat) (f : Addr) (fd : FuncData) (ps : List Str) (sp : Sp) : Prop where
  len : ∀ vs H Q E, sp vs H Q E → vs.length = ps.length
  run : ∀ (A : Around), A.guards = some [] → ∀ (outer : List Env) (s : Shared) (H : Hp) (args : Args) (us : List Value) (vs : List V) (Q : VK) (E : XK), Room k A → Env0 P w K mg base A outer s H → BindsTo s fd args (ps.zip us) → Vals vs us → sp vs H Q E →
    codeAny (model P w) A (.call (.ref f) args) (CR CX outer P w H s Q E) s
theorem FnG.of {P : Program} {w : World} {K : PySem.W.Frag} {mg : Str → Option Value} {base : Heap} {CX : CXT} {k : Nat} {f : Addr} {fd : FuncData} {ps : List Str} {sp : Sp} (F : FnOk P w K mg base CX k f fd ps sp) : FnG P w K mg base CX k f fd ps sp :=
  ⟨F.len, fun A _ => F.run A⟩
theorem FnG.mono {P : Program} {w : World} {K : PySem.W.Frag} {mg : Str → Option Value} {base : Heap} {CX : CXT} {j k : Nat} {f : Addr} {fd : FuncData} {ps : List Str} {sp : Sp} (F : FnG P w K mg base CX j f fd ps sp) (h : j ≤ k) :
    FnG P w K mg base CX k f fd ps sp := ⟨F.len, fun A g outer s H args us vs Q E hr => F.run A g outer s H args us vs Q E (hr.mono h)⟩

section
variable {X : Cx} {CX : CXT} {k : Nat} {f : Addr} {fd : FuncData} {ps : List Str} {sp : Sp} {dvs : List V} {ds : List Value} {E : XK} {x : Str} {p pos : Pos} {e : Expr} {es : List Expr} {t : TA}
theorem run_fnG {pins : List (Addr × Obj)} {σ : L2.St} {H : Hp} {s : Shared} {Q : VK} {us : List Value} {vs : List V} (F : FnG X.prog X.w X.K X.mg X.base CX k f fd ps sp) (g : X.A.guards = some []) (hr : Room k X.A) (hb : Binds X.K fd ps ds) (hd : Vals dvs ds) (hx : Passes CX X E)
    (I : Inv X pins σ H s) (r : Vals vs us) (h : sp (vs ++ dvs) H Q E) : wpAny (model X.prog X.w) X.A (call (.ref f) us) (EP X pins σ Q) X.xe s := by
  have both := r.append hd
  have hl : (us ++ ds).length = ps.length := both.length.symm.trans (F.len _ _ _ _ h)
  have go := F.run X.A g X.stack s H ⟨us, []⟩ (us ++ ds) (vs ++ dvs) Q E hr I.env0 (hb s us I.kIn hl) both h
  refine wpAny_call (codeAny_mono go fun r s' hq => ?_)
  match r, hq with
  | .error e, hq => exact hx pins σ H s e s' I hq
  | .ok (.ret u), hq => exact I.after hq
/-- f(e, ..) -/
theorem pe_callG (F : FnG X.prog X.w X.K X.mg X.base CX k f fd ps sp) (g : X.A.guards = some []) (hr : Room k X.A) (hg : Gl X x) (hm : X.mg x = some (.ref f)) (hk : PySem.W.keepIn X.K (.ref f) = true) (hb : Binds X.K fd ps ds) (hd : Vals dvs ds) (hx : Passes CX X E)
    (ha : PA X (e :: es) t) (hdb : (x == ("__debug__" : Str)) = false := by decide) (he : starEach (e :: es) X.env = (false, eval e X.env) :: starEach es X.env := by rfl) (hpl : (backTo pos (starEach es X.env)).any (·.1) = false := by rfl) :
    PE X (.Call (.Name x p) (e :: es) [] pos) (tCall sp dvs E t) :=
  ⟨fun pins s σ H Q I h => wpAny_Call_Name_kw (ld_glob I hg hm (PySem.W.callWith_K (h₀ := X.base) I.ok.mod.kin hk (thn (ha.run pos pins s σ H _ I h) fun _ _ ⟨_, _, I1, r, q⟩ => ⟨I1.kIn, run_fnG F g hr hb hd hx I1 r q⟩) he hpl) hdb)⟩
end

theorem guards_deeper {A : Around} {e : Env} (h : A.guards = some []) : (A.deeper e).guards = some [] := by
  first | exact h | (unfold Around.deeper; simpa using h)

section
variable {P : Program} {w : World} {K : PySem.W.Frag} {mg : Str → Option Value} {base : Heap}
/-- a def of the text, its body walked where no repr is under way -/
theorem fnG_of {CX : CXT} {k : Nat} {x qual : Str} {st : Stmt} {f : Addr} {fd : FuncData} {N ps : List Str} {sp : Sp} (F : Fun K x qual st f fd) (S : FnScope N ps (defScope st)) (len : ∀ vs H Q E, sp vs H Q E → vs.length = ps.length)
    (hbody : ∀ (cdv : Value) (A : Around) (outer : List Env) (s : Shared) (H : Hp) (vs : List V) (Q : VK) (E : XK), A.guards = some [] → Room k (A.deeper (envOfC qual (defScope st) s.heap.objs.size f cdv)) → sp vs H Q E →
      ∃ t, PSs (cxOf CX P w K mg base N qual (defScope st) f cdv A outer s H E) (defBody st) t ∧ t { nx := fun _ H' => Q .non H', rt := Q } (start N vs) H) : FnG P w K mg base CX (k + 1) f fd ps sp := by
  obtain ⟨oc, od, kV, doc, pm, an, cdv, ct, osl, rfl, lk, hcd⟩ := F.ex
  refine ⟨len, fun A g outer s H args us vs Q E hr e0 hb r hsp => ?_⟩
  have inHeap : K.In s.heap := e0.mod.kin.keeps fun b o e => (e0.bs b o e).1
  have kinds : ∀ y ∈ ps.zip us, (defScope st).names.lookup y.1 = some .local ∨ ((defScope st).names.lookup y.1 = some .cell ∧ ((cellsFrom (s.heap.objs.size + 1) (defScope st).names []).lookup y.1).isSome = true) := fun y hy =>
    (S.par y.1 (List.of_mem_zip hy).1).imp id fun q => ⟨q, PySem.W.cellsFrom_some _ _ _ (.inl q)⟩
  refine codeAny_call_function hr.depth (inHeap _ _ lk) rfl S.co S.gen rfl (PySem.W.codeRec_of inHeap hcd) (hb _ _ _ _ ?_)
  refine wpAny_newFunctionEnv_cells S.kind kinds fun env he s1 y => ?_
  subst he
  obtain ⟨t, ht, hq⟩ := hbody cdv A outer s H vs Q E g (hr.deeper _) hsp
  have I := inv_start (CX := CX) (E := E) S hr.hd e0 (len _ _ _ _ hsp) r y
  refine ⟨(e0.mod.nolimit.keeps fun b o e => (e0.bs b o e).1).keeps y.toInCall.keep, codeAny_func (wpAny_mono (ht.run [] s1 (start N vs) H _ I hq) (fun fl s' hs => ?_) fun _ _ hs => hs)⟩
  match fl, hs with
  | .ret u, ⟨v, _, H', J, rv, q⟩ => exact ⟨v, H', J.os, J.bare, J.base, J.hok, rv, q⟩
  | .next, ⟨_, H', J, q⟩ => exact ⟨.non, H', J.os, J.bare, J.base, J.hok, rfl, q⟩
  | .brk, ⟨_, _, _, q⟩ => exact False.elim q
  | .cont, ⟨_, _, _, q⟩ => exact False.elim q
end

/-! ### repr of data -/
theorem noDict : ∀ (K : PySem.W.Frag) (H : Hp) (d : PyData) (v : V), Dp K H v d → d.hasDict = false := by
  intro K H d v h
  refine Dp.rec (motive_1 := fun _ d _ => d.hasDict = false) (motive_2 := fun _ ds _ => PyData.hasDictAll ds = false) ?_ ?_ ?_ ?_ ?_ ?_ ?_ ?_ h
  · rfl
  · intro b; rfl
  · intro i; rfl
  · intro x; rfl
  · intro a xs ds _ _ ih; exact ih
  · intro a xs ds _ _ ih; exact ih
  · rfl
  · intro v vs d ds _ _ h1 h2
    show (PyData.hasDict d || PyData.hasDictAll ds) = false
    rw [h1, h2]; rfl
def rRepr (K : PySem.W.Frag) : List V → Hp → VK → Prop := fun xs H Q => ∃ a d, xs = [.ref a] ∧ Dp K H (.ref a) d ∧ d.showable = true ∧ d.depth ≤ 40 ∧ d.shown.length ≤ sizeLine ∧ Q (.str d.shown) H
section
variable {X : Cx}
theorem call_reprD (g : X.A.guards = some []) (hu : X.A.units + 64 < cLine) : CallR X (.builtin "repr") (rRepr X.K) := by
  intro pins s σ H xs us Q I r h
  obtain ⟨a, d, rfl, hd, hs, dp, hz, q⟩ := h
  obtain ⟨u, rfl, ru⟩ := vals1 r
  cases ru
  obtain ⟨as, R⟩ := Dp.reads I d (.ref a) (.ref a) hd rfl
  refine repr_of_reads' R hs (PyData.noDict_hsm (noDict _ _ _ _ hd)) g (by omega) (fun _ _ e => e) (fun h' u tk hk => ?_) hz
  exact ⟨.str d.shown, H, I.kept hk, ⟨_, rfl⟩, q⟩
end

/-! ### the end -/
theorem law_callG {P : Program} {w : World} {K : PySem.W.Frag} {mg mb : Str → Option Value} {CX : CXT} {k : Nat} {fa a : Addr} {fd : FuncData} {x : Str} {sp : Sp} {s₁ : Shared} {vs : List Value} {ns : List Int}
    (KX : K.In s₁.heap) (hns : s₁.heap.Ns mainGlobals mg) (hb : s₁.heap.Ns builtinsNs mb) (hbb : ∀ x : Str, x ≠ "__name__" → mb x = bootBuiltins x) (hlim : s₁.heap.NoLimit) (hg : s₁.gens = #[])
    (ha : s₁.heap.get? a = some { cls := .type "list", data := .seq vs.toArray }) (hi : IntsAre vs ns) (hl : ns.length ≤ sizeLine) (hr : Room k callerA)
    (F : ∀ base : Heap, K.In base → base.Ns mainGlobals mg → FnG P w K mg base CX k fa fd [x] sp) (hbind : ∀ (s : Shared) (u : Value), BindsTo s fd ⟨[u], []⟩ [(x, u)])
    (hsp : ∀ H : Hp, Only H → SqL K H a (ns.map V.int) → sp [.ref a] H (fun v _ => v = .bl true) fun _ _ _ => False)
    (hCX : ∀ H e s', CX [] H s₁ (fun _ _ _ => False) e s' → False) :
    codeAny (model P w) callerA (.call (.ref fa) ⟨[.ref a], []⟩) (fun r s' => r = .ok (.ret (.bool true)) ∧ OldK s₁.heap s'.heap ∧ s'.os = s₁.os ∧ AllBare s'.gens) s₁ := by
  have lenV := hi.length
  let scriptO : Obj := { cls := .type "list", data := .seq vs.toArray }
  -- what is tracked: the script, unless it is one of the module's own objects
  let H : Hp := fun b => if b = a ∧ K.lookup a = none then some (.frz scriptO (.lst (ns.map V.int))) else none
  have H1 : ∀ b u, H b = some u → b = a ∧ K.lookup a = none ∧ u = .frz scriptO (.lst (ns.map V.int)) := fun b u e => by
    show b = a ∧ _ ∧ _
    by_cases c : b = a ∧ K.lookup a = none
    · have e' : some (HO.frz scriptO (.lst (ns.map V.int))) = some u := (if_pos c).symm.trans e
      exact ⟨c.1, c.2, (Option.some.inj e').symm⟩
    · have e' : (none : Option HO) = some u := (if_neg c).symm.trans e
      cases e'
  have only : Only H := fun b => by
    cases e : H b with
    | none => exact .inl rfl
    | some u =>
      obtain ⟨_, _, rfl⟩ := H1 b u e
      exact .inr ⟨_, _, rfl⟩
  have seq : SqL K H a (ns.map V.int) := by
    cases hk : K.lookup a with
    | none => exact .inl (.inr ⟨scriptO, if_pos ⟨rfl, hk⟩⟩)
    | some o =>
      have e := KX a o hk
      rw [ha] at e
      cases e
      exact .inr ⟨_, vs.toArray, _, hk, rfl, rfl, rfl, by rw [List.size_toArray, lenV]; exact hl, by simpa using vals_ints hi⟩
  have ok : HOk P w H s₁.heap := fun b u e => by
    obtain ⟨rfl, _, rfl⟩ := H1 b u e
    exact ⟨ha, by rw [List.length_map]; exact hl, vs, _, vals_ints hi, ha⟩
  -- objects of other kinds than the script are not tracked
  have dictFree : ∀ {b : Addr} {o : Obj} {es : Array DictEntry} {ep : Nat}, s₁.heap.get? b = some o → o.data = .dict es ep → H b = none := fun {b o es ep} e d => by
    cases q : H b with
    | none => rfl
    | some u =>
      obtain ⟨rfl, _, _⟩ := H1 b u q
      rw [ha] at e
      cases e
      exact nomatch (show Data.seq vs.toArray _ = Data.dict es ep from d)
  have ns0 : ∀ {b : Addr} {m : Str → Option Value}, s₁.heap.Ns b m → (hidT s₁.heap H).Ns b m := fun {b m} ⟨o, es, ep, e, d, r⟩ => ⟨o, es, ep, hidT_get e (dictFree e d), d, r⟩
  have kin0 : K.In (hidT s₁.heap H) := fun b o e => hidT_get (KX b o e) (by
    cases q : H b with
    | none => rfl
    | some u =>
      obtain ⟨rfl, hk, _⟩ := H1 b u q
      rw [hk] at e; cases e)
  have md : Mod K mg (hidT s₁.heap H) := ⟨kin0, ns0 hns, ⟨mb, ns0 hb, hbb⟩, let ⟨mc, c1, c2⟩ := hlim; ⟨mc, ns0 c1, c2⟩⟩
  have e0 : Env0 P w K mg (hidT s₁.heap H) callerA [] s₁ H := ⟨rfl, md, fun b o e => of_hidT e, Nat.le_of_eq (hidT_size _ _), trivial, fun b hb => absurd (show b ∈ ([] : List Addr) from hb) (by simp), ok, .of_eq hg⟩
  have go := (F _ kin0 (ns0 hns)).run callerA rfl [] s₁ H ⟨[.ref a], []⟩ [.ref a] [.ref a] _ _ hr e0 (hbind s₁ (.ref a)) (.cons rfl .nil) (hsp H only seq)
  refine codeAny_mono go fun r s' h => ?_
  match r, h with
  | .error e, h => exact (hCX H e s' h).elim
  | .ok (.ret u), ⟨v, H', os, bare, un, hok', r', q⟩ =>
    have q' : v = .bl true := q
    subst q'
    cases (show u = Value.bool true from r')
    refine ⟨rfl, OldK.of_keep fun b o e => ?_, os, bare⟩
    cases q : H b with
    | none => exact un.keep b o e q (fun z => absurd (show b ∈ ([] : List Addr) from z) (by simp)) (by simp)
    | some u =>
      obtain ⟨rfl, _, rfl⟩ := H1 b u q
      have w2 := (hok' _ _ (un.frzs _ _ _ q)).1
      rw [ha] at e
      cases e
      exact w2
theorem walk_ofG {l : PySem.W.OpenLaw} {n k : Nat} {q : Program} {loose : List Str} {XP : (Str → Option Value) → Heap → Prop} {YP : World → Heap → Prop} {d : DefRec} {K : Params → PySem.W.Frag} {CX : World → CXT} {sp : World → Sp} {x : Str}
    (hn : l.most = some n) (hn2 : n ≤ sizeLine) (hdf : d.params.defaults = []) (hr : Room k callerA)
    (hY : ∀ (w : World) (h : Heap), YP w h → (K w.params).In h)
    (F : ∀ (w : World) (mg : Str → Option Value) (fa : Addr) (h : Heap), (K w.params).In h → h.Ns mainGlobals mg → mg d.name = some (.ref fa) → XP mg h →
      ∃ fd : FuncData, (∀ (s : Shared) (u : Value), BindsTo s fd ⟨[u], []⟩ [(x, u)]) ∧
        ∀ base : Heap, (K w.params).In base → base.Ns mainGlobals mg → FnG l.prog w (K w.params) mg base (CX w) k fa fd [x] (sp w))
    (hsp : ∀ (w : World) (H : Hp) (a : Addr) (ns : List Int), ns.length ≤ n → Only H → SqL (K w.params) H a (ns.map V.int) → sp w [.ref a] H (fun v _ => v = .bl true) fun _ _ _ => False)
    (hCX : ∀ (w : World) (H : Hp) (s : Shared) (e : Value) (s' : Shared), CX w [] H s (fun _ _ _ => False) e s' → False) :
    PySem.W.WalkO q loose XP YP l.row.toRowW d [] (fun f vs => PySem.call f vs) :=
  Att.attach_call hn hdf fun w _ s₁ mg mb fa _ _ _ _ a vs ns G Y _ _ _ hmg hobj hints hlen hg =>
    let ⟨_, hb, hF⟩ := F w mg fa _ (hY w _ Y) G.T.g hmg G.X
    law_callG (hY w _ Y) G.T.g G.T.b G.T.builtins G.T.nolimit hg hobj hints (Nat.le_trans hlen hn2) hr hF hb (fun H hO hS => hsp w H a ns hlen hO hS) fun H e s' => hCX w H s₁ e s'
/-- a number that the top keeps under a name, whatever its token -/
theorem loose_int {p : Program} {lv : List (Str × PySem.W.WData)} {mg : Str → Option Value} {h : Heap} {x : Str} {i : Int} (X : PySem.W.XL p lv mg h) (hm : (x, PySem.W.WData.int i) ∈ lv) : ∃ u, mg x = some u ∧ L2.RelV (.int i) u := by
  obtain ⟨v, e, r⟩ := X.2.val _ hm
  cases r
  exact ⟨_, e, _, rfl⟩
end Jg

/-! defs, methods, properties and classes by their names: addresses hidden -/
namespace Jg
open PySem PySem.Spec PyProof.Rows L2

theorem iteFe {A D : Prop} {b : Bool} (e : b = false) (h : D) : if b = true then A else D := by rw [e]; exact iteF h
theorem iteTe {A D : Prop} {b : Bool} (e : b = true) (h : A) : if b = true then A else D := by rw [e]; exact iteT h
/-- a def of the module as the top leaves it -/
structure DefK (K : PySem.W.Frag) (mg : Str → Option Value) (x : Str) (st : Stmt) : Prop where
  ex : ∃ f fd, Fun K x x st f fd ∧ mg x = some (.ref f)
theorem DefK.of {K : PySem.W.Frag} {h : Heap} {mg : Str → Option Value} {x : Str} {st : Stmt} {f : Addr} {oc : Value} {od an : Option Addr} {osl : Array (Option Value)} {kV doc pm cdv ct : Value} (X : K.In h) (G : h.Ns mainGlobals mg)
    (a : PySem.W.nsIn K mainGlobals x = some (some (.ref f))) (l : K.lookup f = some ⟨oc, od, .func (PySem.W.fnOf x x (defArgs st) (defBody st) (defScope st) .none kV doc pm an cdv ct), osl⟩)
    (c : PySem.W.codeIn K cdv x = true) (k : PySem.W.keepIn K (.ref f) = true) : DefK K mg x st := ⟨f, _, fun_mk l c k, PySem.W.mg_of X G a⟩
/-- a method of the class at C -/
structure MetK (K : PySem.W.Frag) (C : Addr) (m qual : Str) (st : Stmt) : Prop where
  ex : ∃ f fd, Fun K m qual st f fd ∧ PySem.W.findIn K (.ref C) m = some (some (.ref f)) ∧ PySem.W.isFn K (.ref f) = true
theorem MetK.of {K : PySem.W.Frag} {C : Addr} {m qual : Str} {st : Stmt} {f : Addr} {oc : Value} {od an : Option Addr} {osl : Array (Option Value)} {kV doc pm cdv ct : Value}
    (a : PySem.W.findIn K (.ref C) m = some (some (.ref f))) (i : PySem.W.isFn K (.ref f) = true) (l : K.lookup f = some ⟨oc, od, .func (PySem.W.fnOf m qual (defArgs st) (defBody st) (defScope st) .none kV doc pm an cdv ct), osl⟩)
    (c : PySem.W.codeIn K cdv qual = true) (k : PySem.W.keepIn K (.ref f) = true) : MetK K C m qual st := ⟨f, _, fun_mk l c k, a, i⟩
/-- a property of the class at C -/
structure PrpK (K : PySem.W.Frag) (C : Addr) (m qual : Str) (st : Stmt) : Prop where
  ex : ∃ p f fd, Fun K m qual st f fd ∧ PropOf K C m p f
theorem PrpK.of {K : PySem.W.Frag} {C : Addr} {m qual : Str} {st : Stmt} {p f : Addr} {rest : List Value} {oc : Value} {od an : Option Addr} {osl : Array (Option Value)} {kV doc pm cdv ct : Value}
    (a : PySem.W.findIn K (.ref C) m = some (some (.ref p))) (g : PySem.W.specialIn K (.ref p) "__get__" = some (some (.builtin "property.__get__"))) (tk : PySem.W.takesIn K (.ref p) = some true) (rc : PySem.W.recIn K p "property" = some (.ref f :: rest))
    (l : K.lookup f = some ⟨oc, od, .func (PySem.W.fnOf m qual (defArgs st) (defBody st) (defScope st) .none kV doc pm an cdv ct), osl⟩)
    (c : PySem.W.codeIn K cdv qual = true) (k : PySem.W.keepIn K (.ref f) = true) : PrpK K C m qual st := ⟨p, f, _, fun_mk l c k, ⟨a, g, tk, rest, rc⟩⟩
/-- a classmethod of the class at C -/
structure CmtK (K : PySem.W.Frag) (C : Addr) (mc : Value) (m qual : Str) (st : Stmt) : Prop where
  ex : ∃ p f fd, Fun K m qual st f fd ∧ ClX.CRead K C mc ∧ ClX.CMet K C mc m p f
theorem CmtK.of {K : PySem.W.Frag} {C : Addr} {mc : Value} {m qual : Str} {st : Stmt} {p f : Addr} {rest : List Value} {oc : Value} {od an : Option Addr} {osl : Array (Option Value)} {kV doc pm cdv ct : Value}
    (rd : PySem.W.readsIn K C mc = true) (ga : PySem.W.specialIn K (.ref C) "__getattribute__" = some (some (.builtin "type.__getattribute__")))
    (a : PySem.W.findCls K (.ref C) mc m = some (.get (.builtin "classmethod.__get__") (.ref p) .none (.ref C))) (rc : PySem.W.recIn K p "classmethod" = some (.ref f :: rest)) (fi : PySem.W.fnIn K f = true)
    (l : K.lookup f = some ⟨oc, od, .func (PySem.W.fnOf m qual (defArgs st) (defBody st) (defScope st) .none kV doc pm an cdv ct), osl⟩)
    (c : PySem.W.codeIn K cdv qual = true) (k : PySem.W.keepIn K (.ref f) = true) : CmtK K C mc m qual st := ⟨p, f, _, fun_mk l c k, ⟨rd, ga⟩, ⟨a, ⟨rest, rc⟩, fi⟩⟩

section
variable (P : Program) (w : World) (K : PySem.W.Frag) (mg : Str → Option Value) (base : Heap) (CX : CXT) (k : Nat)
/-- a def that may be called by its name -/
structure Cal (x : Str) (sp : Sp) : Prop where
  ex : ∃ f fd ps, FnOk P w K mg base CX k f fd ps sp ∧ mg x = some (.ref f) ∧ PySem.W.keepIn K (.ref f) = true ∧ Binds K fd ps []
structure CalG (x : Str) (sp : Sp) : Prop where
  ex : ∃ f fd ps, FnG P w K mg base CX k f fd ps sp ∧ mg x = some (.ref f) ∧ PySem.W.keepIn K (.ref f) = true ∧ Binds K fd ps []
/-- a method of the class at C -/
structure Met (C : Addr) (m : Str) (sp : Sp) : Prop where
  ex : ∃ f fd ps, FnOk P w K mg base CX k f fd ps sp ∧ PySem.W.findIn K (.ref C) m = some (some (.ref f)) ∧ PySem.W.isFn K (.ref f) = true ∧ PySem.W.keepIn K (.ref f) = true ∧ Binds K fd ps []
structure Prp (C : Addr) (m : Str) (sp : Sp) : Prop where
  ex : ∃ p f fd ps, FnOk P w K mg base CX k f fd ps sp ∧ PropOf K C m p f ∧ Binds K fd ps []
structure Cmt (C : Addr) (mc : Value) (m : Str) (sp : Sp) : Prop where
  ex : ∃ p f fd ps, FnOk P w K mg base CX k f fd ps sp ∧ ClX.CRead K C mc ∧ ClX.CMet K C mc m p f ∧ Binds K fd ps []
end
theorem CalG.of {P : Program} {w : World} {K : PySem.W.Frag} {mg : Str → Option Value} {base : Heap} {CX : CXT} {k : Nat} {x : Str} {sp : Sp} (c : Cal P w K mg base CX k x sp) : CalG P w K mg base CX k x sp :=
  let ⟨f, fd, ps, F, a⟩ := c.ex
  ⟨f, fd, ps, .of F, a⟩

/-- how a def of the text binds its arguments -/
def BindOk (x qual : Str) (st : Stmt) (ps : List Str) : Prop :=
  ∀ (kV doc pm : Value) (an : Option Addr) (cdv ct : Value) (us : List Value), us.length = ps.length → bindArgs (PySem.W.fnOf x qual (defArgs st) (defBody st) (defScope st) .none kV doc pm an cdv ct) ⟨us, []⟩ = pure (ps.zip us)
/-- what a body must show -/
def BodyOk (CX : CXT) (P : Program) (w : World) (K : PySem.W.Frag) (mg : Str → Option Value) (base : Heap) (N : List Str) (qual : Str) (st : Stmt) (f : Addr) (k : Nat) (sp : Sp) : Prop :=
  ∀ (cdv : Value) (A : Around) (outer : List Env) (s : Shared) (H : Hp) (vs : List V) (Q : VK) (E : XK), Room k (A.deeper (envOfC qual (defScope st) s.heap.objs.size f cdv)) → sp vs H Q E →
      ∃ t, PSs (cxOf CX P w K mg base N qual (defScope st) f cdv A outer s H E).nox (defBody st) t ∧ t { nx := fun _ H' => Q .non H', rt := Q } (start N vs) H
section
variable {P : Program} {w : World} {K : PySem.W.Frag} {mg : Str → Option Value} {base : Heap} {k : Nat} {C : Addr} {mc : Value} {x m qual : Str} {st : Stmt} {N ps : List Str} {sp : Sp}
theorem DefK.cal (D : DefK K mg x st) (S : FnScope N ps (defScope st)) (b : BindOk x x st ps) (len : ∀ vs H Q E, sp vs H Q E → vs.length = ps.length) (hb : ∀ f, BodyOk CX0 P w K mg base N x st f k sp) : Cal P w K mg base CX0 (k + 1) x sp :=
  let ⟨f, fd, F, m⟩ := D.ex
  ⟨f, fd, ps, F.ok S len (hb f), m, F.kp, F.binds b⟩
theorem DefK.calG (D : DefK K mg x st) (S : FnScope N ps (defScope st)) (b : BindOk x x st ps) (len : ∀ vs H Q E, sp vs H Q E → vs.length = ps.length)
    (hb : ∀ (f : Addr) (cdv : Value) (A : Around) (outer : List Env) (s : Shared) (H : Hp) (vs : List V) (Q : VK) (E : XK), (cxOf CX0 P w K mg base N x (defScope st) f cdv A outer s H E).nox.A.guards = some [] → Room k (A.deeper (envOfC x (defScope st) s.heap.objs.size f cdv)) → sp vs H Q E →
      ∃ t, PSs (cxOf CX0 P w K mg base N x (defScope st) f cdv A outer s H E).nox (defBody st) t ∧ t { nx := fun _ H' => Q .non H', rt := Q } (start N vs) H) : CalG P w K mg base CX0 (k + 1) x sp :=
  let ⟨f, fd, F, m⟩ := D.ex
  ⟨f, fd, ps, fnG_of F S len fun cdv A outer s H vs Q E g hr h =>
    let ⟨t, a, q⟩ := hb f cdv A outer s H vs Q E (guards_deeper g) hr h
    ⟨t, a.nox, q⟩, m, F.kp, F.binds b⟩
/-- .. and the function object, for the end -/
theorem DefK.fnG {fa : Addr} (D : DefK K mg x st) (hm : mg x = some (.ref fa)) (S : FnScope N ps (defScope st)) (b : BindOk x x st ps) (len : ∀ vs H Q E, sp vs H Q E → vs.length = ps.length) :
    ∃ fd : FuncData, Binds K fd ps [] ∧ ∀ (base : Heap), (∀ (f : Addr) (cdv : Value) (A : Around) (outer : List Env) (s : Shared) (H : Hp) (vs : List V) (Q : VK) (E : XK), (cxOf CX0 P w K mg base N x (defScope st) f cdv A outer s H E).nox.A.guards = some [] → Room k (A.deeper (envOfC x (defScope st) s.heap.objs.size f cdv)) → sp vs H Q E →
      ∃ t, PSs (cxOf CX0 P w K mg base N x (defScope st) f cdv A outer s H E).nox (defBody st) t ∧ t { nx := fun _ H' => Q .non H', rt := Q } (start N vs) H) → FnG P w K mg base CX0 (k + 1) fa fd ps sp := by
  obtain ⟨f, fd, F, m⟩ := D.ex
  rw [hm] at m
  cases m
  exact ⟨fd, F.binds b, fun base hb => fnG_of F S len fun cdv A outer s H vs Q E g hr h =>
    let ⟨t, a, q⟩ := hb _ cdv A outer s H vs Q E (guards_deeper g) hr h
    ⟨t, a.nox, q⟩⟩
theorem MetK.met (D : MetK K C m qual st) (S : FnScope N ps (defScope st)) (b : BindOk m qual st ps) (len : ∀ vs H Q E, sp vs H Q E → vs.length = ps.length) (hb : ∀ f, BodyOk CX0 P w K mg base N qual st f k sp) : Met P w K mg base CX0 (k + 1) C m sp :=
  let ⟨f, fd, F, a, i⟩ := D.ex
  ⟨f, fd, ps, F.ok S len (hb f), a, i, F.kp, F.binds b⟩
theorem PrpK.prp (D : PrpK K C m qual st) (S : FnScope N ps (defScope st)) (b : BindOk m qual st ps) (len : ∀ vs H Q E, sp vs H Q E → vs.length = ps.length) (hb : ∀ f, BodyOk CX0 P w K mg base N qual st f k sp) : Prp P w K mg base CX0 (k + 1) C m sp :=
  let ⟨p, f, fd, F, a⟩ := D.ex
  ⟨p, f, fd, ps, F.ok S len (hb f), a, F.binds b⟩
theorem CmtK.cmt (D : CmtK K C mc m qual st) (S : FnScope N ps (defScope st)) (b : BindOk m qual st ps) (len : ∀ vs H Q E, sp vs H Q E → vs.length = ps.length) (hb : ∀ f, BodyOk CX0 P w K mg base N qual st f k sp) : Cmt P w K mg base CX0 (k + 1) C mc m sp :=
  let ⟨p, f, fd, F, r, a⟩ := D.ex
  ⟨p, f, fd, ps, F.ok S len (hb f), r, a, F.binds b⟩
end

section
variable {X : Cx} {k j : Nat} {C : Addr} {mc : Value} {x m : Str} {sp : Sp} {p pos apos : Pos} {e o : Expr} {es : List Expr} {ta : TE} {t : TA}
theorem pe_c (c : Cal X.prog X.w X.K X.mg X.base CX0 k x sp) (hr : Room j X.A) (hk : k ≤ j) (hg : Gl X x) (ha : PA X (e :: es) t)
    (hdb : (x == ("__debug__" : Str)) = false := by decide) (he : starEach (e :: es) X.env = (false, eval e X.env) :: starEach es X.env := by rfl) (hpl : (backTo pos (starEach es X.env)).any (·.1) = false := by rfl) :
    PE X (.Call (.Name x p) (e :: es) [] pos) (tCall sp [] E0 t) := by
  obtain ⟨f, fd, ps, F, hm, kp, b⟩ := c.ex
  exact pe_call F (hr.mono hk) hg hm kp b .nil pass0 ha hdb he hpl
theorem pe_cG (c : CalG X.prog X.w X.K X.mg X.base CX0 k x sp) (g : X.A.guards = some []) (hr : Room j X.A) (hk : k ≤ j) (hg : Gl X x) (ha : PA X (e :: es) t)
    (hdb : (x == ("__debug__" : Str)) = false := by decide) (he : starEach (e :: es) X.env = (false, eval e X.env) :: starEach es X.env := by rfl) (hpl : (backTo pos (starEach es X.env)).any (·.1) = false := by rfl) :
    PE X (.Call (.Name x p) (e :: es) [] pos) (tCall sp [] E0 t) := by
  obtain ⟨f, fd, ps, F, hm, kp, b⟩ := c.ex
  exact pe_callG F g (hr.mono hk) hg hm kp b .nil pass0 ha hdb he hpl
/-- a class that is made by its name -/
structure Mak (P : Program) (w : World) (K : PySem.W.Frag) (mg : Str → Option Value) (base : Heap) (CX : CXT) (k : Nat) (x : Str) (C : Addr) (sp : Sp) : Prop where
  mg_ : mg x = some (.ref C)
  mks : PySem.W.makesIn K C = true
  kp : PySem.W.keepIn K (.ref C) = true
  init : Met P w K mg base CX k C "__init__" sp
theorem pe_mk (c : Mak X.prog X.w X.K X.mg X.base CX0 k x C sp) (hr : Room j X.A) (hk : k + 1 ≤ j) (hg : Gl X x) (ha : PA X (e :: es) t)
    (hdb : (x == ("__debug__" : Str)) = false := by decide) (he : starEach (e :: es) X.env = (false, eval e X.env) :: starEach es X.env := by rfl) (hpl : (backTo pos (starEach es X.env)).any (·.1) = false := by rfl) :
    PE X (.Call (.Name x p) (e :: es) [] pos) (tMake C sp [] E0 t) := by
  obtain ⟨f, fd, ps, F, a, i, kp, b⟩ := c.init.ex
  exact pe_make ⟨c.mks, a, i, c.kp⟩ F (hr.mono hk) hg c.mg_ b .nil pass0 ha hdb he hpl
theorem pe_mkL {i : Nat} (c : Mak X.prog X.w X.K X.mg X.base CX0 k m C sp) (hr : Room j X.A) (hk : k + 1 ≤ j) (hN : X.N[i]? = some x) (hv : Vis X.env.scope x) (ha : PA X (e :: es) t)
    (hdb : (x == ("__debug__" : Str)) = false := by decide) (hcd : (x == ("__classdict__" : Str)) = false := by decide)
    (he : starEach (e :: es) X.env = (false, eval e X.env) :: starEach es X.env := by rfl) (hpl : (backTo pos (starEach es X.env)).any (·.1) = false := by rfl) : PE X (.Call (.Name x p) (e :: es) [] pos) (tMakeL i C sp [] E0 t) := by
  obtain ⟨f, fd, ps, F, a, b', kp, b⟩ := c.init.ex
  exact pe_makeL ⟨c.mks, a, b', c.kp⟩ F (hr.mono hk) hN hv b .nil pass0 ha hdb hcd he hpl
theorem pe_m {pl : Sem Bool} (c : Met X.prog X.w X.K X.mg X.base CX0 k C m sp) (cl : Cls X.K C) (hr : Room j X.A) (hk : k ≤ j) (he : PE X o ta) (ha : PA X (e :: es) t)
    (hst : starEach (e :: es) X.env = (false, eval e X.env) :: starEach es X.env := by rfl) (hpl : (backTo pos (starEach es X.env)).any (·.1) = false := by rfl)
    (ht : eval (.Call (.Attribute o m apos) (e :: es) [] pos) X.env = (do
      let ov ← eval o X.env
      standAt apos.atName
      let (f, first) ← holding [ov] (getMethod ov m pl)
      callWith pos f first (backTo pos (starEach (e :: es) X.env)) (backToKw pos (keywordEach [] X.env))) := by rfl) :
    PE X (.Call (.Attribute o m apos) (e :: es) [] pos) (tMeth C m sp [] E0 ta t) := by
  obtain ⟨f, fd, ps, F, a, i, kp, b⟩ := c.ex
  exact pe_meth (pl := pl) he cl ⟨a, i, kp⟩ F (hr.mono hk) b .nil pass0 ha hst hpl ht
theorem pe_p (c : Prp X.prog X.w X.K X.mg X.base CX0 k C m sp) (cl : Cls X.K C) (hr : Room j X.A) (hk : k + 1 ≤ j) (he : PE X o ta)
    (hab : attributeBase o m X.env (eval o X.env) = eval o X.env := by rfl) : PE X (.Attribute o m pos) (tProp C sp [] E0 ta) := by
  obtain ⟨q, f, fd, ps, F, a, b⟩ := c.ex
  exact pe_prop he cl a F (hr.mono hk) b .nil pass0 hab
theorem op_c {op : CmpOp} {m : Str} (c : Met X.prog X.w X.K X.mg X.base CX0 k C m sp) (hr : Room j X.A) (hk : k ≤ j) (hm : m = (cmpInfo op).2.1 := by rfl)
    (hc : ∀ v u, compareOp op v u = richCompare op v u := by intro _ _; rfl) : OpR X (compareOp op) (rOwn X.K C sp E0) := by
  subst hm
  obtain ⟨f, fd, ps, F, a, i, kp, b⟩ := c.ex
  exact op_own F (hr.mono hk) ⟨a, i⟩ b pass0 hc
theorem op_b {op : Operator} {m : Str} (c : Met X.prog X.w X.K X.mg X.base CX0 k C m sp) (sf : PySem.W.selfFirst X.K C = true) (hr : Room j X.A) (hk : k ≤ j) (hm : m = PySem.dunder op.info.2 := by rfl) : OpR X (binaryOp op) (rOwnB C sp E0) := by
  subst hm
  obtain ⟨f, fd, ps, F, a, i, kp, b⟩ := c.ex
  exact op_ownB F (hr.mono hk) ⟨a, i⟩ sf b pass0
theorem op_in (c : Met X.prog X.w X.K X.mg X.base CX0 k C "__contains__" sp) (hr : Room j X.A) (hk : k ≤ j) : OpR X (compareOp .In) (rOwnIn C sp E0) := by
  obtain ⟨f, fd, ps, F, a, i, kp, b⟩ := c.ex
  exact op_ownIn F (hr.mono hk) ⟨a, i⟩ b pass0
theorem op_notIn (c : Met X.prog X.w X.K X.mg X.base CX0 k C "__contains__" sp) (hr : Room j X.A) (hk : k ≤ j) : OpR X (compareOp .NotIn) (rOwnNotIn C sp E0) := by
  obtain ⟨f, fd, ps, F, a, i, kp, b⟩ := c.ex
  exact op_ownNotIn F (hr.mono hk) ⟨a, i⟩ b pass0
/-- a name of the module, by its value; a built-in type by its name -/
theorem pe_gc {v : V} (hg : Gl X x) (h : ∃ u, X.mg x = some u ∧ L2.RelV v u) (hd : (x == ("__debug__" : Str)) = false := by decide) : PE X (.Name x pos) (tC v) := by
  obtain ⟨u, hm, r⟩ := h
  exact pe_glob hg hm r hd
theorem pe_ty {n : String} (hg : Gl X x) (hm : X.mg x = none) (hv : bootBuiltins x = some (.type n)) (hn : x ≠ "__name__" := by decide) (hd : (x == ("__debug__" : Str)) = false := by decide) : PE X (.Name x pos) (tC (.ty n)) :=
  pe_bltn (v := .ty n) (u := .type n) hg hm hv rfl hn hd
theorem pe_cm0 {pl : Sem Bool} (c : Cmt X.prog X.w X.K X.mg X.base CX0 k C mc m sp) (hr : Room j X.A) (hk : k ≤ j) (he : PE X o ta)
    (ht : eval (.Call (.Attribute o m apos) [] [] pos) X.env = (do
      let ov ← eval o X.env
      standAt apos.atName
      let (f, first) ← holding [ov] (getMethod ov m pl)
      callWith pos f first (backTo pos (starEach [] X.env)) (backToKw pos (keywordEach [] X.env))) := by rfl) :
    PE X (.Call (.Attribute o m apos) [] [] pos) (ClX.tCMeth C (fun vs H Q E => sp (vs ++ []) H Q E) E0 ta tNil) := by
  obtain ⟨q, f, fd, ps, F, r, a, b⟩ := c.ex
  exact pe_cmeth0 (pl := pl) he r a (F.raw b .nil) (hr.mono hk) pass0 ht
end
end Jg

/-! set(xs) of a list of ints -/
namespace Jg
open PySem PySem.Spec PyProof.Rows L2
/-- a set just made -/
def mtSet (w : World) : Obj := { cls := .type "set", dict := none, data := .set #[] 0 (.fresh 0 0 (!w.params.followText "set-order")) }
section
variable {P : Program} {w : World} {A : Around} {E : Value → Shared → Prop} {s : Shared}
/-- what stands behind set(xs): a new set of the ints -/
abbrev SetDone (w : World) (s : Shared) (ns : List Int) (s₂ : Shared) : Prop :=
  ∃ h' tk c, s₂ = { s with heap := h', toks := tk } ∧ SetR w h' s.heap.objs.size (fun j => decide (j ∈ ns)) c ∧ c ≤ ns.length ∧ ∀ b o, s.heap.get? b = some o → h'.get? b = some o
theorem mt_at (w : World) (h : Heap) : (h.push (mtSet w)).get? h.objs.size = some (mtSet w) := Heap.get?_push_size _ rfl
set_option maxHeartbeats 8000000 in
theorem set_of_list {l : Addr} {items : Array Value} (ns : List Int) {Q : Value → Shared → Prop} (hh : A.handled = none) (hl : s.heap.IsList l items) (hit : IntsAre items.toList ns) (hb : ns.length + 1 < scanBound)
    (h : ∀ s₂, SetDone w s ns s₂ → Q (.ref s.heap.objs.size) s₂) : wpAny (model P w) A (call (.type "set") [.ref l]) Q E s := by
  have hsz : items.size = ns.length := (Array.length_toList (xs := items)).symm.trans (IntsAre.length hit)
  obtain ⟨c, tl, hmro⟩ := F.called_set.mro
  have m1 := F.called_set.made
  have m2 := F.called_set.sub
  have m3 := F.called_set.notType
  have m4 := F.called_set.canCreate
  have m5 := F.typeCall_set_1 (.ref l)
  refine wpAny_call (codeAny_of_tree (show wpAny _ _ (callAny (.type "set") _) _ _ _ from wpAny_pure ⟨Code.quiet_builtin _ (by decide +kernel), codeAny_builtin F.entry_type_call ?_⟩))
  rw [Around.under_plain (weight_type_call_type "set" [.ref l] []) rfl]
  repeat (any_goals (first | assumption | wp_step))
  refine codeAny_mono (code_set_led1 (.ref l) (E := E) (Q₁ := fun obj s₁ => obj = .ref s.heap.objs.size ∧ s₁ = { s with heap := s.heap.push (mtSet w) }) ⟨rfl, rfl⟩) fun r s₁ hr => ?_
  match r, hr with
  | .error e, hr => exact hr
  | .ok (.ret obj), hr =>
    obtain ⟨rfl, rfl⟩ := hr
    have new := mt_at w s.heap
    have ty : Shared.TypeIs { s with heap := s.heap.push (mtSet w) } (.ref s.heap.objs.size) "set" := ⟨_, new, rfl⟩
    have m6 := F.called_set.init.lookup
    have m7 := F.called_set.init.bind (.ref s.heap.objs.size)
    repeat (any_goals (first | assumption | wp_step))
    refine codeAny_mono (codeAny_call_builtin (R := wants (fun r s₂ => r = .none ∧ SetDone w s ns s₂) E) F.called_set.init.plain F.entry_set_init (check_set_init_1 ty ?_)) fun r₂ s₂ hr₂ => ?_
    · obtain ⟨⟨ocls, odict, odata, oslots⟩, hol, hcl, nl, hdl⟩ := hl
      simp only at hcl hdl
      subst hcl; subst hdl
      have lt : l < s.heap.objs.size := Heap.lt_size hol
      have old : (s.heap.push (mtSet w)).get? l = some { cls := .type "list", dict := odict, data := .seq items nl, slots := oslots } := Heap.get?_push_of_some _ hol
      have il : (s.heap.push (mtSet w)).IsList l items := ⟨_, old, rfl, nl, rfl⟩
      have n1 := F.sub_list_set
      have n2 := F.sub_list_frozenset
      have n3 : (Value.type "list" == Value.type "dict") = false := by decide
      have sz : (s.heap.push (mtSet w)).objs.size = s.heap.objs.size + 1 := Heap.size_push ..
      unfold Builtin.«set.__init__» noKeywords Builtin.Frozenset.updateFrom
      generalize hPI : pyIter = PI
      wp_walk
      subst hPI
      refine wpAny_pyIter_list il (wpAny_bind (wpAny_runValue ?_))
      have apart : l ≠ (s.heap.push (mtSet w)).objs.size := by rw [sz]; exact Nat.ne_of_lt (Nat.lt_succ_of_lt lt)
      refine set_update_ints (P := P) (w := w) ((Walks.list (show A.in1.in1.in1.handled = none by simp [hh]) _ l apart items).toS) s.heap.objs.size ?_ ns hsz hb (fun i v hv => ?_) (items.size - 0) 0 _ (by omega) (Nat.zero_le _)
        ⟨⟨_, Heap.get?_push_size _ rfl, rfl, rfl⟩, il.push _⟩ ⟨0, Nat.le_refl 0, setR_new_at (Heap.get?_push_of_some _ new)⟩ fun s' c' hm hc' hS' => ?_
      · rw [sz]
        intro z
        rcases List.mem_cons.mp z with z | z
        · exact absurd z (Nat.ne_of_lt (Nat.lt_succ_self _))
        · rcases List.mem_cons.mp z with z | z
          · exact absurd z (Nat.ne_of_gt lt)
          · cases z
      · have hi : i < ns.length := by rw [← hsz]; exact (Array.getElem?_eq_some_iff.mp hv).1
        obtain ⟨t, e⟩ := PyProof.Rows.IntsAre.int_at hit i v (by rw [Array.getElem?_toList]; exact hv)
        exact ⟨ns[i], t, List.getElem?_eq_getElem hi, by rw [e, List.getD_eq_getElem?_getD, List.getElem?_eq_getElem hi] <;> rfl⟩
      · obtain ⟨h', g2, d', tk', os'⟩ := s'
        obtain rfl : g2 = s.gens := hm.gens
        obtain rfl : d' = s.drawn := hm.drawn
        obtain rfl : os' = s.os := hm.os
        refine wpAny_pure (show wpAny _ _ (ret Value.none) _ _ _ from wpAny_pure ⟨rfl, h', tk', c', rfl, hS', by omega, fun b o e => ?_⟩)
        have lb : b < s.heap.objs.size := Heap.lt_size e
        refine hm.heap b o (fun z => ?_) (Heap.get?_push_of_some _ (Heap.get?_push_of_some _ e))
        rcases List.mem_cons.mp z with z | z
        · exact absurd z (Nat.ne_of_lt lb)
        · rcases List.mem_cons.mp z with z | z
          · rw [sz] at z
            exact absurd z (Nat.ne_of_lt (Nat.lt_succ_of_lt lb))
          · cases z
    · match r₂, hr₂ with
      | .error e, hr₂ => exact hr₂
      | .ok (.ret r), hr₂ =>
        obtain ⟨rfl, done⟩ := hr₂
        repeat (any_goals (first | assumption | wp_step))
        exact h _ done
end
/-- set(xs) -/
def rSetL (K : PySem.W.Frag) (w : World) : List V → Hp → VK → Prop := fun xs H Q => ∃ (a : Addr) (ns : List Int), xs = [.ref a] ∧ SqL K H a (ns.map V.int) ∧ ns.length + 1 < scanBound ∧
  ∀ p c, H p = none → c ≤ ns.length → Q (.ref p) (upd H p (SetO w p (fun j => decide (j ∈ ns)) c))
theorem ints_of : ∀ {ns : List Int} {us : List Value}, Vals (ns.map V.int) us → IntsAre us ns
  | [], [], .nil => .nil
  | n :: _, _ :: _, .cons ⟨t, e⟩ r => by
    subst e
    exact .cons n t (ints_of r)
theorem cr_setL {X : Cx} (hc : X.calm = true) : CallR X (.type "set") (rSetL X.K X.w) := by
  intro pins s σ H xs us Q I r h
  obtain ⟨a, ns, rfl, hs, hb, q⟩ := h
  obtain ⟨u, rfl, ru⟩ := vals1 r
  cases ru
  obtain ⟨its, rv, p, hz⟩ := I.list hs
  refine set_of_list ns (I.ok.hd hc) p.isList (by simpa using ints_of rv) hb fun s₂ ⟨h', tk, c, e, R, hc', k⟩ => ?_
  subst e
  exact ⟨.ref s.heap.objs.size, _, I.laid (t' := tk) k (Nat.le_refl _) (setO_new R), rfl, q _ c (I.hok.fresh (Nat.le_refl _)) hc'⟩
end Jg

/-! comprehensions that filter ints: [m for m in .. if test], the test pure -/
namespace Jg
open PySem PySem.Spec PyProof.Rows L2
def win (lo : Int) (n : Nat) : List Int := (List.range n).map fun j => lo + (j : Nat)
theorem win_succ (lo : Int) (n : Nat) : win lo (n + 1) = win lo n ++ [lo + (n : Nat)] := by
  unfold win
  rw [List.range_succ, List.map_append]; rfl
theorem win_len (lo : Int) (n : Nat) : (win lo n).length = n := by unfold win; simp
/-- the shape that a list comprehension's reading asks -/
abbrev LcAsk (J : It) (g : TG) (tt : TT) (te : TE) (vs : List Nat) (σ : L2.St) (H1 : Hp) (D : Addr) (Qd : Hp → Prop) : Prop :=
  ∃ W : Nat → Nat → Hp → Prop, (∃ m, W 0 m (upd H1 D (.lst []))) ∧ ∀ i m H, W i m H →
      (J.stop i H ∧ Qd H) ∨ (J.go i H ∧ ∃ Nx : Hp → Prop, (∀ H', Nx H' → ∃ m', m' < m ∧ W (i + 1) m' H') ∧ ∀ x H', J.yld i H x H' → g x (wipe σ vs) H' fun σ2 H2 => wipe σ2 vs = wipe σ vs ∧ tt σ2 H2 fun b H3 =>
        if b = true then te σ2 H3 fun y H4 => ∃ acc, H4 D = some (.lst acc) ∧ acc.length < sizeLine ∧ Nx (upd H4 D (.lst (acc ++ [y]))) else Nx H3)
section
variable {i : Nat} {tt : TT} {σ : L2.St} {H1 : Hp} {D : Addr} {Qd : Hp → Prop} {vs : List Nat}
theorem filt_step {p : Int → Bool} {ms : List Int} {m : Int} (nD : H1 D = none) (hl : ms.length < 1000) (hw : wipe ((wipe σ vs).set i (some (.int m))) vs = wipe σ vs) (hi : ((wipe σ vs).set i (some (.int m)))[i]? = some (some (.int m)))
    (ht : ∀ H (k : Bool → Hp → Prop), Same H1 H → k (p m) H → tt ((wipe σ vs).set i (some (.int m))) H k) (Pv : Hp → Prop) (hP : Pv (upd H1 D (.lst (((ms ++ [m]).filter p).map V.int)))) :
    gName i (.int m) (wipe σ vs) (upd H1 D (.lst ((ms.filter p).map V.int))) fun σ2 H2 => wipe σ2 vs = wipe σ vs ∧ tt σ2 H2 fun b H3 =>
      if b = true then tVar i σ2 H3 fun y H4 => ∃ acc, H4 D = some (.lst acc) ∧ acc.length < sizeLine ∧ Pv (upd H4 D (.lst (acc ++ [y]))) else Pv H3 := by
  refine ⟨hw, ht _ _ (fun b o e => by rw [upd_ne (ne_of_none e nD)]; exact e) ?_⟩
  have e1 : (ms ++ [m]).filter p = ms.filter p ++ [m].filter p := List.filter_append ..
  cases hp : p m with
  | true =>
    have e2 : [m].filter p = [m] := by simp [List.filter, hp]
    rw [e1, e2, List.map_append] at hP
    refine iteT ⟨.int m, hi, _, upd_same, ?_, ?_⟩
    · rw [List.length_map]
      exact small1000 (Nat.le_trans (List.length_filter_le ..) (Nat.le_of_lt hl))
    · rw [upd_upd]
      exact hP
  | false =>
    have e2 : [m].filter p = [] := by simp [List.filter, hp]
    rw [e1, e2, List.append_nil] at hP
    exact iteF hP
theorem lcf_range {lo : Int} {n : Nat} (p : Int → Bool) (nD : H1 D = none) (hn : n ≤ 900) (hw : ∀ m : Int, wipe ((wipe σ vs).set i (some (.int m))) vs = wipe σ vs) (hi : ∀ m : Int, ((wipe σ vs).set i (some (.int m)))[i]? = some (some (.int m)))
    (ht : ∀ (m : Int) H (k : Bool → Hp → Prop), m ∈ win lo n → Same H1 H → k (p m) H → tt ((wipe σ vs).set i (some (.int m))) H k) (hd : Qd (upd H1 D (.lst (((win lo n).filter p).map V.int)))) :
    LcAsk (Itr lo n) (gName i) tt (tVar i) vs σ H1 D Qd := by
  refine lc_range (lo := lo) (n := n) (fun j H => H = upd H1 D (.lst (((win lo j).filter p).map V.int))) rfl (fun j H hj e => ?_) fun H e => e ▸ hd
  subst e
  have hm : lo + (j : Nat) ∈ win lo n := List.mem_map.mpr ⟨j, List.mem_range.mpr hj, rfl⟩
  exact filt_step (p := p) nD (by rw [win_len]; omega) (hw _) (hi _) (fun H k => ht _ H k hm) (fun H => H = upd H1 D (.lst (((win lo (j + 1)).filter p).map V.int))) (by rw [win_succ])
theorem lcf_list {K : PySem.W.Frag} {a : Addr} {ms : List Int} (p : Int → Bool) (hs : SqL K H1 a (ms.map V.int)) (nD : H1 D = none) (hn : ms.length ≤ 900) (hw : ∀ m : Int, wipe ((wipe σ vs).set i (some (.int m))) vs = wipe σ vs) (hi : ∀ m : Int, ((wipe σ vs).set i (some (.int m)))[i]? = some (some (.int m)))
    (ht : ∀ (m : Int) H (k : Bool → Hp → Prop), m ∈ ms → Same H1 H → k (p m) H → tt ((wipe σ vs).set i (some (.int m))) H k) (hd : Qd (upd H1 D (.lst ((ms.filter p).map V.int)))) :
    LcAsk (Itl K a) (gName i) tt (tVar i) vs σ H1 D Qd := by
  have sn : ∀ o, Same H1 (upd H1 D o) := fun o b u e => by rw [upd_ne (ne_of_none e nD)]; exact e
  refine lc_list (K := K) (a := a) (xs := ms.map V.int) (fun j H => H = upd H1 D (.lst (((ms.take j).filter p).map V.int))) rfl (fun j H _ e => e ▸ (sn _).seq hs) (fun j x H hx e => ?_) fun H e => ?_
  · subst e
    rw [List.getElem?_map] at hx
    cases hm : ms[j]? with
    | none => rw [hm] at hx; cases hx
    | some m =>
      rw [hm] at hx
      cases hx
      have e2 : ms.take (j + 1) = ms.take j ++ [m] := by rw [List.take_add_one, hm]; rfl
      exact filt_step (p := p) nD (by rw [List.length_take]; omega) (hw _) (hi _) (fun H k => ht _ H k (List.mem_of_getElem? hm)) (fun H => H = upd H1 D (.lst (((ms.take (j + 1)).filter p).map V.int))) (by rw [e2])
  · rw [List.length_map, List.take_length] at e
    exact e ▸ hd
end
/-! ### strictly sorted lists of ints -/
theorem sorted_ext : ∀ {xs ys : List Int}, xs.Pairwise (· < ·) → ys.Pairwise (· < ·) → (∀ k, k ∈ xs ↔ k ∈ ys) → xs = ys
  | [], [], _, _, _ => rfl
  | [], y :: ys, _, _, h => absurd ((h y).mpr List.mem_cons_self) (by simp)
  | x :: xs, [], _, _, h => absurd ((h x).mp List.mem_cons_self) (by simp)
  | x :: xs, y :: ys, h1, h2, h => by
    obtain ⟨a1, a2⟩ := List.pairwise_cons.mp h1
    obtain ⟨b1, b2⟩ := List.pairwise_cons.mp h2
    have e : x = y := by
      have m1 := (h x).mp List.mem_cons_self
      have m2 := (h y).mpr List.mem_cons_self
      rcases List.mem_cons.mp m1 with z | z
      · exact z
      · rcases List.mem_cons.mp m2 with z' | z'
        · exact z'.symm
        · have := b1 x z
          have := a1 y z'
          omega
    subst e
    have t : xs = ys := sorted_ext a2 b2 fun k => by
      constructor
      · intro hk
        rcases List.mem_cons.mp ((h k).mp (List.mem_cons_of_mem _ hk)) with z | z
        · have := a1 k hk; omega
        · exact z
      · intro hk
        rcases List.mem_cons.mp ((h k).mpr (List.mem_cons_of_mem _ hk)) with z | z
        · have := b1 k hk; omega
        · exact z
    rw [t]
theorem win_sorted (lo : Int) (n : Nat) : (win lo n).Pairwise (· < ·) := by
  unfold win
  rw [List.pairwise_map]
  exact List.pairwise_lt_range.imp fun h => by omega
theorem mem_win {lo : Int} {n : Nat} {m : Int} : m ∈ win lo n ↔ lo ≤ m ∧ m < lo + n := by
  unfold win
  constructor
  · intro h
    obtain ⟨j, hj, rfl⟩ := List.mem_map.mp h
    have := List.mem_range.mp hj
    omega
  · intro h
    exact List.mem_map.mpr ⟨(m - lo).toNat, List.mem_range.mpr (by omega), by omega⟩
/-- the last item, the first one given -/
def lastOf (x : Int) : List Int → Int
  | [] => x
  | y :: r => lastOf y r
/-- how many there are at most between the first and the last, and when all of them are there -/
theorem tight : ∀ (x : Int) (l : List Int), (x :: l).Pairwise (· < ·) → x ≤ lastOf x l ∧ ((x :: l).length : Int) ≤ lastOf x l - x + 1 ∧ (((x :: l).length : Int) = lastOf x l - x + 1 ↔ ∀ m, x ≤ m → m ≤ lastOf x l → m ∈ x :: l)
  | x, [], _ => by
    refine ⟨Int.le_refl _, by show (1 : Int) ≤ x - x + 1; omega, ⟨fun _ m h1 h2 => ?_, fun _ => by show (1 : Int) = x - x + 1; omega⟩⟩
    have h3 : m ≤ x := h2
    have e : m = x := by omega
    rw [e]; exact List.mem_cons_self
  | x, y :: r, h => by
    obtain ⟨a1, a2⟩ := List.pairwise_cons.mp h
    have hxy := a1 y List.mem_cons_self
    obtain ⟨i1, i2, i3⟩ := tight y r a2
    have el : lastOf x (y :: r) = lastOf y r := rfl
    have en : ((x :: y :: r).length : Int) = ((y :: r).length : Int) + 1 := by simp
    rw [el, en]
    refine ⟨by omega, by omega, ⟨fun e m h1 h2 => ?_, fun q => ?_⟩⟩
    · have e1 : y = x + 1 := by omega
      by_cases c : m = x
      · rw [c]; exact List.mem_cons_self
      · exact List.mem_cons_of_mem _ (i3.mp (by omega) m (by omega) h2)
    · have e1 : y = x + 1 := by
        have m1 := q (x + 1) (by omega) (by omega)
        rcases List.mem_cons.mp m1 with z | z
        · omega
        · rcases List.mem_cons.mp z with z | z
          · exact z.symm
          · have := (List.pairwise_cons.mp a2).1 _ z
            omega
      have e2 := i3.mpr fun m h1 h2 => by
        rcases List.mem_cons.mp (q m (by omega) h2) with z | z
        · omega
        · exact z
      omega
theorem lastOf_get : ∀ (x : Int) (l : List Int), (x :: l)[l.length]? = some (lastOf x l)
  | x, [] => rfl
  | x, y :: r => by
    show (y :: r)[r.length]? = _
    exact lastOf_get y r
end Jg

/-! lists and tuples of ints as data: == and what it asks -/
namespace Jg
open PySem PySem.Spec PyProof.Rows L2
theorem lay_ints : ∀ xs : List Int, PyData.canLayAll0 (xs.map PyData.int) = true
  | [] => rfl
  | x :: xs => by
    show (PyData.canLay0 (.int x) && PyData.canLayAll0 (xs.map PyData.int)) = true
    rw [lay_ints xs]; rfl
theorem depth_ints : ∀ xs : List Int, PyData.depthAll (xs.map PyData.int) = 0
  | [] => rfl
  | x :: xs => by
    show max (PyData.depth (.int x)) (PyData.depthAll (xs.map PyData.int)) = 0
    rw [depth_ints xs]; rfl
theorem shaped_ints (xs : List Int) : SeqAt.shaped (.list (xs.map PyData.int)) = true := by
  show (PyData.canLayAll0 (xs.map PyData.int) && decide (PyData.depthAll (xs.map PyData.int) + 1 ≤ 64)) = true
  rw [lay_ints, depth_ints]; rfl
theorem shaped_tup (xs : List Int) : SeqAt.shaped (.tuple (xs.map PyData.int)) = true := by
  show (PyData.canLayAll0 (xs.map PyData.int) && decide (PyData.depthAll (xs.map PyData.int) + 1 ≤ 64)) = true
  rw [lay_ints, depth_ints]; rfl
theorem eqvAll_ints : ∀ xs ys : List Int, PyData.eqvAll (xs.map PyData.int) (ys.map PyData.int) = decide (xs = ys)
  | [], [] => rfl
  | [], y :: ys => rfl
  | x :: xs, [] => rfl
  | x :: xs, y :: ys => by
    have ih := eqvAll_ints xs ys
    show (PyData.eqv (.int x) (.int y) && PyData.eqvAll (xs.map PyData.int) (ys.map PyData.int)) = _
    rw [ih]
    have e : PyData.eqv (.int x) (.int y) = decide (x = y) := by
      by_cases c : x = y
      · subst c; simp [PyData.eqv]
      · simp [PyData.eqv, c]
    rw [e]
    by_cases c : x = y
    · subst c
      by_cases d : xs = ys
      · subst d; simp
      · simp [d]
    · simp [c]
theorem eqv_ints (xs ys : List Int) : PyData.eqv (.list (xs.map PyData.int)) (.list (ys.map PyData.int)) = decide (xs = ys) := by
  rw [PyData.eqv]; exact eqvAll_ints xs ys
theorem eqv_tup (xs ys : List Int) : PyData.eqv (.tuple (xs.map PyData.int)) (.tuple (ys.map PyData.int)) = decide (xs = ys) := by
  rw [PyData.eqv]; exact eqvAll_ints xs ys
theorem dpAll_ints {K : PySem.W.Frag} {H : Hp} : ∀ xs : List Int, DpAll K H (xs.map V.int) (xs.map PyData.int)
  | [] => .nil
  | x :: xs => .cons (.int x) (dpAll_ints xs)
theorem dp_ints {K : PySem.W.Frag} {H : Hp} {a : Addr} {xs : List Int} (h : SqL K H a (xs.map V.int)) : Dp K H (.ref a) (.list (xs.map PyData.int)) := .lst h (dpAll_ints xs)
theorem dp_tup {K : PySem.W.Frag} {H : Hp} {a : Addr} {xs : List Int} (h : SqT K H a (xs.map V.int)) : Dp K H (.ref a) (.tuple (xs.map PyData.int)) := .tup h (dpAll_ints xs)
/-- == of two lists of ints, of two tuples of ints -/
theorem ask_eqL {K : PySem.W.Frag} {H : Hp} {a b : Addr} {xs ys : List Int} {Q : VK} (h1 : SqL K H a (xs.map V.int)) (h2 : SqL K H b (ys.map V.int)) (q : Q (.bl (decide (xs = ys))) H) : rEqD K (.ref a) (.ref b) H Q :=
  ⟨_, _, dp_ints h1, dp_ints h2, shaped_ints xs, shaped_ints ys, by rw [eqv_ints]; exact q⟩
theorem ask_neL {K : PySem.W.Frag} {H : Hp} {a b : Addr} {xs ys : List Int} {Q : VK} (h1 : SqL K H a (xs.map V.int)) (h2 : SqL K H b (ys.map V.int)) (q : Q (.bl (!decide (xs = ys))) H) : rNeD K (.ref a) (.ref b) H Q :=
  ⟨_, _, dp_ints h1, dp_ints h2, shaped_ints xs, shaped_ints ys, by rw [eqv_ints]; exact q⟩
theorem ask_eqT {K : PySem.W.Frag} {H : Hp} {a b : Addr} {xs ys : List Int} {Q : VK} (h1 : SqT K H a (xs.map V.int)) (h2 : SqT K H b (ys.map V.int)) (q : Q (.bl (decide (xs = ys))) H) : rEqD K (.ref a) (.ref b) H Q :=
  ⟨_, _, dp_tup h1, dp_tup h2, shaped_tup xs, shaped_tup ys, by rw [eqv_tup]; exact q⟩
theorem pair_dec {a b c d : Int} : decide ([a, b] = [c, d]) = decide ((a, b) = (c, d)) := by
  by_cases h : (a, b) = (c, d)
  · cases h; rw [decide_eq_true rfl, decide_eq_true rfl]
  · rw [decide_eq_false h, decide_eq_false fun z => h (by injection z with z1 z2; injection z2 with z2 _; rw [z1, z2])]
/-- x in a list of ints -/
theorem inV_ints {m : Int} : ∀ {xs : List Int}, inV (.int m) (xs.map V.int) = decide (m ∈ xs)
  | [] => rfl
  | x :: xs => by
    have ih := inV_ints (m := m) (xs := xs)
    show (eqV (.int x) (.int m) || inV (.int m) (xs.map V.int)) = _
    rw [ih]
    have e : eqV (.int x) (.int m) = decide (x = m) := by
      by_cases c : x = m
      · subst c; simp [eqV]
      · simp [eqV, c]
    rw [e]
    by_cases c : x = m
    · subst c; simp
    · have c' : ¬ m = x := fun z => c z.symm
      simp [c, c']
theorem flat_ints : ∀ {xs : List Int}, (xs.map V.int).all flatV = true
  | [] => rfl
  | x :: xs => by
    show (flatV (.int x) && (xs.map V.int).all flatV) = true
    rw [flat_ints]; rfl
theorem ask_in {K : PySem.W.Frag} {H : Hp} {a : Addr} {xs : List Int} {m : Int} {Q : VK} (h : SqL K H a (xs.map V.int)) (q : Q (.bl (decide (m ∈ xs))) H) : rIn K false (.int m) (.ref a) H Q :=
  ⟨a, _, rfl, .inl h, rfl, flat_ints, by
    show Q (.bl (inV (.int m) (xs.map V.int))) H
    rw [inV_ints]; exact q⟩
theorem map_cat {K : PySem.W.Frag} {H : Hp} {a : Addr} {xs ys : List Int} (h : SqL K H a (xs.map V.int ++ ys.map V.int)) : SqL K H a ((xs ++ ys).map V.int) := by rw [List.map_append]; exact h
end Jg

/-! try with any number of clauses, named or not, the rest of them perhaps never asked -/
namespace Jg
open PySem PySem.Spec PyProof.Rows L2

/-- an exception a of the class cls, its dict d, lies caught in the frame of X -/
def Caught (X : Cx) (pins : List (Addr × Obj)) (σ : L2.St) (H : Hp) (a : Addr) (cls : Value) (d : Option Addr) (s : Shared) : Prop :=
  ∃ (B : Heap) (s0 : Shared), Inv X pins σ H s0 ∧ (∀ b o, s0.heap.get? b = some o → b ∉ frs X.stack → B.get? b = some o) ∧ s0.heap.UpToSlots s.heap ∧
    HandSPX.FlyingZ B (X.env :: X.outer) a (Zc cls d) s.heap ∧ s.os = s0.os ∧ AllBare s.gens ∧ H a = none
section
variable {X : Cx} {pins : List (Addr × Obj)} {σ : L2.St} {H : Hp} {a : Addr} {cls : Value} {d : Option Addr} {s : Shared}
theorem Caught.inv (c : Caught X pins σ H a cls d s) : Inv X pins σ H s :=
  let ⟨_, _, J, keep, up, fly, os, bare, _⟩ := c
  J.landed keep fly.1 up os bare
theorem Caught.hole (c : Caught X pins σ H a cls d s) : H a = none :=
  let ⟨_, _, _, _, _, _, _, _, z⟩ := c
  z
/-- the place of the exception, and what stands there -/
theorem Caught.place (c : Caught X pins σ H a cls d s) (fr : X.env.frame = some X.env.locals) :
    ∃ oe vs, s.heap.get? a = some oe ∧ Zc cls d oe ∧ oe.data = .fields vs ∧ a ≠ X.env.locals ∧ a ∉ X.fs := by
  obtain ⟨B, s0, J, keep, up, fly, os, bare, z⟩ := c
  obtain ⟨oe, vs, at_, zc, dt⟩ := fly.there
  have out : a ∉ frs (X.env :: X.outer) := fun m => by
    obtain ⟨_, o, at2, no⟩ := fly.2.2.1.mem m
    cases at_.symm.trans at2
    exact no vs dt
  refine ⟨oe, vs, at_, zc, dt, fun e => out ?_, fun m => out ?_⟩
  · rw [e]
    exact List.mem_filterMap.mpr ⟨_, List.mem_cons_self, fr⟩
  · obtain ⟨e, me, fe⟩ := List.mem_filterMap.mp m
    exact List.mem_filterMap.mpr ⟨e, List.mem_cons_of_mem _ me, fe⟩
theorem Caught.again {M : Model} {A : Around} {E : Value → Shared → Prop} {Q : Unit → Shared → Prop} (c : Caught X pins σ H a cls d s) (q : ∀ s', Caught X pins σ H a cls d s' → Q () s') :
    wpAny M A (setFlight (.ref a) .none) Q E s := by
  obtain ⟨B, s0, J, keep, up, fly, os, bare, z⟩ := c
  exact HandSPX.lands_againZ fly fun h' fly' up' => q _ ⟨B, s0, J, keep, up.trans up', fly', os, bare, z⟩
/-- no clause took it: it goes on -/
theorem Caught.goes {W : WX} {Q : Flow → Shared → Prop} {pos : String} (ok : X.Ok) (hs : X.stack = X.env :: X.outer) (fr : X.env.frame = some X.env.locals) (c : Caught X pins σ H a cls d s) (tk : Takes X W) (w : W cls d σ H) :
    wpAny (model X.prog X.w) X.A (passOn pos (.ref a) X.env) Q X.xe s := by
  obtain ⟨B, s0, J, keep, up, fly, os, bare, z⟩ := c
  obtain ⟨_, _, _, oe, vs, T, oT, ts, at_, _, dt, one, _⟩ := id fly
  have last : wpAny (model X.prog X.w) X.A (setFlight (.ref a) X.env.frame) (fun _ s4 => wpAny (model X.prog X.w) X.A (throw (.ref a) : Sem Flow) Q X.xe s4) X.xe s := by
    rw [fr]
    refine HandSPX.setFlight_upZ fly fun h4 held up4 => wpAny_throw (tk _ _ ⟨a, B, s0, pins, σ, H, cls, d, rfl, J, keep, up.trans up4, .inr (.inr ?_), z, os, bare, w⟩)
    rw [hs]
    exact held
  unfold PySem.passOn
  refine wpAny_bind (wpAny_field at_ dt one ?_)
  rw [if_neg (by simp : ¬ ((Value.ref T == Value.none) = true))]
  first
    | exact wpAny_bind (wpAny_pure (wpAny_bind last))
    | exact wpAny_bind last
end

/-- the slot i is free behind what the ends say -/
def gone (i : Nat) (D : Ends) : Ends := { nx := fun σ H => D.nx (σ.set i .none) H, rt := D.rt, bk := fun σ H => D.bk (σ.set i .none) H, ct := fun σ H => D.ct (σ.set i .none) H }
/-- what a row of clauses wishes of the exception -/
inductive Hds (X : Cx) (Wout : WX) : List ExceptHandler → (Ends → WX) → Prop
  | out : Hds X Wout [] fun _ => Wout
  | cut {l : List ExceptHandler} : Hds X Wout l fun _ _ _ _ _ => False
  | named {x n : Str} {c : Value} {i : Nat} {ts : Addr → Value → Option Addr → TS} {b : Stmt} {suite : List Stmt} {np p : Pos} {l : List ExceptHandler} {w : Ends → WX} (hi : X.N[i]? = some n) (hl : X.env.kindOf n = some .local) (hc : Names X x c)
      (body : ∀ (a : Addr) (oe : Obj) (cls : Value) (d : Option Addr) (pn : List (Addr × Obj)), Zc cls d oe → (∃ vs, oe.data = .fields vs) → PSs (X.suite a ((a, oe) :: pn)) (b :: suite) (ts a cls d)) (r : Hds X Wout l w) :
      Hds X Wout (.ExceptHandler (some (.Name x np)) (some n) (b :: suite) p :: l) fun D cls d σ H =>
        ∃ k, PySem.W.exmOne X.K cls c = some k ∧ (k = true → ∀ a, H a = .none → ts a cls d (gone i D) (σ.set i (some (.ref a))) H) ∧ (k = false → w D cls d σ H)
  | plain {x : Str} {c : Value} {ts : Addr → Value → Option Addr → TS} {b : Stmt} {suite : List Stmt} {np p : Pos} {l : List ExceptHandler} {w : Ends → WX} (hc : Names X x c)
      (body : ∀ (a : Addr) (oe : Obj) (cls : Value) (d : Option Addr) (pn : List (Addr × Obj)), Zc cls d oe → (∃ vs, oe.data = .fields vs) → PSs (X.suite a ((a, oe) :: pn)) (b :: suite) (ts a cls d)) (r : Hds X Wout l w) :
      Hds X Wout (.ExceptHandler (some (.Name x np)) none (b :: suite) p :: l) fun D cls d σ H =>
        ∃ k, PySem.W.exmOne X.K cls c = some k ∧ (k = true → ∀ a, H a = .none → ts a cls d D σ H) ∧ (k = false → w D cls d σ H)
section
variable {X : Cx} {Wout : WX}
/-- the test of a clause -/
theorem Caught.test {pins : List (Addr × Obj)} {σ : L2.St} {H : Hp} {a : Addr} {cls c : Value} {d : Option Addr} {s : Shared} {x : Str} {k : Bool} {np p : Pos} {R : Result → Shared → Prop} (t : Caught X pins σ H a cls d s) (fr : X.env.frame = some X.env.locals)
    (hc : Names X x c) (e : PySem.W.exmOne X.K cls c = some k) (q : R (.ok (if k then .brk else .next)) s) :
    codeAny (model X.prog X.w) (X.A.mark (some (.ref a))) (.handlers (.ref a) [.ExceptHandler (some (.Name x np)) none [] p] X.env) R s := by
  obtain ⟨oe, vs, at_, zc, dt, nl, nf⟩ := t.place fr
  have J := t.inv.suite at_ dt t.hole nl nf
  have ty : PySem.W.Looks (model X.prog X.w) s.heap (typeOf (.ref a)) cls := fun A Q E s' keep z => wpAny_typeOf_ref (keep _ _ at_) (by rw [zc.1]; exact z)
  have hit := PySem.W.exm_one (M := model X.prog X.w) t.inv.kIn ty e
  refine codeAny_handlers_test ?_
  obtain ⟨hg, nd, m | ⟨m, v, nn⟩⟩ := hc
  · exact ld_glob J hg m (hit.here q) nd
  · exact ld_blt J hg m v (hit.here q) nn nd
theorem Hds.run {hds : List ExceptHandler} {w : Ends → WX} (hd : Hds X Wout hds w) (hs : X.stack = X.env :: X.outer) (fr : X.env.frame = some X.env.locals) (hN : X.N.Nodup) (tk : Takes X Wout)
    {pins : List (Addr × Obj)} {σ : L2.St} {H : Hp} {a : Addr} {cls : Value} {d : Option Addr} {s : Shared} {D : Ends} (t : Caught X pins σ H a cls d s) (h : w D cls d σ H) :
    wpAny (model X.prog X.w) X.A (handleBy (.ref a) X.env hds) (SP X pins D) X.xe s := by
  have ok := t.inv.ok
  induction hd with
  | out => exact wpAny_handleBy_nil (t.goes ok hs fr tk h)
  | cut => exact h.elim
  | @named x n c i ts b suite np p l w hi hl hc body r ih =>
    obtain ⟨k, e, yes, no⟩ := h
    refine wpAny_handleBy_cons ?_ (fun z => nomatch z)
    refine t.test fr hc e ?_
    cases k with
    | false => exact ih (no rfl)
    | true =>
      refine codeAny_handlers_suite_as (t.again fun s2 t2 => ?_)
      obtain ⟨oe, vs, at_, zc, dt, nl, nf⟩ := t2.place fr
      have J := t2.inv.suite at_ dt t2.hole nl nf
      refine store_ok (X := X.suite a ((a, oe) :: (X.pn ++ pins))) (v := .ref a) J hN hi (.inl hl) rfl (fun s3 J3 => ?_) (.inr hl)
      refine wpAny_mono ((body a oe cls d _ zc ⟨vs, dt⟩).run [] s3 _ H _ J3 (yes rfl a t2.hole)) (fun f s4 z => ?_) fun _ _ z => z.elim
      have off : ∀ {σ4 : L2.St} {H4 : Hp} {Q : Shared → Prop}, Inv (X.suite a ((a, oe) :: (X.pn ++ pins))) [] σ4 H4 s4 → (∀ s5, Inv X pins (σ4.set i .none) H4 s5 → Q s5) →
          wpAny (model X.prog X.w) X.A (do bindName X.env n .none; unbindBehindTheSuite X.env n p) (fun _ s5 => Q s5) X.xe s4 := fun J4 q => gone_ok (J4.unsuite ok) hN hi hl q
      match f, z with
      | .next, ⟨_, _, J4, q⟩ => exact off J4 fun s5 J5 => ⟨_, _, J5, q⟩
      | .brk, ⟨_, _, J4, q⟩ => exact off J4 fun s5 J5 => ⟨_, _, J5, q⟩
      | .cont, ⟨_, _, J4, q⟩ => exact off J4 fun s5 J5 => ⟨_, _, J5, q⟩
      | .ret u, ⟨_, _, _, J4, rv, q⟩ => exact off J4 fun s5 J5 => ⟨_, _, _, J5, rv, q⟩
  | @plain x c ts b suite np p l w hc body r ih =>
    obtain ⟨k, e, yes, no⟩ := h
    refine wpAny_handleBy_cons ?_ (fun z => nomatch z)
    refine t.test fr hc e ?_
    cases k with
    | false => exact ih (no rfl)
    | true =>
      refine codeAny_handlers_suite (t.again fun s2 t2 => ?_)
      obtain ⟨oe, vs, at_, zc, dt, nl, nf⟩ := t2.place fr
      have J := t2.inv.suite at_ dt t2.hole nl nf
      refine wpAny_mono ((body a oe cls d _ zc ⟨vs, dt⟩).run [] s2 _ H _ J (yes rfl a t2.hole)) (fun f s4 z => ?_) fun _ _ z => z.elim
      match f, z with
      | .next, ⟨_, _, J4, q⟩ => exact ⟨_, _, J4.unsuite ok, q⟩
      | .brk, ⟨_, _, J4, q⟩ => exact ⟨_, _, J4.unsuite ok, q⟩
      | .cont, ⟨_, _, J4, q⟩ => exact ⟨_, _, J4.unsuite ok, q⟩
      | .ret u, ⟨_, _, _, J4, rv, q⟩ => exact ⟨_, _, _, J4.unsuite ok, rv, q⟩
/-- try: body / clauses -/
theorem ps_try {body : List Stmt} {h₀ : ExceptHandler} {hds : List ExceptHandler} {w : Ends → WX} {pos : Pos} {tb : WX → TS} (hd : Hds X Wout (h₀ :: hds) w) (hs : X.stack = X.env :: X.outer) (fr : X.env.frame = some X.env.locals) (hN : X.N.Nodup) (tk : Takes X Wout)
    (hb : ∀ (W : WX) (pn : List (Addr × Obj)) (xe : Value → Shared → Prop), Takes (X.tr pn xe) W → PassesOwn (model X.prog X.w) X.A X.env xe → PSs (X.tr pn xe) body (tb W)) :
    PS X (.Try body (h₀ :: hds) [] [] pos) fun D σ H => tb (w D) D σ H := by
  refine ⟨fun pins s σ H D I h => wpAny_Try_except ?_⟩
  have ok := I.ok
  let xe : Value → Shared → Prop := fun e s1 => wpAny (model X.prog X.w) X.A (noteFrame e X.env) (fun _ s2 => wpAny (model X.prog X.w) X.A (setFlight e .none) (fun _ s3 => wpAny (model X.prog X.w) X.A (handleBy e X.env (h₀ :: hds)) (SP X pins D) X.xe s3) X.xe s2) X.xe s1
  have tkb : Takes (X.tr (X.pn ++ pins) xe) (w D) := by
    rintro u s1 ⟨a, B, s0, pins', σ1, H1, cls, d, rfl, J', keep, up, sky, z, os, bare, wd⟩
    have J : Inv X pins σ1 H1 s0 := J'.ofTry ok
    have fl : Sky B (X.env :: X.outer) a (Zc cls d) X.env.locals s1.heap := by rw [← hs]; exact sky
    show wpAny (model X.prog X.w) X.A (noteFrame (.ref a) X.env) _ _ _
    refine Sky.land Zc.steady (by rw [ok.frames, hs]) fr fl fun h3 fly up3 => ?_
    exact hd.run hs fr hN tk ⟨B, s0, J, keep, up.trans up3, fly, os, bare, z⟩ wd
  refine wpAny_mono ((hb (w D) (X.pn ++ pins) xe tkb PassesOwn.looking).run [] s σ H D (I.toTry xe) h) (fun f s1 z => ?_) fun _ _ z => z
  match f, z with
  | .next, ⟨_, _, J, q⟩ => exact wpAny_execs_nil ⟨_, _, J.ofTry ok, q⟩
  | .brk, ⟨_, _, J, q⟩ => exact ⟨_, _, J.ofTry ok, q⟩
  | .cont, ⟨_, _, J, q⟩ => exact ⟨_, _, J.ofTry ok, q⟩
  | .ret u, ⟨_, _, _, J, rv, q⟩ => exact ⟨_, _, _, J.ofTry ok, rv, q⟩
end

/-! ### what may raise: called at the slots as they stand -/
/-- C(..) whose __init__ may let an exception out -/
def tMakeS (C : Addr) (sp : Sp) (E : L2.St → XK) (t : TA) : TE := fun σ H Q => t σ H fun vs H1 => ∀ x dx, H1 x = none → H1 dx = none → dx ≠ x →
  sp (.ref x :: vs) (upd (upd H1 dx (.own x)) x (.ins C dx [])) (fun v H2 => v = .non ∧ Q (.ref x) H2) (E σ)
section
variable {X : Cx} {k j : Nat} {C : Addr} {x m : Str} {sp : Sp} {W : WX} {p pos : Pos} {e : Expr} {es : List Expr} {t : TA}
theorem pe_cS (c : Cal X.prog X.w X.K X.mg X.base (L2.CX X.prog X.w) k x sp) (tk : Takes X W) (hr : Room j X.A) (hk : k ≤ j) (hg : Gl X x) (ha : PA X (e :: es) t)
    (hdb : (x == ("__debug__" : Str)) = false := by decide) (he : starEach (e :: es) X.env = (false, eval e X.env) :: starEach es X.env := by rfl) (hpl : (backTo pos (starEach es X.env)).any (·.1) = false := by rfl) :
    PE X (.Call (.Name x p) (e :: es) [] pos) (tCallS sp (WE W) t) := by
  obtain ⟨f, fd, ps, F, hm, kp, b⟩ := c.ex
  exact pe_callS F (hr.mono hk) hg hm kp b (passAt tk) ha hdb he hpl
theorem pe_mkS (c : Mak X.prog X.w X.K X.mg X.base (L2.CX X.prog X.w) k x C sp) (tk : Takes X W) (hr : Room j X.A) (hk : k + 1 ≤ j) (hg : Gl X x) (ha : PA X (e :: es) t)
    (hdb : (x == ("__debug__" : Str)) = false := by decide) (he : starEach (e :: es) X.env = (false, eval e X.env) :: starEach es X.env := by rfl) (hpl : (backTo pos (starEach es X.env)).any (·.1) = false := by rfl) :
    PE X (.Call (.Name x p) (e :: es) [] pos) (tMakeS C sp (WE W) t) := by
  obtain ⟨f, fd, ps, F, ini, fn, kp, b⟩ := c.init.ex
  refine ⟨fun pins s σ H Q I h => wpAny_Call_Name_kw (ld_glob I hg c.mg_ (PySem.W.callWith_K (h₀ := X.base) I.ok.mod.kin c.kp (thn (ha.run pos pins s σ H _ I h) fun us s1 ⟨vs, H1, J, r, q⟩ => ⟨J.kIn, ?_⟩) he hpl) hdb)⟩
  have q1 := q (s1.heap.objs.size + 1) s1.heap.objs.size (J.hok.fresh (Nat.le_succ _)) (J.hok.fresh (Nat.le_refl _)) (Nat.ne_of_lt (Nat.lt_succ_self _))
  have J2 := Inv.made (C := C) J
  have r2 : Vals (V.ref (s1.heap.objs.size + 1) :: vs) (Value.ref (s1.heap.objs.size + 1) :: us) := .cons rfl r
  have ln : (Value.ref (s1.heap.objs.size + 1) :: us).length = ps.length := r2.length.symm.trans (F.len _ _ _ _ q1)
  have bd := b _ (Value.ref (s1.heap.objs.size + 1) :: us) J2.kIn (by rw [List.append_nil]; exact ln)
  rw [List.append_nil] at bd
  have run := F.run _ X.stack _ _ ⟨Value.ref (s1.heap.objs.size + 1) :: us, []⟩ _ _ _ (WE W σ) ((hr.mono hk).make C us []) (J2.env0.make C us []) bd r2 q1
  show wpAny (model X.prog X.w) X.A (call (.ref C) us) (EP X pins σ Q) X.xe s1
  refine wpAny_call (make_map (f := f) J.kIn c.mks ini (beq_iff_eq.mp fn) (codeAny_mono run fun o s2 z => ?_))
  match o, z with
  | .error err, z => exact passAt tk σ pins _ _ err s2 J2 z
  | .ok (.ret u), z =>
    obtain ⟨v, H2, J3, rv, ev, q3⟩ := J2.after z
    subst ev
    exact ⟨rv, V.ref (s1.heap.objs.size + 1), H2, J3, rfl, q3⟩
end
section
variable {P : Program} {w : World} {K : PySem.W.Frag} {mg : Str → Option Value} {base : Heap} {k : Nat} {C : Addr} {x m qual : Str} {st : Stmt} {N ps : List Str} {sp : Sp}
/-- what a body that may raise must show -/
def BodyX (P : Program) (w : World) (K : PySem.W.Frag) (mg : Str → Option Value) (base : Heap) (N : List Str) (qual : Str) (st : Stmt) (f : Addr) (k : Nat) (sp : Sp) : Prop :=
  ∀ (cdv : Value) (A : Around) (outer : List Env) (s : Shared) (H : Hp) (vs : List V) (Q : VK) (E : XK), Room k (A.deeper (envOfC qual (defScope st) s.heap.objs.size f cdv)) → sp vs H Q E →
      ∃ t, PSs (cxOf (L2.CX P w) P w K mg base N qual (defScope st) f cdv A outer s H E) (defBody st) t ∧ t { nx := fun _ H' => Q .non H', rt := Q } (start N vs) H
theorem DefK.calX (D : DefK K mg x st) (S : FnScope N ps (defScope st)) (b : BindOk x x st ps) (len : ∀ vs H Q E, sp vs H Q E → vs.length = ps.length) (hb : ∀ f, BodyX P w K mg base N x st f k sp) : Cal P w K mg base (L2.CX P w) (k + 1) x sp :=
  let ⟨f, fd, F, m⟩ := D.ex
  ⟨f, fd, ps, F.okX S len (hb f), m, F.kp, F.binds b⟩
theorem MetK.metX (D : MetK K C m qual st) (S : FnScope N ps (defScope st)) (b : BindOk m qual st ps) (len : ∀ vs H Q E, sp vs H Q E → vs.length = ps.length) (hb : ∀ f, BodyX P w K mg base N qual st f k sp) : Met P w K mg base (L2.CX P w) (k + 1) C m sp :=
  let ⟨f, fd, F, a, i⟩ := D.ex
  ⟨f, fd, ps, F.okX S len (hb f), a, i, F.kp, F.binds b⟩
end
/-! ### an exception class of the program with an own __init__ -/
structure Exn (P : Program) (w : World) (K : PySem.W.Frag) (mg : Str → Option Value) (base : Heap) (k : Nat) (x : Str) (C : Addr) (sp : Sp) : Prop where
  mg_ : mg x = some (.ref C)
  cls : OexC K C
  init : ∃ fI fd ps, FnOk P w K mg base CX0 k fI fd ps sp ∧ PySem.W.findIn K (.ref C) "__init__" = some (some (.ref fI)) ∧ PySem.W.typeIn K (.ref fI) = some (.type "function") ∧ Binds K fd ps []
theorem pmk_x {X : Cx} {k j : Nat} {C : Addr} {x : Str} {sp : Sp} {p pos : Pos} {e : Expr} {es : List Expr} {t : TA} (c : Exn X.prog X.w X.K X.mg X.base k x C sp) (hr : Room j X.A) (hk : k + 1 ≤ j) (hg : Gl X x) (ha : PA X (e :: es) t)
    (hdb : (x == ("__debug__" : Str)) = false := by decide) (he : starEach (e :: es) X.env = (false, eval e X.env) :: starEach es X.env := by rfl) (hpl : (backTo pos (starEach es X.env)).any (·.1) = false := by rfl) :
    PMk X (.Call (.Name x p) (e :: es) [] pos) (tMkO C sp [] t) := by
  obtain ⟨fI, fd, ps, F, a, ty, b⟩ := c.init
  exact pmk_oex c.cls a ty F (hr.mono hk) b .nil pass0 hg c.mg_ ha hdb he hpl

/-- __init__ that keeps its one argument in the field f -/
def spX (C : Addr) (f : Str) : Sp := fun vs H Q _ => ∃ a y, vs = [.ref a, y] ∧ H a = some (exo a C none) ∧ ∀ dx, H dx = none → dx ≠ a → Q .non (upd (upd H dx (exd dx [(f, y)])) a (exo a C (some dx)))
/-- .. called: the exception's dict is new, all else stays -/
theorem x_read {C : Addr} {f : Str} {y : V} {H : Hp} {Q : XK} (h : ∀ d, H d = none → Q (.ref C) (some d) (upd H d (.xd [(f, y)]))) : ([y] : List V).length ≤ 1000 ∧ ∀ a, H a = none → spX C f (.ref a :: ([y] ++ [])) (upd H a (exo a C none))
    (fun v H2 => v = .non ∧ ∃ (d : Addr) (fs : List (Str × V)), H2 a = some (exo a C (some d)) ∧ H2 d = some (exd d fs) ∧ H d = none ∧ Q (.ref C) (some d) (upd (del H2 a) d (.xd fs))) fun _ _ _ => False := by
  refine ⟨by show 1 ≤ 1000; decide, fun a na => ⟨a, y, rfl, upd_same, fun dx nd ne => ⟨rfl, dx, [(f, y)], upd_same, ?_, ?_, ?_⟩⟩⟩
  · rw [upd_ne ne, upd_same]
  · rw [upd_ne ne] at nd
    exact nd
  · have nd' : H dx = none := by rw [upd_ne ne] at nd; exact nd
    have e : upd (del (upd (upd (upd H a (exo a C none)) dx (exd dx [(f, y)])) a (exo a C (some dx))) a) dx (.xd [(f, y)]) = upd H dx (.xd [(f, y)]) := by
      funext b
      by_cases c1 : b = dx
      · rw [c1, upd_same, upd_same]
      · rw [upd_ne c1, upd_ne c1]
        by_cases c2 : b = a
        · rw [c2, del_same, na]
        · rw [del_ne c2, upd_ne c2, upd_ne c1, upd_ne c2]
    rw [e]
    exact h dx nd'
/-- what the class of a caught exception must say, for its fields and for isinstance -/
structure ExcK (K : PySem.W.Frag) (C : Addr) : Prop where
  xf : XfC K C
  ha : PySem.W.findIn K (.ref C) "__class__" = some (some (.builtin "object.__class__"))
  hn : PySem.W.specialIn K (.builtin "object.__class__") "__get__" = some (some (.builtin "getset_descriptor.__get__"))
  ht : PySem.W.takesIn K (.builtin "object.__class__") = some true
  hm : PySem.W.mroIn K C (.type "object") = some true
section
variable {X : Cx} {a C : Addr} {oe : Obj} {cls : Value} {d : Option Addr} {pn : List (Addr × Obj)}
/-- isinstance(e, c) of a caught exception with a dict -/
def rIsX (K : PySem.W.Frag) (cls : Value) (C a : Addr) (d : Option Addr) : List V → Hp → VK → Prop := fun xs H Q => ∃ (c : V) (cv : Value) (b : Bool) (dd : Addr) (fs : List (Str × V)), xs = [.ref a, c] ∧ cls = .ref C ∧ d = some dd ∧ H dd = some (.xd fs) ∧ (∀ u, RelV c u → u = cv) ∧ PySem.W.kitOne K (.ref C) cv = some b ∧ Q (.bl b) H
theorem exc_inst {pins : List (Addr × Obj)} {σ : L2.St} {H : Hp} {s : Shared} {dd : Addr} {fs : List (Str × V)} (I : Inv (X.suite a ((a, oe) :: pn)) pins σ H s) (hz : Zc (.ref C) (some dd) oe) (hf : ∃ vs, oe.data = .fields vs) (e : H dd = some (.xd fs)) : ∃ od, PySem.W.InstAt s.heap a oe C (some od) := by
  obtain ⟨mA, ns, _⟩ := I.hok dd _ e
  obtain ⟨od, at2, _⟩ := lookIn_ns ns
  obtain ⟨at1, _⟩ := I.pin (a, oe) (List.mem_append_left _ List.mem_cons_self)
  obtain ⟨vs, dt⟩ := hf
  exact ⟨od, at1, hz.1, by unfold PySem.W.notCls; rw [dt] <;> rfl, by rw [hz.2]; exact at2⟩
theorem call_isX (T : ExcK X.K C) (hz : Zc cls d oe) (hf : ∃ vs, oe.data = .fields vs) : CallR (X.suite a ((a, oe) :: pn)) (.builtin "isinstance") (rIsX X.K cls C a d) := by
  intro pins s σ H xs us Q I r h
  obtain ⟨c, cv, b, dd, fs, rfl, rfl, rfl, e, hc, k, q⟩ := h
  cases r with
  | cons r1 r2 =>
    cases r2 with
    | cons r3 r4 =>
      cases r4
      cases r1
      have ec := hc _ r3
      subst ec
      obtain ⟨od, J⟩ := exc_inst I hz hf e
      have cl : (PySem.W.clsIn X.K C).isSome = true := by
        obtain ⟨cd, z, _⟩ := PySem.W.any_some T.xf.hdC
        rw [z]; rfl
      exact PySem.W.kia_one (PySem.W.kitx_exc cl T.xf.ga T.xf.gg T.xf.exC T.ha T.hn T.ht T.hm) I.kIn J k (fun z => nomatch z) fun tk => ⟨.bl b, H, I.kept (t' := tk) fun _ _ z => z, rfl, q⟩
end
end Jg

/-! repr of any value that is data -/
namespace Jg
open PySem PySem.Spec PyProof.Rows L2
/-- v is shown as x -/
inductive Shw (K : PySem.W.Frag) (H : Hp) : V → Str → Prop
  | non : Shw K H .non "None"
  | bl (b : Bool) : Shw K H (.bl b) (if b then "True" else "False")
  | int (i : Int) (h : i.natAbs.log2 < 1920) : Shw K H (.int i) (toString i)
  | str (x : Str) (h : (reprText x).length ≤ sizeLine) : Shw K H (.str x) (reprText x)
  | dat {a : Addr} {d : PyData} (h : Dp K H (.ref a) d) (s : d.showable = true) (dp : d.depth ≤ 40) (z : d.shown.length ≤ sizeLine) : Shw K H (.ref a) d.shown
  | dnew {a : Addr} (h : H a = some (.dK [])) : Shw K H (.ref a) (PyData.dict []).shown
theorem Shw.keep {K : PySem.W.Frag} {H H' : Hp} {v : V} {x : Str} (s : Shw K H v x) (k : ∀ d, Dp K H v d → Dp K H' v d) (k2 : ∀ a, H a = some (.dK []) → H' a = some (.dK [])) : Shw K H' v x := by
  cases s with
  | non => exact .non
  | bl b => exact .bl b
  | int i h => exact .int i h
  | str x h => exact .str x h
  | dat h s dp z => exact .dat (k _ h) s dp z
  | dnew h => exact .dnew (k2 _ h)
def rShw (K : PySem.W.Frag) : List V → Hp → VK → Prop := fun xs H Q => ∃ v x, xs = [v] ∧ Shw K H v x ∧ Q (.str x) H
section
variable {X : Cx}
theorem dk_nil {P : Program} {w : World} {H : Hp} {h : Heap} {a : Addr} (ok : HOk P w H h) (e : H a = some (.dK [])) : ∃ as, Reads h (.ref a) (.dict []) as ∧ sysModules ∉ as := by
  obtain ⟨_, na, vs, kv, o, es, n, at_, ex, dt, _, pr, _⟩ := ok a _ e
  cases kv
  have e0 : es.toList = [] := by
    revert pr
    generalize es.toList = l
    intro pr
    cases pr
    rfl
  have r1 : ReadsAll h (es.toList.map (·.key)) (([] : List (PyData × PyData)).map (·.1)) [] := by rw [e0]; exact ReadsAll.nil
  have r2 : ReadsAll h (es.toList.map (·.val)) (([] : List (PyData × PyData)).map (·.2)) [] := by rw [e0]; exact ReadsAll.nil
  refine ⟨_, Reads.dict at_ ex.1 dt r1 r2, fun m => ?_⟩
  have z : sysModules = a := by simpa using m
  rw [← z] at na
  cases na
theorem call_shw (g : X.A.guards = some []) (hu : X.A.units + 64 < cLine) : CallR X (.builtin "repr") (rShw X.K) := by
  intro pins s σ H xs us Q I r h
  obtain ⟨v, x, rfl, sh, q⟩ := h
  obtain ⟨u, rfl, ru⟩ := vals1 r
  cases sh with
  | non => cases ru; exact PySem.P.repr_of_none ⟨.str _, H, I.tok _, ⟨_, rfl⟩, q⟩
  | bl b => cases ru; exact PySem.P.repr_of_bool ⟨.str _, H, I.tok _, ⟨_, rfl⟩, q⟩
  | int i hz => obtain ⟨t, rfl⟩ := ru; exact PySem.P.repr_of_int hz ⟨.str _, H, I.tok _, ⟨_, rfl⟩, q⟩
  | str y hz => obtain ⟨t, rfl⟩ := ru; exact PySem.P.repr_of_str ⟨.str _, H, I.tok _, ⟨_, rfl⟩, q⟩ hz
  | dat hd hs dp hz =>
    cases ru
    obtain ⟨as, R⟩ := Dp.reads I _ _ (.ref _) hd rfl
    exact repr_of_reads' R hs (PyData.noDict_hsm (noDict _ _ _ _ hd)) g (by omega) (fun _ _ e => e) (fun h' u tk hk => ⟨.str _, H, I.kept hk, ⟨_, rfl⟩, q⟩) hz
  | dnew e =>
    cases ru
    obtain ⟨as, R, na⟩ := dk_nil I.hok e
    have dp : (PyData.dict []).depth ≤ 40 := by decide +kernel
    exact repr_of_reads' R (by decide +kernel) (fun _ => na) g (by omega) (fun _ _ e => e) (fun h' u tk hk => ⟨.str _, H, I.kept hk, ⟨_, rfl⟩, q⟩) (by decide +kernel)
end
end Jg

namespace Jg
open PySem PySem.Spec PyProof.Rows L2
theorem bool_in {prog : Program} {w : World} (x : Value) : MeetsIn prog w (Builtin.«bool.__new__» ⟨[.type "bool", x], []⟩) fun A R s => wpAny (model prog w) A.in1 (truthy x) (fun b s' => R (.ok (.ret (.bool b))) s') (fun e s' => R (.error e) s') s := by
  intro A R s h
  have f1 := F.conv_sub_bool
  unfold Builtin.«bool.__new__»
  repeat (any_goals (first | assumption | wp_step))
  all_goals (show wpAny (model prog w) A.in1 (truthy x) _ _ s; exact wpAny_mono h (fun b s' z => wpAny_pure z) fun _ _ z => z)
/-- bool(x) of an instance with an own __bool__ -/
def rBoolO (C : Addr) (sp : Sp) (E : XK) : List V → Hp → VK → Prop := fun xs H Q => ∃ a dx fs, xs = [.ref a] ∧ H a = some (.ins C dx fs) ∧ sp [.ref a] H (fun v H' => ∃ b, v = .bl b ∧ Q (.bl b) H') E
theorem call_boolO {X : Cx} {k j : Nat} {C : Addr} {sp : Sp} (c : Met X.prog X.w X.K X.mg X.base CX0 k C "__bool__" sp) (hr : Room j X.A) (hk : k + 2 ≤ j) : CallR X (.type "bool") (rBoolO C sp E0) := by
  intro pins s σ H xs us Q I r h
  obtain ⟨a, dx, fs, rfl, ea, q⟩ := h
  obtain rfl := Vals.ref1 r
  obtain ⟨f, fd, ps, F, ini, fn, kp, b⟩ := c.ex
  obtain ⟨mA, J, _⟩ := ins_get I.hok ea
  obtain ⟨od, J, _⟩ := J.look
  obtain ⟨m, hF⟩ := I.fr
  have rv : Vals [V.ref a] [Value.ref a] := .cons rfl .nil
  have ln : [Value.ref a].length = ps.length := rv.length.symm.trans (F.len _ _ _ _ q)
  have bd := b s [Value.ref a] I.kIn (by rw [List.append_nil]; exact ln)
  rw [List.append_nil] at bd
  have rm : Room (k + 2) X.A := hr.mono hk
  have run := F.run X.A.in1.in1 X.stack s H ⟨[Value.ref a], []⟩ _ _ _ E0 rm.in1.in1 I.env0.in1.in1 bd rv q
  refine callType_newIn PySem.F.called_bool PySem.F.newNe_bool (PySem.F.typeCall_bool_1 _) (PySem.F.newCall_bool_1 _) (fun obj => PySem.F.args_object_init_2 obj _) PySem.F.entry_bool_new (bool_in _) ?_
  refine PySem.W.truthy_K hF I.ok.mod.kin J ini fn (wpAny_call (codeAny_mono run fun o s2 z => ?_))
  match o, z with
  | .error err, z => exact z.elim
  | .ok (.ret u), z =>
    obtain ⟨v, H2, J3, rv3, bb, rfl, q3⟩ := I.after z
    cases rv3
    exact ⟨PySem.typeIs_bool _ _, .bl bb, H2, J3, rfl, q3⟩
end Jg

namespace K01
open PySem PySem.Spec PyProof.Rows L2 Jg
local macro_rules | `(tactic| walk_at "rd1") => `(tactic| (first
  | refine ⟨_, rfl, ?_⟩
  | refine ⟨_, _, rfl, rfl, ?_⟩
  | refine ⟨_, _, rfl, ?_⟩
  | refine ⟨rfl, ?_⟩
  | (refine ⟨show (0 : Int) < _ by omega, ?_⟩)
  | (refine ⟨Or.inl ⟨by omega, by omega⟩, ?_⟩)
  | (refine ⟨Or.inr ⟨by omega, by omega⟩, ?_⟩)
  | (refine ⟨(⟨by decide, by decide, by decide⟩ : CPow _ _), ?_⟩)
  | refine Or.inl ⟨_, rfl, ?_⟩
  | refine Or.inr ⟨_, rfl, ?_⟩
  | fail "rd"))
local macro_rules | `(tactic| walk_at "rd") => `(tactic| repeat' walk_at "rd1")

def top (i : Nat) : Stmt := PySem.Challenge.pw_gaplesskeys_k01_ranges_made.main.body.getD i (.Pass ⟨0, 0, 0, 0⟩)

theorem q_true {Q : VK} {b : Bool} {H : Hp} (e : b = true) (h : Q (.bl true) H) : Q (.bl b) H := e ▸ h
def B : Int := 10 ^ 60
theorem B_eq : B = 1000000000000000000000000000000000000000000000000000000000000 := by decide +kernel
/-! ### the data of a range -/
theorem klh : ¬ (("_low" : Str) = "_high") := by decide +kernel
theorem khl : ¬ (("_high" : Str) = "_low") := by decide +kernel
def flds (r : Int × Int) : List (Str × V) := [("_low", .int r.1), ("_high", .int r.2)]
theorem put_hi (lo hi : Int) : putF "_high" (.int hi) [(("_low" : Str), V.int lo)] = flds (lo, hi) := by
  show (if ("_low" : Str) = "_high" then _ else _) = _
  rw [if_neg klh]; rfl
theorem put_lo2 (r : Int × Int) (z : Int) : putF "_low" (.int z) (flds r) = flds (z, r.2) := by
  show (if ("_low" : Str) = "_low" then _ else _) = _
  rw [if_pos rfl]; rfl
theorem put_hi2 (r : Int × Int) (z : Int) : putF "_high" (.int z) (flds r) = flds (r.1, z) := by
  show (if ("_low" : Str) = "_high" then _ else _ :: (if ("_high" : Str) = "_high" then _ else _)) = _
  rw [if_neg klh, if_pos rfl]; rfl
theorem get_lo (r : Int × Int) : (flds r).lookup ("_low" : Str) = some (.int r.1) := by
  have e : ((("_low" : Str)) == ("_low" : Str)) = true := by decide +kernel
  simp only [flds, List.lookup, e]
theorem get_hi (r : Int × Int) : (flds r).lookup ("_high" : Str) = some (.int r.2) := by
  have e1 : ((("_high" : Str)) == ("_low" : Str)) = false := by decide +kernel
  have e2 : ((("_high" : Str)) == ("_high" : Str)) = true := by decide +kernel
  simp only [flds, List.lookup, e1, e2]
theorem get_no (r : Int × Int) {m : Str} (h1 : (m == ("_low" : Str)) = false) (h2 : (m == ("_high" : Str)) = false) : (flds r).lookup m = none := by
  simp only [flds, List.lookup, h1, h2]
/-- a range stands at p -/
def RAt (C : Addr) (H : Hp) (p : Addr) (r : Int × Int) : Prop := ∃ dx, H p = some (.ins C dx (flds r))
def oV : Option Int → V
  | none => .non
  | some i => .int i
/-- the pair that __init__ keeps -/
def mkR (f : Int) : Option Int → Int × Int
  | none => (f, B)
  | some l => if l < f then (-B, -B - 1) else (f, l)
def Bnd (i : Int) : Prop := -B < i ∧ i < B
def BndO : Option Int → Prop
  | none => True
  | some i => Bnd i
/-- what the walk asks of the text -/
structure Txt (K : PySem.W.Frag) (mg : Str → Option Value) (C : Addr) : Prop where
  cl : Cls K C
  nl : NoAttr K C "_low"
  nh : NoAttr K C "_high"
  sf : PySem.W.selfFirst K C = true
  cRange : mg "Range" = some (.ref C)
  gBOUND : ∃ u, mg "BOUND" = some u ∧ L2.RelV (.int B) u
  b_isinstance : mg "isinstance" = none
  b_int : mg "int" = none
  b_bool : mg "bool" = none
  b_str : mg "str" = none
  b_len : mg "len" = none
  b_max : mg "max" = none
  b_min : mg "min" = none
  b_range : mg "range" = none
  b_repr : mg "repr" = none
  b_sorted : mg "sorted" = none
  b_set : mg "set" = none
  cls_ : PySem.W.findIn K (.ref C) "__class__" = some (some (.builtin "object.__class__"))
  cgt : PySem.W.specialIn K (.builtin "object.__class__") "__get__" = some (some (.builtin "getset_descriptor.__get__"))
  ctk : PySem.W.takesIn K (.builtin "object.__class__") = some true
  mro : PySem.W.mroIn K C (.type "object") = some true
  kCC : PySem.W.kitOne K (.ref C) (.ref C) = some true
  kN : PySem.W.kitOne K (.type "NoneType") (.ref C) = some false
  kB : PySem.W.kitOne K (.type "bool") (.ref C) = some false
  kI : PySem.W.kitOne K (.type "int") (.ref C) = some false
  kS : PySem.W.kitOne K (.type "str") (.ref C) = some false
  kL : PySem.W.kitOne K (.type "list") (.ref C) = some false
  kT : PySem.W.kitOne K (.type "tuple") (.ref C) = some false
  kD : PySem.W.kitOne K (.type "dict") (.ref C) = some false
  kCi : PySem.W.kitOne K (.ref C) (.type "int") = some false
  oCC : PySem.W.notFirst K C (.ref C) = true
/-- other values than ranges and integers: what isinstance says of their types -/
structure OddTy (K : PySem.W.Frag) (C : Addr) (t : Value) : Prop where
  c : PySem.W.kitOne K t (.ref C) = some false
  i : ∃ b1 b2, PySem.W.kitOne K t (.type "int") = some b1 ∧ PySem.W.kitOne K t (.type "bool") = some b2 ∧ (b1 && !b2) = false
section
variable {K : PySem.W.Frag} {mg : Str → Option Value} {C : Addr}
theorem Txt.ty (T : Txt K mg C) {H : Hp} {p : Addr} {r : Int × Int} (h : RAt C H p r) : TyX K H (.ref p) (.ref C) :=
  let ⟨_, e⟩ := h
  .base (.ins e T.cl T.cls_ T.cgt T.ctk T.mro)
end
/-! ### promises -/
abbrev kit (K : PySem.W.Frag) (t : Value) (n : String) (b : Bool) : Prop := PySem.W.kitOne K t (.type n) = some b
def spIsInt (K : PySem.W.Frag) : Sp := fun vs H Q _ => ∃ x t b1 b2, vs = [x] ∧ TyX K H x t ∧ kit K t "int" b1 ∧ (b1 = true → kit K t "bool" b2) ∧ Q (.bl (b1 && !b2)) H
theorem kii {K : PySem.W.Frag} : kit K (.type "int") "int" true := kit_ty (by decide +kernel)
theorem kib {K : PySem.W.Frag} : kit K (.type "int") "bool" false := kit_ty (by decide +kernel)
/-- of an integer, or of a value that is none -/
def spBnd (K : PySem.W.Frag) : Sp := fun vs H Q _ => (∃ i, vs = [.int i] ∧ Q (.bl (decide (-B < i) && decide (i < B))) H) ∨
  (∃ x t b1 b2, vs = [x] ∧ TyX K H x t ∧ kit K t "int" b1 ∧ (b1 = true → kit K t "bool" b2) ∧ (b1 && !b2) = false ∧ Q (.bl false) H)
def spInit (C : Addr) : Sp := fun vs H Q _ => ∃ x dx f l, vs = [.ref x, .int f, oV l] ∧ H x = some (.ins C dx []) ∧ Bnd f ∧ BndO l ∧
  ∀ H', RAt C H' x (mkR f l) → (∀ b o, H b = some o → b ≠ x → H' b = some o) → Q .non H'
section
variable {P : Program} {w : World} {K : PySem.W.Frag} {mg : Str → Option Value} {base : Heap} {C : Addr}
abbrev s_is_integer : Stmt := top 8
theorem sc_is_integer : FnScope ["value"] ["value"] (defScope s_is_integer) := ⟨rfl, rfl, rfl, by decide +kernel, rfl, by decide +kernel, by decide +kernel⟩
theorem ok_is_integer (D : DefK K mg "is_integer" s_is_integer) (T : Txt K mg C) : Cal P w K mg base CX0 1 "is_integer" (spIsInt K) := by
  refine D.cal sc_is_integer (fun _ _ _ _ _ _ us hl => match us, hl with | [_], _ => rfl) (fun vs H Q E h => ?_) fun f cdv A outer s H vs Q E hr h => ?_
  · obtain ⟨x, t, b1, b2, rfl, _⟩ := h; rfl
  · obtain ⟨x, t, b1, b2, rfl, ty, k1, k2, q⟩ := h
    refine ⟨_, (pss_one (ps_ret (pe_and (pe_callB call_isi (by rfl) T.b_isinstance (by decide +kernel) (pa_cons (pv 0) (pa_cons (pe_ty (n := "int") (by rfl) T.b_int (by decide +kernel)) pa_nil))) (pe_one (pe_not (pe_callB call_isi (by rfl) T.b_isinstance (by decide +kernel) (pa_cons (pv 0) (pa_cons (pe_ty (n := "bool") (by rfl) T.b_bool (by decide +kernel)) pa_nil)))))))), ?_⟩
    refine ⟨_, rfl, x, .ty "int", t, _, b1, rfl, .ty "int", ty, k1, b1, rfl, ?_⟩
    cases b1 with
    | false => exact iteF q
    | true => exact iteT ⟨_, rfl, x, .ty "bool", t, _, b2, rfl, .ty "bool", ty, k2 rfl, b2, rfl, q⟩
abbrev s_is_bounded : Stmt := top 9
theorem sc_is_bounded : FnScope ["value"] ["value"] (defScope s_is_bounded) := ⟨rfl, rfl, rfl, by decide +kernel, rfl, by decide +kernel, by decide +kernel⟩
theorem ok_is_bounded (D : DefK K mg "is_bounded" s_is_bounded) (T : Txt K mg C) (G_is_integer : Cal P w K mg base CX0 1 "is_integer" (spIsInt K)) : Cal P w K mg base CX0 2 "is_bounded" (spBnd K) := by
  refine D.cal sc_is_bounded (fun _ _ _ _ _ _ us hl => match us, hl with | [_], _ => rfl) (fun vs H Q E h => ?_) fun f cdv A outer s H vs Q E hr h => ?_
  · rcases h with ⟨i, rfl, _⟩ | ⟨x, t, b1, b2, rfl, _⟩ <;> rfl
  · refine ⟨_, (pss_one (ps_ret (pe_and (pe_c G_is_integer hr (by decide) rfl (pa_cons (pv 0) pa_nil)) (pe_one (pe_chain op_lt op_lt (pe_un un_neg (pe_gc rfl T.gBOUND)) (pv 0) (pe_gc rfl T.gBOUND)))))), ?_⟩
    rcases h with ⟨i, rfl, q⟩ | ⟨x, t, b1, b2, rfl, ty, k1, k2, e, q⟩
    · refine ⟨_, rfl, .int i, _, true, false, rfl, .base (.int i), kii, fun _ => kib, true, rfl, iteT ?_⟩
      refine ⟨B, rfl, _, rfl, -B, i, rfl, rfl, _, rfl, ?_⟩
      by_cases c : -B < i
      · rw [decide_eq_true c]
        refine iteT ?_
        rw [decide_eq_true c] at q
        exact ⟨i, B, rfl, rfl, q⟩
      · rw [decide_eq_false c]
        refine iteF ?_
        rw [decide_eq_false c] at q
        exact q
    · refine ⟨_, rfl, x, t, b1, b2, rfl, ty, k1, k2, _, rfl, ?_⟩
      rw [e]
      exact iteF q
abbrev s_Range_init : Stmt := inClass (top 15) 0
theorem sc_Range_init : FnScope ["self", "first", "last"] ["self", "first", "last"] (defScope s_Range_init) := ⟨rfl, rfl, rfl, by decide +kernel, rfl, by decide +kernel, by decide +kernel⟩
theorem ok_init (D : MetK K C "__init__" "Range.__init__" s_Range_init) (T : Txt K mg C) (G_is_bounded : Cal P w K mg base CX0 2 "is_bounded" (spBnd K)) : Met P w K mg base CX0 3 C "__init__" (spInit C) := by
  refine D.met sc_Range_init (fun _ _ _ _ _ _ us hl => match us, hl with | [_, _, _], _ => rfl) (fun vs H Q E h => ?_) fun f cdv A outer s H vs Q E hr h => ?_
  · obtain ⟨x, dx, f, l, rfl, _⟩ := h; rfl
  · obtain ⟨x, dx, f, l, rfl, hx, bf, bl, q⟩ := h
    refine ⟨_, (pss_cons (ps_if (pt_not (pt_val (pe_c G_is_bounded hr (by decide) rfl (pa_cons (pv 1) pa_nil)))) (pss_one ps_never) pss_nil)
      (pss_cons (ps_if (PW.pt (pw_and (pt_cmpR op_notN (pv 2) pe_non (nomark _)) (pw_and1 (pt_not (pt_val (pe_c G_is_bounded hr (by decide) rfl (pa_cons (pv 2) pa_nil))))))) (pss_one ps_never) pss_nil)
      (pss_cons (ps_fld (pv 0) (pv 1) rfl)
      (pss_cons (ps_fld (pv 0) (pe_ifExp (pt_cmpR op_isN (pv 2) pe_non (nomark _)) (pe_gc rfl T.gBOUND) (pv 2)) rfl)
      (pss_one (ps_if (pt_cmpR op_lt (pe_fld (pv 0) rfl) (pe_fld (pv 0) rfl) (nomark _)) (pss_cons (ps_fld (pv 0) (pe_un un_neg (pe_gc rfl T.gBOUND)) rfl)
      (pss_one (ps_fld (pv 0) (pe_op op_sub (pe_un un_neg (pe_gc rfl T.gBOUND)) pe_int) rfl))) pss_nil)))))), ?_⟩
    have bB : (decide (-B < f) && decide (f < B)) = true := by rw [decide_eq_true bf.1, decide_eq_true bf.2]; rfl
    refine ⟨_, rfl, .inl ⟨f, rfl, _, rfl, ?_⟩⟩
    rw [bB]
    refine iteF ?_
    -- last is none, or a moment too
    have go : ∀ (D : Ends) (sg : L2.St), (decide (oV l = V.non) = true ∨ ∃ i, l = some i) → True := fun _ _ _ => trivial
    have npos : (0 : Nat) < 1000 := by decide
    have one : (1 : Nat) < 1000 := by decide
    have two : (2 : Nat) < 1000 := by decide
    cases l with
    | none =>
      refine ⟨_, rfl, rfl, _, rfl, iteF ?_⟩
      refine ⟨_, rfl, _, rfl, x, C, dx, [], rfl, hx, T.cl, T.nl, npos, ?_⟩
      refine ⟨_, rfl, rfl, _, rfl, iteT ⟨_, rfl, x, C, dx, _, rfl, upd_same, T.cl, T.nh, one, ?_⟩⟩
      rw [upd_upd, show putF "_low" (V.int f) [] = [(("_low" : Str), V.int f)] from rfl, put_hi]
      refine ⟨_, rfl, x, C, dx, _, _, rfl, upd_same, T.cl, T.nh, get_hi _, _, rfl, x, C, dx, _, _, rfl, upd_same, T.cl, T.nl, get_lo _, _, _, rfl, rfl, _, rfl, ?_⟩
      have nl : ¬ B < f := by have := bf.2; omega
      rw [decide_eq_false nl]
      refine iteF (q _ ⟨dx, upd_same⟩ fun b o e n => ?_)
      rw [upd_ne n]; exact e
    | some i =>
      have bi : (decide (-B < i) && decide (i < B)) = true := by rw [decide_eq_true bl.1, decide_eq_true bl.2]; rfl
      refine ⟨_, rfl, rfl, _, rfl, iteT ⟨_, rfl, .inl ⟨i, rfl, _, rfl, ?_⟩⟩⟩
      rw [bi]
      refine iteF ?_
      refine ⟨_, rfl, _, rfl, x, C, dx, [], rfl, hx, T.cl, T.nl, npos, ?_⟩
      refine ⟨_, rfl, rfl, _, rfl, iteF ⟨_, rfl, _, rfl, x, C, dx, _, rfl, upd_same, T.cl, T.nh, one, ?_⟩⟩
      rw [upd_upd, show putF "_low" (V.int f) [] = [(("_low" : Str), V.int f)] from rfl, show oV (some i) = V.int i from rfl, put_hi]
      refine ⟨_, rfl, x, C, dx, _, _, rfl, upd_same, T.cl, T.nh, get_hi _, _, rfl, x, C, dx, _, _, rfl, upd_same, T.cl, T.nl, get_lo _, _, _, rfl, rfl, _, rfl, ?_⟩
      by_cases c : i < f
      · rw [decide_eq_true c]
        refine iteT ⟨_, rfl, _, rfl, x, C, dx, _, rfl, upd_same, T.cl, T.nl, two, ?_⟩
        rw [put_lo2, upd_upd]
        refine ⟨_, rfl, _, _, rfl, rfl, _, rfl, x, C, dx, _, rfl, upd_same, T.cl, T.nh, two, ?_⟩
        rw [put_hi2, upd_upd]
        refine q _ ⟨dx, ?_⟩ fun b o e n => ?_
        · rw [upd_same]
          show some (HO.ins C dx (flds (-B, -B - 1))) = some (HO.ins C dx (flds (if i < f then (-B, -B - 1) else (f, i))))
          rw [if_pos c]
        · rw [upd_ne n]; exact e
      · rw [decide_eq_false c]
        refine iteF (q _ ⟨dx, ?_⟩ fun b o e n => ?_)
        · rw [upd_same]
          show some (HO.ins C dx (flds (f, i))) = some (HO.ins C dx (flds (if i < f then (-B, -B - 1) else (f, i))))
          rw [if_neg c]
        · rw [upd_ne n]; exact e
end

/-! ### draws -/
theorem seq_upd {K : PySem.W.Frag} {H : Hp} {l p : Addr} {xs : List V} {o : HO} (h : SqL K H l xs) (n : l ≠ p) : SqL K (upd H p o) l xs := by
  rcases h with (h | ⟨z, h⟩) | h
  · exact .inl (.inl (by rw [upd_ne n]; exact h))
  · exact .inl (.inr ⟨z, by rw [upd_ne n]; exact h⟩)
  · exact .inr h
theorem ne_dec {x y : Int} : decide (V.int x = V.int y) = decide (x = y) := by
  by_cases c : x = y
  · rw [c, decide_eq_true rfl, decide_eq_true rfl]
  · rw [decide_eq_false c, decide_eq_false fun z => c (V.int.inj z)]
def spStream (K : PySem.W.Frag) : Sp := fun vs H Q _ => ∃ (a : Addr) (ns : List Int) (k : Nat), vs = [.ref a, .int k] ∧ SqL K H a (ns.map V.int) ∧ k ≤ 1000 ∧
  ∀ p x y, H p = none → 0 ≤ x → Q (.ref p) (upd H p (.lst [.int x, .int y]))
def spDraw : Sp := fun vs H Q _ => ∃ p a b n, vs = [.ref p, .int n] ∧ H p = some (.lst [.int a, .int b]) ∧ 0 ≤ a ∧ 0 < n ∧ n.natAbs < 2 ^ 300 ∧
  ∀ v a' b', 0 ≤ v → v < n → 0 ≤ a' → Q (.int v) (upd H p (.lst [.int a', .int b']))
def spChoose (K : PySem.W.Frag) : Sp := fun vs H Q _ => ∃ p l a b xs, vs = [.ref p, .ref l] ∧ H p = some (.lst [.int a, .int b]) ∧ 0 ≤ a ∧ SqL K H l xs ∧ l ≠ p ∧ 0 < xs.length ∧ xs.length < 1000 ∧
  ∀ (i : Nat) (v : V) (a' b' : Int), xs[i]? = some v → 0 ≤ a' → Q v (upd H p (.lst [.int a', .int b']))
theorem i1000 {n : Int} (h0 : 0 ≤ n) (h : n < 1000) : n.natAbs < 2 ^ 300 := by
  have : n.natAbs < 1024 := by omega
  exact Nat.lt_of_lt_of_le this (by decide +kernel)
section
variable {P : Program} {w : World} {K : PySem.W.Frag} {mg : Str → Option Value} {base : Heap} {C : Addr}
abbrev s_law_stream : Stmt := top 17
theorem sc_law_stream : FnScope ["script", "k", "cell", "size", "mixed"] ["script", "k"] (defScope s_law_stream) := ⟨rfl, rfl, rfl, by decide +kernel, rfl, by decide +kernel, by decide +kernel⟩
theorem ok_stream (D : DefK K mg "_law_stream" s_law_stream) (T : Txt K mg C) : Cal P w K mg base CX0 1 "_law_stream" (spStream K) := by
  refine D.cal sc_law_stream (fun _ _ _ _ _ _ us hl => match us, hl with | [_, _], _ => rfl) (fun vs H Q E h => ?_) fun f cdv A outer s H vs Q E hr h => ?_
  · obtain ⟨a, ns, k, rfl, _⟩ := h; rfl
  · obtain ⟨a, ns, k, rfl, hS, hk, q⟩ := h
    refine ⟨_, (pss_cons (ps_set (i := 2) sc_law_stream.nd rfl (Or.inl rfl) pe_int)
      (pss_cons (ps_if (pt_cmpR op_lt (pv 1) (pe_callB call_len_seq (by rfl) T.b_len (by decide +kernel) (pa_cons (pv 0) pa_nil)) (nomark _)) (pss_one (ps_set (i := 2) sc_law_stream.nd rfl (Or.inl rfl) (pe_ix (r := rIxL K) ix_list (pv 0) (pv 1) (fun _ _ => rfl)))) pss_nil)
      (pss_cons (ps_set (i := 3) sc_law_stream.nd rfl (Or.inl rfl) (pe_callB (call_max2 rfl) (by rfl) T.b_max (by decide +kernel) (pa_cons (pv 2) (pa_cons (pe_op op_sub (pe_un un_neg pe_int) (pv 2)) pa_nil))))
      (pss_cons (ps_set (i := 4) sc_law_stream.nd rfl (Or.inl rfl) (pe_op op_mod (pe_op op_mul (pe_op op_add (pe_op op_add (pe_op op_add (pe_op op_mod (pv 3) pe_int) (pe_op op_mul (pe_op op_mul pe_int (pv 1)) (pv 1))) (pe_op op_mul pe_int (pv 1))) pe_int) pe_int) pe_int))
      (pss_one (ps_ret (pe_lst (pa_cons (pe_op op_mul (pv 3) (pe_callTy call_int1 (by rfl) T.b_int (by decide +kernel) (pa_cons (pe_cmpR op_ge (pv 3) (pe_op op_pow pe_int pe_int) (nomark _)) pa_nil))) (pa_cons (pv 4) pa_nil))))))))), ?_⟩
    have kb : -(2 ^ 64 : Int) < (k : Int) ∧ (k : Int) < 2 ^ 64 := by omega
    refine ⟨_, rfl, _, rfl, a, _, rfl, .inl hS, _, _, rfl, rfl, _, rfl, ?_⟩
    rw [List.length_map]
    by_cases c : (k : Int) < (ns.length : Int)
    · rw [decide_eq_true c]
      have at_ : (ns.map V.int)[k]? = some (V.int (ns[k]'(by omega))) := by rw [List.getElem?_map, List.getElem?_eq_getElem (by omega)]; rfl
      refine iteT ⟨_, rfl, _, rfl, a, _, _, _, rfl, rfl, hS, atI_nat at_, ?_⟩
      walk_at "rd"
      exact ⟨by show 2 ≤ sizeLine; decide, fun p hp => q p _ _ hp (Int.mul_nonneg (by split <;> omega) (by split <;> omega))⟩
    · rw [decide_eq_false c]
      refine iteF ?_
      walk_at "rd"
      exact ⟨by show 2 ≤ sizeLine; decide, fun p hp => q p _ _ hp (Int.mul_nonneg (by split <;> omega) (by split <;> omega))⟩
end
section
variable {P : Program} {w : World} {K : PySem.W.Frag} {mg : Str → Option Value} {base : Heap} {C : Addr}
abbrev s_law_draw : Stmt := top 18
theorem sc_law_draw : FnScope ["stream", "count", "result"] ["stream", "count"] (defScope s_law_draw) := ⟨rfl, rfl, rfl, by decide +kernel, rfl, by decide +kernel, by decide +kernel⟩
theorem ok_draw (D : DefK K mg "_law_draw" s_law_draw) : Cal P w K mg base CX0 1 "_law_draw" spDraw := by
  refine D.cal sc_law_draw (fun _ _ _ _ _ _ us hl => match us, hl with | [_, _], _ => rfl) (fun vs H Q E h => ?_) fun f cdv A outer s H vs Q E hr h => ?_
  · obtain ⟨p, a, b, n, rfl, _⟩ := h; rfl
  · obtain ⟨p, a, b, n, rfl, hp, ha, hn, hb, q⟩ := h
    have at0 : ∀ x y : Int, atI [V.int x, V.int y] 0 = some (V.int x) := fun _ _ => atI_nat (j := 0) rfl
    have at1 : ∀ x y : Int, atI [V.int x, V.int y] 1 = some (V.int y) := fun _ _ => atI_nat (j := 1) rfl
    have hw : CDivW a n := wide_div hn hb (by decide) (by decide)
    refine ⟨_, (pss_cons (ps_if (pt_cmpR op_gt (pe_ix (r := rIxL K) ix_list (pv 0) pe_int (fun _ _ => rfl)) pe_int (nomark _)) (pss_cons (ps_set (i := 2) sc_law_draw.nd rfl (Or.inl rfl) (pe_op op_mod (pe_ix (r := rIxL K) ix_list (pv 0) pe_int (fun _ _ => rfl)) (pv 1)))
      (pss_cons (ps_asg (pe_op op_fdivW (pe_ix (r := rIxL K) ix_list (pv 0) pe_int (fun _ _ => rfl)) (pv 1)) (pg_sub (pv 0) pe_int set_list))
      (pss_one (ps_ret (pv 2))))) pss_nil)
      (pss_cons (ps_asg (pe_op op_mod (pe_op op_add (pe_op op_mul (pe_ix (r := rIxL K) ix_list (pv 0) pe_int (fun _ _ => rfl)) pe_int) pe_int) pe_int) (pg_sub (pv 0) pe_int set_list))
      (pss_one (ps_ret (pe_op op_mod (pe_op op_fdiv (pe_op op_mod (pe_op op_mul (pe_ix (r := rIxL K) ix_list (pv 0) pe_int (fun _ _ => rfl)) (pe_ix (r := rIxL K) ix_list (pv 0) pe_int (fun _ _ => rfl))) pe_int) pe_int) (pv 1)))))), ?_⟩
    refine ⟨_, rfl, p, _, _, _, rfl, rfl, SqL.of hp, at0 _ _, _, _, rfl, rfl, _, rfl, ?_⟩
    by_cases c : 0 < a
    · rw [decide_eq_true c]
      refine iteT ⟨_, rfl, p, _, _, _, rfl, rfl, SqL.of hp, at0 _ _, _, rfl, _, _, rfl, rfl, hn, ?_⟩
      refine ⟨_, rfl, p, _, _, _, rfl, rfl, SqL.of hp, at0 _ _, _, rfl, _, _, rfl, rfl, hw, ?_⟩
      refine ⟨_, rfl, p, _, _, 0, rfl, rfl, hp, rfl, ?_⟩
      refine ⟨_, rfl, q _ _ _ (Int.emod_nonneg _ (by omega)) (Int.emod_lt_of_pos _ hn) (Int.ediv_nonneg ha (by omega))⟩
    · rw [decide_eq_false c]
      refine iteF ⟨_, rfl, p, _, _, _, rfl, rfl, SqL.of hp, at1 _ _, ?_⟩
      walk_at "rd"
      refine ⟨p, _, _, 1, rfl, rfl, hp, rfl, ?_⟩
      refine ⟨_, rfl, p, _, _, _, rfl, rfl, SqL.of upd_same, at1 _ _, _, rfl, p, _, _, _, rfl, rfl, SqL.of upd_same, at1 _ _, _, _, rfl, rfl, ?_⟩
      have m1 := Int.emod_nonneg (b * 39373 + 7) (show (2147483647 : Int) ≠ 0 by decide)
      have m2 := Int.emod_lt_of_pos (b * 39373 + 7) (show (0 : Int) < 2147483647 by decide)
      refine ⟨.inl ⟨by omega, by omega⟩, _, _, rfl, rfl, show (0 : Int) < _ by decide, _, _, rfl, rfl, ⟨by decide, by decide⟩, _, rfl, _, _, rfl, rfl, hn, ?_⟩
      exact q _ _ _ (Int.emod_nonneg _ (by omega)) (Int.emod_lt_of_pos _ hn) ha
abbrev s_law_choose : Stmt := top 19
theorem sc_law_choose : FnScope ["stream", "items"] ["stream", "items"] (defScope s_law_choose) := ⟨rfl, rfl, rfl, by decide +kernel, rfl, by decide +kernel, by decide +kernel⟩
theorem ok_choose (D : DefK K mg "_law_choose" s_law_choose) (T : Txt K mg C) (G_law_draw : Cal P w K mg base CX0 1 "_law_draw" spDraw) : Cal P w K mg base CX0 2 "_law_choose" (spChoose K) := by
  refine D.cal sc_law_choose (fun _ _ _ _ _ _ us hl => match us, hl with | [_, _], _ => rfl) (fun vs H Q E h => ?_) fun f cdv A outer s H vs Q E hr h => ?_
  · obtain ⟨p, l, a, b, xs, rfl, _⟩ := h; rfl
  · obtain ⟨p, l, a, b, xs, rfl, hp, ha, hl, n, h0, h1, q⟩ := h
    refine ⟨_, (pss_one (ps_ret (pe_ix (r := rIxL K) ix_list (pv 1) (pe_c G_law_draw hr (by decide) rfl (pa_cons (pv 0) (pa_cons (pe_callB call_len_seq (by rfl) T.b_len (by decide +kernel) (pa_cons (pv 1) pa_nil)) pa_nil))) (fun _ _ => rfl)))), ?_⟩
    refine ⟨_, rfl, _, rfl, _, rfl, l, xs, rfl, .inl hl, p, a, b, _, rfl, hp, ha, by omega, i1000 (by omega) (by omega), fun v a' b' v0 v1 a0 => ?_⟩
    have hi : v.toNat < xs.length := by omega
    have ev : xs[v.toNat]? = some (xs[v.toNat]'hi) := List.getElem?_eq_getElem hi
    have ev2 : v = ((v.toNat : Nat) : Int) := by omega
    exact ⟨l, xs, v, _, rfl, rfl, seq_upd hl n, at_of ev2 ev, q v.toNat _ a' b' ev a0⟩
end

/-! ### new ranges: empty, _between, and, joined -/
theorem same_new {H : Hp} {p : Addr} {o : HO} (h : H p = none) : Same H (upd H p o) := fun b u e => by rw [upd_ne (ne_of_none e h)]; exact e
theorem same_new' {H H1 : Hp} {p : Addr} {o : HO} (s : Same H H1) (h : H1 p = none) : Same H (upd H1 p o) := s.trans (same_new h)
theorem same_mut {H H1 : Hp} {p : Addr} {o : HO} (s : Same H H1) (h : H p = none) : Same H (upd H1 p o) := fun b u e => by rw [upd_ne (ne_of_none e h)]; exact s b u e
theorem same_tup {K : PySem.W.Frag} {H H' : Hp} {a : Addr} {xs : List V} (e : Same H H') (h : SqT K H a xs) : SqT K H' a xs := by
  rcases h with (h | ⟨o, h⟩) | h
  · exact .inl (.inl (e _ _ h))
  · exact .inl (.inr ⟨o, e _ _ h⟩)
  · exact .inr h
theorem same_rat {C : Addr} {H H' : Hp} {p : Addr} {r : Int × Int} (e : Same H H') (h : RAt C H p r) : RAt C H' p r :=
  let ⟨dx, z⟩ := h
  ⟨dx, e _ _ z⟩
/-- a range as __init__ leaves it -/
def RngOk (r : Int × Int) : Prop := r = (-B, -B - 1) ∨ (Bnd r.1 ∧ r.1 ≤ r.2 ∧ r.2 ≤ B)
/-- hands back a range that was not there before -/
def NewR (C : Addr) (H : Hp) (r : Int × Int) (Q : VK) : Prop := ∀ x H', H x = none → Same H H' → RAt C H' x r → Q (.ref x) H'
def spEmpty (C : Addr) : Sp := fun vs H Q _ => vs = [.ref C] ∧ NewR C H (-B, -B - 1) Q
def btw (lo hi : Int) : Int × Int := if hi < lo then (-B, -B - 1) else (lo, hi)
def spBtw (C : Addr) : Sp := fun vs H Q _ => ∃ lo hi, vs = [.int lo, .int hi] ∧ (lo ≤ hi → Bnd lo ∧ -B < hi ∧ hi ≤ B) ∧ NewR C H (btw lo hi) Q
def spMin : Sp := fun vs H Q _ => ∃ a b, vs = [.int a, .int b] ∧ Q (.int (if a < b then a else b)) H
def spMax : Sp := fun vs H Q _ => ∃ a b, vs = [.int a, .int b] ∧ Q (.int (if b < a then a else b)) H
def andR (r o : Int × Int) : Int × Int := btw (if o.1 < r.1 then r.1 else o.1) (if r.2 < o.2 then r.2 else o.2)
def spAnd (C : Addr) : Sp := fun vs H Q _ => ∃ p q r o, vs = [.ref p, .ref q] ∧ RAt C H p r ∧ RAt C H q o ∧ RngOk r ∧ RngOk o ∧ NewR C H (andR r o) Q
/-- what joined hands back: the other one, itself, None, or a new range -/
def spJoin (C : Addr) : Sp := fun vs H Q _ => ∃ p q r o, vs = [.ref p, .ref q] ∧ RAt C H p r ∧ RAt C H q o ∧ RngOk r ∧ RngOk o ∧
  (r.2 < r.1 → Q (.ref q) H) ∧ (¬ r.2 < r.1 → o.2 < o.1 → Q (.ref p) H) ∧ (¬ r.2 < r.1 → ¬ o.2 < o.1 → (o.2 + 1 < r.1 ∨ r.2 + 1 < o.1) → Q .non H) ∧
  (¬ r.2 < r.1 → ¬ o.2 < o.1 → ¬ (o.2 + 1 < r.1 ∨ r.2 + 1 < o.1) → NewR C H (btw (if r.1 < o.1 then r.1 else o.1) (if o.2 < r.2 then r.2 else o.2)) Q)
theorem rng_mk {f : Int} {l : Option Int} (bf : Bnd f) (bl : BndO l) : RngOk (mkR f l) := by
  have hB := B_eq
  cases l with
  | none => exact .inr ⟨bf, by have := bf.2; show f ≤ B; omega, Int.le_refl _⟩
  | some i =>
    by_cases c : i < f
    · exact .inl (if_pos c)
    · have e : mkR f (some i) = (f, i) := if_neg c
      rw [e]
      exact .inr ⟨bf, by show f ≤ i; omega, by have := bl.2; show i ≤ B; omega⟩
section
variable {P : Program} {w : World} {K : PySem.W.Frag} {mg : Str → Option Value} {base : Heap} {C : Addr} {mc : Value}
abbrev s_Range_empty : Stmt := inClass (top 15) 1
theorem sc_Range_empty : FnScope ["cls"] ["cls"] (defScope s_Range_empty) := ⟨rfl, rfl, rfl, by decide +kernel, rfl, by decide +kernel, by decide +kernel⟩
theorem ok_empty (D : CmtK K C mc "empty" "Range.empty" s_Range_empty) (M_Range : Mak P w K mg base CX0 3 "Range" C (spInit C)) : Cmt P w K mg base CX0 5 C mc "empty" (spEmpty C) := by
  refine D.cmt sc_Range_empty (fun _ _ _ _ _ _ us hl => match us, hl with | [_], _ => rfl) (fun vs H Q E h => ?_) fun f cdv A outer s H vs Q E hr h => ?_
  · obtain ⟨rfl, _⟩ := h; rfl
  · obtain ⟨rfl, k⟩ := h
    refine ⟨_, (pss_one (ps_ret (pe_mkL (i := 0) M_Range hr (by decide) (by rfl) (Or.inl rfl) (pa_cons pe_int (pa_cons (pe_un un_neg pe_int) pa_nil))))), ?_⟩
    refine ⟨rfl, _, rfl, fun x dx nx ndx nex => ⟨x, dx, 0, some (-1), rfl, upd_same, ⟨by decide, by decide⟩, ⟨by decide, by decide⟩, fun H1 R kp => ⟨rfl, ?_⟩⟩⟩
    exact k x H1 nx (Same.made nx ndx kp) R
end

/-! ### ==, is_endless, size -/
def spEqR (K : PySem.W.Frag) (C : Addr) : Sp := fun vs H Q _ => ∃ p x r, vs = [.ref p, x] ∧ RAt C H p r ∧
  ((∃ q o, x = .ref q ∧ RAt C H q o ∧ ∀ H', Same H H' → Q (.bl (decide (r = o))) H') ∨ (∃ t, TyX K H x t ∧ PySem.W.kitOne K t (.ref C) = some false ∧ Q (.bl false) H))
def spEnd (C : Addr) : Sp := fun vs H Q _ => ∃ p r, vs = [.ref p] ∧ RAt C H p r ∧ Q (.bl (decide (r.2 = B))) H
def sizeV (r : Int × Int) : V := if r.2 = B then .non else .int (r.2 - r.1 + 1)
def spSize (C : Addr) : Sp := fun vs H Q _ => ∃ p r, vs = [.ref p] ∧ RAt C H p r ∧ Q (sizeV r) H
section
variable {P : Program} {w : World} {K : PySem.W.Frag} {mg : Str → Option Value} {base : Heap} {C : Addr}
abbrev s_Range_eq : Stmt := inClass (top 15) 9
theorem sc_Range_eq : FnScope ["self", "other"] ["self", "other"] (defScope s_Range_eq) := ⟨rfl, rfl, rfl, by decide +kernel, rfl, by decide +kernel, by decide +kernel⟩
theorem ok_eq (D : MetK K C "__eq__" "Range.__eq__" s_Range_eq) (T : Txt K mg C) : Met P w K mg base CX0 1 C "__eq__" (spEqR K C) := by
  refine D.met sc_Range_eq (fun _ _ _ _ _ _ us hl => match us, hl with | [_, _], _ => rfl) (fun vs H Q E h => ?_) fun f cdv A outer s H vs Q E hr h => ?_
  · obtain ⟨p, x, r, rfl, _⟩ := h; rfl
  · obtain ⟨p, x, r, rfl, hp0, k⟩ := h
    refine ⟨_, (pss_cons (ps_if (pt_not (pt_val (pe_callB call_isi (by rfl) T.b_isinstance (by decide +kernel) (pa_cons (pv 1) (pa_cons (pe_glob (v := .ref C) rfl T.cRange rfl) pa_nil))))) (pss_one (ps_ret pe_bl)) pss_nil)
      (pss_one (ps_ret (pe_cmpR (op_eqD hr.units) (pe_tup (pa_cons (pe_fld (pv 0) rfl) (pa_cons (pe_fld (pv 0) rfl) pa_nil))) (pe_tup (pa_cons (pe_fld (pv 1) rfl) (pa_cons (pe_fld (pv 1) rfl) pa_nil))) (nomark _))))), ?_⟩
    rcases k with ⟨q, o, rfl, hq0, k⟩ | ⟨t, ty, kt, k⟩
    · obtain ⟨dx, hp⟩ := id hp0
      obtain ⟨dy, hq⟩ := id hq0
      refine ⟨_, rfl, .ref q, .ref C, _, _, true, rfl, .own C, T.ty hq0, T.kCC, _, rfl, iteF ?_⟩
      refine ⟨_, rfl, p, C, dx, _, _, rfl, hp, T.cl, T.nl, get_lo _, _, rfl, p, C, dx, _, _, rfl, hp, T.cl, T.nh, get_hi _, by show 2 ≤ sizeLine; decide, fun t1 n1 => ?_⟩
      have s1 := same_new (o := .tup [.int r.1, .int r.2]) n1
      refine ⟨_, rfl, q, C, dy, _, _, rfl, s1 _ _ hq, T.cl, T.nl, get_lo _, _, rfl, q, C, dy, _, _, rfl, s1 _ _ hq, T.cl, T.nh, get_hi _, by show 2 ≤ sizeLine; decide, fun t2 n2 => ?_⟩
      have s2 := same_new (o := .tup [.int o.1, .int o.2]) n2
      refine ask_eqT (xs := [r.1, r.2]) (ys := [o.1, o.2]) (SqT.of (s2 _ _ upd_same)) (SqT.of upd_same) ?_
      rw [pair_dec]
      exact k _ (s1.trans s2)
    · refine ⟨_, rfl, x, .ref C, _, _, false, rfl, .own C, ty, kt, _, rfl, iteT k⟩
abbrev s_Range_is_endless : Stmt := inClass (top 15) 5
theorem sc_Range_is_endless : FnScope ["self"] ["self"] (defScope s_Range_is_endless) := ⟨rfl, rfl, rfl, by decide +kernel, rfl, by decide +kernel, by decide +kernel⟩
theorem ok_endless (D : PrpK K C "is_endless" "Range.is_endless" s_Range_is_endless) (T : Txt K mg C) : Prp P w K mg base CX0 1 C "is_endless" (spEnd C) := by
  refine D.prp sc_Range_is_endless (fun _ _ _ _ _ _ us hl => match us, hl with | [_], _ => rfl) (fun vs H Q E h => ?_) fun f cdv A outer s H vs Q E hr h => ?_
  · obtain ⟨p, r, rfl, _⟩ := h; rfl
  · obtain ⟨p, r, rfl, ⟨dx, hp⟩, k⟩ := h
    refine ⟨_, (pss_one (ps_ret (pe_cmpR op_eq (pe_fld (pv 0) rfl) (pe_gc rfl T.gBOUND) (nomark _)))), ?_⟩
    refine ⟨_, rfl, p, C, dx, _, _, rfl, hp, T.cl, T.nh, get_hi _, rfl, ?_⟩
    rw [ne_dec]
    exact k
abbrev s_Range_size : Stmt := inClass (top 15) 6
theorem sc_Range_size : FnScope ["self"] ["self"] (defScope s_Range_size) := ⟨rfl, rfl, rfl, by decide +kernel, rfl, by decide +kernel, by decide +kernel⟩
theorem ok_size (D : PrpK K C "size" "Range.size" s_Range_size) (T : Txt K mg C) : Prp P w K mg base CX0 1 C "size" (spSize C) := by
  refine D.prp sc_Range_size (fun _ _ _ _ _ _ us hl => match us, hl with | [_], _ => rfl) (fun vs H Q E h => ?_) fun f cdv A outer s H vs Q E hr h => ?_
  · obtain ⟨p, r, rfl, _⟩ := h; rfl
  · obtain ⟨p, r, rfl, ⟨dx, hp⟩, k⟩ := h
    refine ⟨_, (pss_one (ps_ret (pe_ifExp (pt_cmpR op_eq (pe_fld (pv 0) rfl) (pe_gc rfl T.gBOUND) (nomark _)) pe_non (pe_op op_add (pe_op op_sub (pe_fld (pv 0) rfl) (pe_fld (pv 0) rfl)) pe_int)))), ?_⟩
    refine ⟨_, rfl, p, C, dx, _, _, rfl, hp, T.cl, T.nh, get_hi _, rfl, _, rfl, ?_⟩
    rw [ne_dec]
    unfold sizeV at k
    by_cases c : r.2 = B
    · rw [if_pos c] at k
      exact iteTe (decide_eq_true c) k
    · rw [if_neg c] at k
      exact iteFe (decide_eq_false c) ⟨_, rfl, p, C, dx, _, _, rfl, hp, T.cl, T.nh, get_hi _, _, rfl, p, C, dx, _, _, rfl, hp, T.cl, T.nl, get_lo _, _, _, rfl, rfl, _, _, rfl, rfl, k⟩
end

/-! ### first, last, truth -/
def firstV (r : Int × Int) : V := if r.2 < r.1 then .non else .int r.1
def lastV (r : Int × Int) : V := if r.2 < r.1 then .non else if r.2 = B then .non else .int r.2
def spFirst (C : Addr) : Sp := fun vs H Q _ => ∃ p r, vs = [.ref p] ∧ RAt C H p r ∧ Q (firstV r) H
def spLast (C : Addr) : Sp := fun vs H Q _ => ∃ p r, vs = [.ref p] ∧ RAt C H p r ∧ Q (lastV r) H
def spBoo (C : Addr) : Sp := fun vs H Q _ => ∃ p r, vs = [.ref p] ∧ RAt C H p r ∧ Q (.bl (decide (r.1 ≤ r.2))) H
section
variable {P : Program} {w : World} {K : PySem.W.Frag} {mg : Str → Option Value} {base : Heap} {C : Addr}
abbrev s_Range_first : Stmt := inClass (top 15) 3
theorem sc_Range_first : FnScope ["self"] ["self"] (defScope s_Range_first) := ⟨rfl, rfl, rfl, by decide +kernel, rfl, by decide +kernel, by decide +kernel⟩
theorem ok_first (D : PrpK K C "first" "Range.first" s_Range_first) (T : Txt K mg C) : Prp P w K mg base CX0 1 C "first" (spFirst C) := by
  refine D.prp sc_Range_first (fun _ _ _ _ _ _ us hl => match us, hl with | [_], _ => rfl) (fun vs H Q E h => ?_) fun f cdv A outer s H vs Q E hr h => ?_
  · obtain ⟨p, r, rfl, _⟩ := h; rfl
  · obtain ⟨p, r, rfl, ⟨dx, hp⟩, k⟩ := h
    refine ⟨_, (pss_one (ps_ret (pe_ifExp (pt_cmpR op_gt (pe_fld (pv 0) rfl) (pe_fld (pv 0) rfl) (nomark _)) pe_non (pe_fld (pv 0) rfl)))), ?_⟩
    refine ⟨_, rfl, p, C, dx, _, _, rfl, hp, T.cl, T.nl, get_lo _, _, rfl, p, C, dx, _, _, rfl, hp, T.cl, T.nh, get_hi _, _, _, rfl, rfl, _, rfl, ?_⟩
    unfold firstV at k
    by_cases c : r.2 < r.1
    · rw [if_pos c] at k
      exact iteTe (decide_eq_true c) k
    · rw [if_neg c] at k
      exact iteFe (decide_eq_false c) ⟨_, rfl, p, C, dx, _, _, rfl, hp, T.cl, T.nl, get_lo _, k⟩
abbrev s_Range_last : Stmt := inClass (top 15) 4
theorem sc_Range_last : FnScope ["self"] ["self"] (defScope s_Range_last) := ⟨rfl, rfl, rfl, by decide +kernel, rfl, by decide +kernel, by decide +kernel⟩
theorem ok_last (D : PrpK K C "last" "Range.last" s_Range_last) (T : Txt K mg C) : Prp P w K mg base CX0 1 C "last" (spLast C) := by
  refine D.prp sc_Range_last (fun _ _ _ _ _ _ us hl => match us, hl with | [_], _ => rfl) (fun vs H Q E h => ?_) fun f cdv A outer s H vs Q E hr h => ?_
  · obtain ⟨p, r, rfl, _⟩ := h; rfl
  · obtain ⟨p, r, rfl, ⟨dx, hp⟩, k⟩ := h
    refine ⟨_, (pss_cons (ps_if (PW.pt (pw_or (pt_cmpR op_gt (pe_fld (pv 0) rfl) (pe_fld (pv 0) rfl) (nomark _)) (pw_or1 (pt_cmpR op_eq (pe_fld (pv 0) rfl) (pe_gc rfl T.gBOUND) (nomark _))))) (pss_one (ps_ret pe_non)) pss_nil)
      (pss_one (ps_ret (pe_fld (pv 0) rfl)))), ?_⟩
    refine ⟨_, rfl, p, C, dx, _, _, rfl, hp, T.cl, T.nl, get_lo _, _, rfl, p, C, dx, _, _, rfl, hp, T.cl, T.nh, get_hi _, _, _, rfl, rfl, _, rfl, ?_⟩
    unfold lastV at k
    by_cases c : r.2 < r.1
    · rw [if_pos c] at k
      exact iteTe (decide_eq_true c) k
    · rw [if_neg c] at k
      refine iteFe (decide_eq_false c) ⟨_, rfl, p, C, dx, _, _, rfl, hp, T.cl, T.nh, get_hi _, rfl, ?_⟩
      rw [ne_dec]
      by_cases c2 : r.2 = B
      · rw [if_pos c2] at k
        exact ⟨_, rfl, iteTe (decide_eq_true c2) k⟩
      · rw [if_neg c2] at k
        exact ⟨_, rfl, iteFe (decide_eq_false c2) ⟨_, rfl, p, C, dx, _, _, rfl, hp, T.cl, T.nh, get_hi _, k⟩⟩
abbrev s_Range_bool : Stmt := inClass (top 15) 8
theorem sc_Range_bool : FnScope ["self"] ["self"] (defScope s_Range_bool) := ⟨rfl, rfl, rfl, by decide +kernel, rfl, by decide +kernel, by decide +kernel⟩
theorem ok_bool (D : MetK K C "__bool__" "Range.__bool__" s_Range_bool) (T : Txt K mg C) : Met P w K mg base CX0 1 C "__bool__" (spBoo C) := by
  refine D.met sc_Range_bool (fun _ _ _ _ _ _ us hl => match us, hl with | [_], _ => rfl) (fun vs H Q E h => ?_) fun f cdv A outer s H vs Q E hr h => ?_
  · obtain ⟨p, r, rfl, _⟩ := h; rfl
  · obtain ⟨p, r, rfl, ⟨dx, hp⟩, k⟩ := h
    refine ⟨_, (pss_one (ps_ret (pe_callTy call_bool1 (by rfl) T.b_bool (by decide +kernel) (pa_cons (pe_cmpR op_le (pe_fld (pv 0) rfl) (pe_fld (pv 0) rfl) (nomark _)) pa_nil)))), ?_⟩
    refine ⟨_, rfl, p, C, dx, _, _, rfl, hp, T.cl, T.nl, get_lo _, _, rfl, p, C, dx, _, _, rfl, hp, T.cl, T.nh, get_hi _, _, _, rfl, rfl, .inr ⟨_, rfl, k⟩⟩
end

end K01

namespace K01
open PySem PySem.Spec PyProof.Rows L2 Jg
local macro_rules | `(tactic| walk_at "rd1") => `(tactic| (first
  | refine ⟨_, rfl, ?_⟩
  | refine ⟨_, _, rfl, rfl, ?_⟩
  | refine ⟨_, _, rfl, ?_⟩
  | refine ⟨rfl, ?_⟩
  | (refine ⟨show (0 : Int) < _ by omega, ?_⟩)
  | (refine ⟨Or.inl ⟨by omega, by omega⟩, ?_⟩)
  | (refine ⟨Or.inr ⟨by omega, by omega⟩, ?_⟩)
  | (refine ⟨(⟨by decide, by decide, by decide⟩ : CPow _ _), ?_⟩)
  | refine Or.inl ⟨_, rfl, ?_⟩
  | refine Or.inr ⟨_, rfl, ?_⟩
  | fail "rd"))
local macro_rules | `(tactic| walk_at "rd") => `(tactic| repeat' walk_at "rd1")


def partsV (r : Int × Int) : List V := [firstV r, lastV r, .bl (decide (r.2 = B)), sizeV r, .bl (decide (r.1 ≤ r.2)), .bl (decide (r = (-B, -B - 1)))]
def dueV (f : Int) : Option Int → List V
  | none => [.int f, .non, .bl true, .non, .bl true, .bl false]
  | some i => if i < f then [.non, .non, .bl false, .int 0, .bl false, .bl true] else [.int f, .int i, .bl false, .int (i - f + 1), .bl true, .bl false]
theorem parts_due {f : Int} {l : Option Int} (bf : Bnd f) (bl : BndO l) : partsV (mkR f l) = dueV f l := by
  have hB := B_eq
  have c1 : -B < f := bf.1
  have c2 : f < B := bf.2
  cases l with
  | none =>
    show partsV (f, B) = _
    have e1 : ¬ B < f := by omega
    have e2 : f ≤ B := by omega
    have e3 : ¬ ((f, B) : Int × Int) = (-B, -B - 1) := fun z => by injection z; omega
    simp only [partsV, dueV, firstV, lastV, sizeV, if_neg e1, if_pos rfl, if_true, decide_eq_true e2, decide_eq_false e3, decide_true]
  | some i =>
    have c3 : -B < i := bl.1
    have c4 : i < B := bl.2
    by_cases k : i < f
    · rw [show mkR f (some i) = (-B, -B - 1) from if_pos k]
      have e1 : -B - 1 < -B := by omega
      have e2 : ¬ -B - 1 = B := by omega
      have e3 : ¬ -B ≤ -B - 1 := by omega
      have e4 : -B - 1 - -B + 1 = 0 := by omega
      simp only [partsV, dueV, firstV, lastV, sizeV, if_pos e1, if_neg e2, if_pos k, decide_eq_false e2, decide_eq_false e3, decide_true, e4]
    · rw [show mkR f (some i) = (f, i) from if_neg k]
      have e2 : ¬ i = B := by omega
      have e3 : f ≤ i := by omega
      have e4 : ¬ ((f, i) : Int × Int) = (-B, -B - 1) := fun z => by injection z; omega
      simp only [partsV, dueV, firstV, lastV, sizeV, if_neg k, if_neg e2, decide_eq_false e2, decide_eq_true e3, decide_eq_false e4]
/-- all stays, but what stands at p -/
def SameB (p : Addr) (H H' : Hp) : Prop := ∀ q o, H q = some o → q ≠ p → H' q = some o
theorem SameB.refl (p : Addr) (H : Hp) : SameB p H H := fun _ _ e _ => e
theorem SameB.trans {p : Addr} {H H1 H2 : Hp} (a : SameB p H H1) (b : SameB p H1 H2) : SameB p H H2 := fun q o e n => b q o (a q o e n) n
theorem SameB.of {p : Addr} {H H1 : Hp} (a : Same H H1) : SameB p H H1 := fun q o e _ => a q o e
theorem SameB.new {p l : Addr} {H H1 : Hp} {o : HO} (a : SameB p H H1) (h : H1 l = none) : SameB p H (upd H1 l o) := fun q u e n => by
  have z := a q u e n
  rw [upd_ne (ne_of_none z h)]
  exact z
theorem SameB.mut {p : Addr} {H H1 : Hp} {o : HO} (a : SameB p H H1) : SameB p H (upd H1 p o) := fun q u e n => by
  rw [upd_ne n]
  exact a q u e n
def spEndD : Sp := fun vs H Q _ => ∃ p a b, vs = [.ref p] ∧ H p = some (.lst [.int a, .int b]) ∧ 0 ≤ a ∧
  ∀ (e : Int) (a' b' : Int) H', -(10 ^ 59) ≤ e → e < 10 ^ 60 → 0 ≤ a' → H' p = some (.lst [.int a', .int b']) → SameB p H H' → Q (.int e) H'
def spParts (C : Addr) : Sp := fun vs H Q _ => ∃ p r, vs = [.ref p] ∧ RAt C H p r ∧ ∀ l H', H l = none → Same H H' → H' l = some (.lst (partsV r)) → Q (.ref l) H'
def spDue : Sp := fun vs H Q _ => ∃ f l, vs = [.int f, oV l] ∧ ∀ q H', H q = none → Same H H' → H' q = some (.lst (dueV f l)) → Q (.ref q) H'
section
variable {P : Program} {w : World} {K : PySem.W.Frag} {mg : Str → Option Value} {base : Heap} {C : Addr} {mc : Value}
abbrev s_law_parts : Stmt := top 21
theorem sc_law_parts : FnScope ["drawn"] ["drawn"] (defScope s_law_parts) := ⟨rfl, rfl, rfl, by decide +kernel, rfl, by decide +kernel, by decide +kernel⟩
theorem ok_parts (D : DefK K mg "_law_parts" s_law_parts) (T : Txt K mg C) (G_first : Prp P w K mg base CX0 1 C "first" (spFirst C)) (G_last : Prp P w K mg base CX0 1 C "last" (spLast C)) (G_endless : Prp P w K mg base CX0 1 C "is_endless" (spEnd C)) (G_size : Prp P w K mg base CX0 1 C "size" (spSize C))
    (G_bool : Met P w K mg base CX0 1 C "__bool__" (spBoo C)) (G_eq : Met P w K mg base CX0 1 C "__eq__" (spEqR K C)) (G_empty : Cmt P w K mg base CX0 5 C mc "empty" (spEmpty C)) : Cal P w K mg base CX0 7 "_law_parts" (spParts C) := by
  refine D.cal sc_law_parts (fun _ _ _ _ _ _ us hl => match us, hl with | [_], _ => rfl) (fun vs H Q E h => ?_) fun f cdv A outer s H vs Q E hr h => ?_
  · obtain ⟨p, r, rfl, _⟩ := h; rfl
  · obtain ⟨p, r, rfl, R, k⟩ := h
    obtain ⟨dx, hp⟩ := id R
    refine ⟨_, (pss_one (ps_ret (pe_lst (pa_cons (pe_p G_first T.cl hr (by decide) (pv 0)) (pa_cons (pe_p G_last T.cl hr (by decide) (pv 0)) (pa_cons (pe_p G_endless T.cl hr (by decide) (pv 0)) (pa_cons (pe_p G_size T.cl hr (by decide) (pv 0)) (pa_cons (pe_callTy (call_boolO G_bool hr (by decide)) (by rfl) T.b_bool (by decide +kernel) (pa_cons (pv 0) pa_nil)) (pa_cons (pe_cmpR (op_c G_eq hr (by decide)) (pv 0) (pe_cm0 G_empty hr (by decide) (pe_glob (v := .ref C) rfl T.cRange rfl)) (nomark _)) pa_nil))))))))), ?_⟩
    refine ⟨_, rfl, p, dx, _, rfl, hp, p, r, rfl, R, ?_⟩
    refine ⟨_, rfl, p, dx, _, rfl, hp, p, r, rfl, R, ?_⟩
    refine ⟨_, rfl, p, dx, _, rfl, hp, p, r, rfl, R, ?_⟩
    refine ⟨_, rfl, p, dx, _, rfl, hp, p, r, rfl, R, ?_⟩
    refine ⟨_, rfl, p, dx, _, rfl, hp, p, r, rfl, R, _, rfl, ?_⟩
    refine ⟨_, rfl, ?_⟩
    refine ⟨rfl, rfl, fun x H1 nx s1 Rx => ?_⟩
    obtain ⟨dx1, hp1⟩ := id (same_rat s1 R)
    refine ⟨p, dx1, _, .ref C, rfl, hp1, T.ty Rx, T.oCC, p, _, _, rfl, same_rat s1 R, .inl ⟨x, _, rfl, Rx, fun H2 s2 => ?_⟩⟩
    exact ⟨by show 6 ≤ sizeLine; decide, fun l nl => k l _ ((s1.trans s2).free nl) ((s1.trans s2).trans (same_new nl)) upd_same⟩
abbrev s_law_due : Stmt := top 22
theorem sc_law_due : FnScope ["one", "other"] ["one", "other"] (defScope s_law_due) := ⟨rfl, rfl, rfl, by decide +kernel, rfl, by decide +kernel, by decide +kernel⟩
theorem ok_due (D : DefK K mg "_law_due" s_law_due) : Cal P w K mg base CX0 1 "_law_due" spDue := by
  refine D.cal sc_law_due (fun _ _ _ _ _ _ us hl => match us, hl with | [_, _], _ => rfl) (fun vs H Q E h => ?_) fun f cdv A outer s H vs Q E hr h => ?_
  · obtain ⟨f, l, rfl, _⟩ := h; rfl
  · obtain ⟨f, l, rfl, k⟩ := h
    refine ⟨_, (pss_cons (ps_if (pt_cmpR op_isN (pv 1) pe_non (nomark _)) (pss_one (ps_ret (pe_lst (pa_cons (pv 0) (pa_cons pe_non (pa_cons pe_bl (pa_cons pe_non (pa_cons pe_bl (pa_cons pe_bl pa_nil))))))))) pss_nil)
      (pss_cons (ps_if (pt_cmpR op_lt (pv 1) (pv 0) (nomark _)) (pss_one (ps_ret (pe_lst (pa_cons pe_non (pa_cons pe_non (pa_cons pe_bl (pa_cons pe_int (pa_cons pe_bl (pa_cons pe_bl pa_nil))))))))) pss_nil)
      (pss_one (ps_ret (pe_lst (pa_cons (pv 0) (pa_cons (pv 1) (pa_cons pe_bl (pa_cons (pe_op op_add (pe_op op_sub (pv 1) (pv 0)) pe_int) (pa_cons pe_bl (pa_cons pe_bl pa_nil))))))))))), ?_⟩
    cases l with
    | none => exact ⟨_, rfl, rfl, _, rfl, iteTe rfl ⟨_, rfl, by show 6 ≤ sizeLine; decide, fun q nq => k q _ nq (same_new nq) upd_same⟩⟩
    | some i =>
      refine ⟨_, rfl, rfl, _, rfl, iteFe rfl ?_⟩
      refine ⟨_, rfl, _, rfl, _, _, rfl, rfl, _, rfl, ?_⟩
      by_cases c : i < f
      · refine iteTe (decide_eq_true c) ⟨by show 6 ≤ sizeLine; decide, fun q nq => k q _ nq (same_new nq) ?_⟩
        rw [show dueV f (some i) = [.non, .non, .bl false, .int 0, .bl false, .bl true] from if_pos c]
        exact upd_same
      · refine iteFe (decide_eq_false c) ⟨_, rfl, _, rfl, _, rfl, _, rfl, _, _, rfl, rfl, _, _, rfl, rfl, by show 6 ≤ sizeLine; decide, fun q nq => k q _ nq (same_new nq) ?_⟩
        rw [show dueV f (some i) = [.int f, .int i, .bl false, .int (i - f + 1), .bl true, .bl false] from if_neg c]
        exact upd_same
abbrev s_law_end_drawn : Stmt := top 20
theorem sc_law_end_drawn : FnScope ["stream"] ["stream"] (defScope s_law_end_drawn) := ⟨rfl, rfl, rfl, by decide +kernel, rfl, by decide +kernel, by decide +kernel⟩
theorem ok_end_drawn (D : DefK K mg "_law_end_drawn" s_law_end_drawn) (T : Txt K mg C) (G_law_draw : Cal P w K mg base CX0 1 "_law_draw" spDraw) (G_law_choose : Cal P w K mg base CX0 2 "_law_choose" (spChoose K)) : Cal P w K mg base CX0 3 "_law_end_drawn" spEndD := by
  refine D.cal sc_law_end_drawn (fun _ _ _ _ _ _ us hl => match us, hl with | [_], _ => rfl) (fun vs H Q E h => ?_) fun f cdv A outer s H vs Q E hr h => ?_
  · obtain ⟨p, a, b, rfl, _⟩ := h; rfl
  · obtain ⟨p, a, b, rfl, hp, ha, k⟩ := h
    refine ⟨_, (pss_one (ps_ret (pe_op op_sub (pe_c G_law_draw hr (by decide) rfl (pa_cons (pv 0) (pa_cons (pe_c G_law_choose hr (by decide) rfl (pa_cons (pv 0) (pa_cons (pe_lst (pa_cons pe_int (pa_cons pe_int (pa_cons (pe_op op_pow pe_int pe_int) pa_nil)))) pa_nil))) pa_nil))) (pe_c G_law_choose hr (by decide) rfl (pa_cons (pv 0) (pa_cons (pe_lst (pa_cons pe_int (pa_cons pe_int (pa_cons pe_int (pa_cons (pe_op op_pow pe_int pe_int) pa_nil))))) pa_nil)))))), ?_⟩
    refine ⟨_, rfl, _, rfl, _, _, rfl, rfl, ⟨by decide, by decide, by decide⟩, by show 3 ≤ sizeLine; decide, fun l nl => ?_⟩
    have lp : l ≠ p := fun z => by rw [z, hp] at nl; cases nl
    have s1 := SameB.new (o := .lst [.int 7, .int 1000, .int (10 ^ (60 : Int).toNat)]) (SameB.refl p H) nl
    refine ⟨p, l, a, b, _, rfl, by rw [upd_ne lp.symm]; exact hp, ha, SqL.of upd_same, lp, by show 0 < 3; decide, by show 3 < 1000; decide, fun j v a1 b1 hv ha1 => ?_⟩
    have hn : ∃ n, v = V.int n ∧ 0 < n ∧ n ≤ 10 ^ 60 ∧ n.natAbs < 2 ^ 300 := by
      match j, hv with
      | 0, hv => cases hv; exact ⟨_, rfl, by decide, by decide +kernel, by decide +kernel⟩
      | 1, hv => cases hv; exact ⟨_, rfl, by decide, by decide +kernel, by decide +kernel⟩
      | 2, hv => cases hv; exact ⟨_, rfl, by decide +kernel, by decide +kernel, by decide +kernel⟩
      | j + 3, hv => cases hv
    obtain ⟨n, rfl, n0, n1, n2⟩ := hn
    have s2 := SameB.mut (o := .lst [.int a1, .int b1]) s1
    refine ⟨p, a1, b1, n, rfl, upd_same, ha1, n0, n2, fun v a2 b2 h0 h1 ha2 => ?_⟩
    have s3 := SameB.mut (o := .lst [.int a2, .int b2]) s2
    refine ⟨_, rfl, _, _, rfl, rfl, ⟨by decide, by decide, by decide⟩, by show 4 ≤ sizeLine; decide, fun l2 nl2 => ?_⟩
    have lp2 : l2 ≠ p := fun z => by rw [z, upd_same] at nl2; cases nl2
    have s4 := SameB.new (o := .lst [.int 0, .int 3, .int 500, .int (10 ^ (59 : Int).toNat)]) s3 nl2
    refine ⟨p, l2, a2, b2, _, rfl, by rw [upd_ne lp2.symm, upd_same], ha2, SqL.of upd_same, lp2, by show 0 < 4; decide, by show 4 < 1000; decide, fun j2 v2 a3 b3 hv2 ha3 => ?_⟩
    have hm : ∃ m, v2 = V.int m ∧ 0 ≤ m ∧ m ≤ 10 ^ 59 := by
      match j2, hv2 with
      | 0, hv => cases hv; exact ⟨_, rfl, by decide, by decide +kernel⟩
      | 1, hv => cases hv; exact ⟨_, rfl, by decide, by decide +kernel⟩
      | 2, hv => cases hv; exact ⟨_, rfl, by decide, by decide +kernel⟩
      | 3, hv => cases hv; exact ⟨_, rfl, by decide +kernel, by decide +kernel⟩
      | j + 4, hv => cases hv
    obtain ⟨m, rfl, m0, m1⟩ := hm
    exact ⟨_, _, rfl, rfl, k (v - m) a3 b3 _ (by omega) (by omega) ha3 upd_same (SameB.mut s4)⟩
end

end K01

namespace K01
open PySem PySem.Spec PyProof.Rows L2 Jg
local macro_rules | `(tactic| walk_at "rd1") => `(tactic| (first
  | refine ⟨_, rfl, ?_⟩
  | refine ⟨_, _, rfl, rfl, ?_⟩
  | refine ⟨_, _, rfl, ?_⟩
  | refine ⟨rfl, ?_⟩
  | (refine ⟨show (0 : Int) < _ by omega, ?_⟩)
  | (refine ⟨Or.inl ⟨by omega, by omega⟩, ?_⟩)
  | (refine ⟨Or.inr ⟨by omega, by omega⟩, ?_⟩)
  | (refine ⟨(⟨by decide, by decide, by decide⟩ : CPow _ _), ?_⟩)
  | refine Or.inl ⟨_, rfl, ?_⟩
  | refine Or.inr ⟨_, rfl, ?_⟩
  | fail "rd"))
local macro_rules | `(tactic| walk_at "rd") => `(tactic| repeat' walk_at "rd1")


/-! ### what is raised -/
structure ExnK (K : PySem.W.Frag) (mg : Str → Option Value) (x : Str) (CI : Addr) (qual : Str) (st : Stmt) (f : Str) : Prop where
  mg_ : mg x = some (.ref CI)
  oex : OexC K CI
  xk : ExcK K CI
  no : PySem.W.findIn K (.ref CI) f = some none
  ini : ∃ fI fd, Fun K "__init__" qual st fI fd ∧ PySem.W.findIn K (.ref CI) "__init__" = some (some (.ref fI)) ∧ PySem.W.typeIn K (.ref fI) = some (.type "function")
  te : PySem.W.exmOne K (.ref CI) (.ref CI) = some true
/-- no bounded integer, whatever comes -/
def Bad (K : PySem.W.Frag) (H : Hp) (y : V) : Prop := (∃ i, y = .int i ∧ (decide (-B < i) && decide (i < B)) = false) ∨
  ∃ t b1 b2, (∀ H', Same H H' → TyX K H' y t) ∧ kit K t "int" b1 ∧ (b1 = true → kit K t "bool" b2) ∧ (b1 && !b2) = false
theorem Bad.keep {K : PySem.W.Frag} {H H' : Hp} {y : V} (h : Bad K H y) (s : Same H H') : Bad K H' y := by
  rcases h with h | ⟨t, b1, b2, ty, r⟩
  · exact .inl h
  · exact .inr ⟨t, b1, b2, fun H2 s2 => ty H2 (s.trans s2), r⟩
theorem Bad.bnd {K : PySem.W.Frag} {H : Hp} {y : V} {Q : VK} {E : XK} (h : Bad K H y) (q : Q (.bl false) H) : spBnd K [y] H Q E := by
  rcases h with ⟨i, rfl, e⟩ | ⟨t, b1, b2, ty, r1, r2, r3⟩
  · refine .inl ⟨i, rfl, ?_⟩
    rw [e]
    exact q
  · exact .inr ⟨y, t, b1, b2, rfl, ty H (.refl H), r1, r2, r3, q⟩
def spInitX (K : PySem.W.Frag) (C CI : Addr) : Sp := fun vs H Q E => ∃ x dx u v, vs = [.ref x, u, v] ∧ H x = some (.ins C dx []) ∧
  ((∃ f l, u = .int f ∧ v = oV l ∧ Bnd f ∧ BndO l ∧ ∀ H', RAt C H' x (mkR f l) → (∀ b o, H b = some o → b ≠ x → H' b = some o) → Q .non H') ∨
   (Bad K H u ∧ ∀ d, H d = none → E (.ref CI) (some d) (upd H d (.xd [(("value" : Str), u)]))) ∨
   (∃ f, u = .int f ∧ Bnd f ∧ v ≠ .non ∧ Bad K H v ∧ ∀ d, H d = none → E (.ref CI) (some d) (upd H d (.xd [(("value" : Str), v)]))))
section
variable {P : Program} {w : World} {K : PySem.W.Frag} {mg : Str → Option Value} {base : Heap} {C CI : Addr}
abbrev s_InvalidRange_init : Stmt := inClass (top 3) 0
theorem sc_InvalidRange_init : FnScope ["self", "value"] ["self", "value"] (defScope s_InvalidRange_init) := ⟨rfl, rfl, rfl, by decide +kernel, rfl, by decide +kernel, by decide +kernel⟩
theorem ok_xinit (D : ExnK K mg "InvalidRange" CI "InvalidRange.__init__" s_InvalidRange_init "value") : Exn P w K mg base 1 "InvalidRange" CI (spX CI "value") := by
  obtain ⟨fI, fd, F, a, ty⟩ := D.ini
  refine ⟨D.mg_, D.oex, fI, fd, _, F.ok sc_InvalidRange_init (fun vs H Q E h => ?_) (fun cdv A outer s H vs Q E hr h => ?_), a, ty, F.binds (fun _ _ _ _ _ _ us hl => match us, hl with | [_, _], _ => rfl)⟩
  · obtain ⟨a, y, rfl, _⟩ := h; rfl
  · obtain ⟨a, y, rfl, ha, k⟩ := h
    exact ⟨_, (pss_one (ps_ost (pv 0) (pv 1))), _, rfl, _, rfl, a, CI, rfl, D.oex, D.no, .inl ⟨ha, fun dx n e => k dx n e⟩⟩
theorem ok_initX (D : MetK K C "__init__" "Range.__init__" s_Range_init) (T : Txt K mg C) (G_is_bounded : Cal P w K mg base CX0 2 "is_bounded" (spBnd K)) (G_InvalidRange : Exn P w K mg base 1 "InvalidRange" CI (spX CI "value")) : Met P w K mg base (L2.CX P w) 3 C "__init__" (spInitX K C CI) := by
  refine D.metX sc_Range_init (fun _ _ _ _ _ _ us hl => match us, hl with | [_, _, _], _ => rfl) (fun vs H Q E h => ?_) fun f cdv A outer s H vs Q E hr h => ?_
  · obtain ⟨x, dx, u, v, rfl, _⟩ := h; rfl
  · obtain ⟨x, dx, u, v, rfl, hx, h⟩ := h
    refine ⟨_, (pss_cons (ps_if (pt_not (pt_val (pe_c G_is_bounded hr (by decide) rfl (pa_cons (pv 1) pa_nil)))) (pss_one (ps_raise rfl (takes_of rfl rfl rfl rfl) (pmk_x G_InvalidRange hr (by decide) rfl (pa_cons (pv 1) pa_nil)))) pss_nil)
      (pss_cons (ps_if (PW.pt (pw_and (pt_cmpR op_notN (pv 2) pe_non (nomark _)) (pw_and1 (pt_not (pt_val (pe_c G_is_bounded hr (by decide) rfl (pa_cons (pv 2) pa_nil))))))) (pss_one (ps_raise rfl (takes_of rfl rfl rfl rfl) (pmk_x G_InvalidRange hr (by decide) rfl (pa_cons (pv 2) pa_nil)))) pss_nil)
      (pss_cons (ps_fld (pv 0) (pv 1) rfl)
      (pss_cons (ps_fld (pv 0) (pe_ifExp (pt_cmpR op_isN (pv 2) pe_non (nomark _)) (pe_gc rfl T.gBOUND) (pv 2)) rfl)
      (pss_one (ps_if (pt_cmpR op_lt (pe_fld (pv 0) rfl) (pe_fld (pv 0) rfl) (nomark _)) (pss_cons (ps_fld (pv 0) (pe_un un_neg (pe_gc rfl T.gBOUND)) rfl)
      (pss_one (ps_fld (pv 0) (pe_op op_sub (pe_un un_neg (pe_gc rfl T.gBOUND)) pe_int) rfl))) pss_nil)))))), ?_⟩
    rcases h with ⟨f, l, rfl, rfl, bf, bl, q⟩ | ⟨bad, k⟩ | ⟨f, rfl, bf, nn, bad, k⟩
    · have bB : (decide (-B < f) && decide (f < B)) = true := by rw [decide_eq_true bf.1, decide_eq_true bf.2]; rfl
      refine ⟨_, rfl, .inl ⟨f, rfl, _, rfl, ?_⟩⟩
      rw [bB]
      refine iteF ?_
      -- last is none, or a moment too
      have go : ∀ (D : Ends) (sg : L2.St), (decide (oV l = V.non) = true ∨ ∃ i, l = some i) → True := fun _ _ _ => trivial
      have npos : (0 : Nat) < 1000 := by decide
      have one : (1 : Nat) < 1000 := by decide
      have two : (2 : Nat) < 1000 := by decide
      cases l with
      | none =>
        refine ⟨_, rfl, rfl, _, rfl, iteF ?_⟩
        refine ⟨_, rfl, _, rfl, x, C, dx, [], rfl, hx, T.cl, T.nl, npos, ?_⟩
        refine ⟨_, rfl, rfl, _, rfl, iteT ⟨_, rfl, x, C, dx, _, rfl, upd_same, T.cl, T.nh, one, ?_⟩⟩
        rw [upd_upd, show putF "_low" (V.int f) [] = [(("_low" : Str), V.int f)] from rfl, put_hi]
        refine ⟨_, rfl, x, C, dx, _, _, rfl, upd_same, T.cl, T.nh, get_hi _, _, rfl, x, C, dx, _, _, rfl, upd_same, T.cl, T.nl, get_lo _, _, _, rfl, rfl, _, rfl, ?_⟩
        have nl : ¬ B < f := by have := bf.2; omega
        rw [decide_eq_false nl]
        refine iteF (q _ ⟨dx, upd_same⟩ fun b o e n => ?_)
        rw [upd_ne n]; exact e
      | some i =>
        have bi : (decide (-B < i) && decide (i < B)) = true := by rw [decide_eq_true bl.1, decide_eq_true bl.2]; rfl
        refine ⟨_, rfl, rfl, _, rfl, iteT ⟨_, rfl, .inl ⟨i, rfl, _, rfl, ?_⟩⟩⟩
        rw [bi]
        refine iteF ?_
        refine ⟨_, rfl, _, rfl, x, C, dx, [], rfl, hx, T.cl, T.nl, npos, ?_⟩
        refine ⟨_, rfl, rfl, _, rfl, iteF ⟨_, rfl, _, rfl, x, C, dx, _, rfl, upd_same, T.cl, T.nh, one, ?_⟩⟩
        rw [upd_upd, show putF "_low" (V.int f) [] = [(("_low" : Str), V.int f)] from rfl, show oV (some i) = V.int i from rfl, put_hi]
        refine ⟨_, rfl, x, C, dx, _, _, rfl, upd_same, T.cl, T.nh, get_hi _, _, rfl, x, C, dx, _, _, rfl, upd_same, T.cl, T.nl, get_lo _, _, _, rfl, rfl, _, rfl, ?_⟩
        by_cases c : i < f
        · rw [decide_eq_true c]
          refine iteT ⟨_, rfl, _, rfl, x, C, dx, _, rfl, upd_same, T.cl, T.nl, two, ?_⟩
          rw [put_lo2, upd_upd]
          refine ⟨_, rfl, _, _, rfl, rfl, _, rfl, x, C, dx, _, rfl, upd_same, T.cl, T.nh, two, ?_⟩
          rw [put_hi2, upd_upd]
          refine q _ ⟨dx, ?_⟩ fun b o e n => ?_
          · rw [upd_same]
            show some (HO.ins C dx (flds (-B, -B - 1))) = some (HO.ins C dx (flds (if i < f then (-B, -B - 1) else (f, i))))
            rw [if_pos c]
          · rw [upd_ne n]; exact e
        · rw [decide_eq_false c]
          refine iteF (q _ ⟨dx, ?_⟩ fun b o e n => ?_)
          · rw [upd_same]
            show some (HO.ins C dx (flds (f, i))) = some (HO.ins C dx (flds (if i < f then (-B, -B - 1) else (f, i))))
            rw [if_neg c]
          · rw [upd_ne n]; exact e
    · rcases bad with ⟨i, rfl, e⟩ | ⟨t, b1, b2, ty, r1, r2, r3⟩
      · refine ⟨_, rfl, .inl ⟨i, rfl, _, rfl, ?_⟩⟩
        rw [e]
        exact iteT ⟨_, rfl, x_read fun d nd => k d nd⟩
      · exact ⟨_, rfl, .inr ⟨u, t, b1, b2, rfl, ty H (.refl H), r1, r2, r3, _, rfl, iteT ⟨_, rfl, x_read fun d nd => k d nd⟩⟩⟩
    · have bB : (decide (-B < f) && decide (f < B)) = true := by rw [decide_eq_true bf.1, decide_eq_true bf.2]; rfl
      refine ⟨_, rfl, .inl ⟨f, rfl, _, rfl, ?_⟩⟩
      rw [bB]
      refine iteF ?_
      refine ⟨_, rfl, rfl, _, rfl, ?_⟩
      rw [decide_eq_false nn]
      refine iteT ?_
      rcases bad with ⟨i, rfl, e⟩ | ⟨t, b1, b2, ty, r1, r2, r3⟩
      · refine ⟨_, rfl, .inl ⟨i, rfl, _, rfl, ?_⟩⟩
        rw [e]
        exact iteT ⟨_, rfl, x_read fun d nd => k d nd⟩
      · exact ⟨_, rfl, .inr ⟨v, t, b1, b2, rfl, ty H (.refl H), r1, r2, r3, _, rfl, iteT ⟨_, rfl, x_read fun d nd => k d nd⟩⟩⟩
end

end K01

namespace K01
open PySem PySem.Spec PyProof.Rows L2 Jg
local macro_rules | `(tactic| walk_at "rd1") => `(tactic| (first
  | refine ⟨_, rfl, ?_⟩
  | refine ⟨_, _, rfl, rfl, ?_⟩
  | refine ⟨_, _, rfl, ?_⟩
  | refine ⟨rfl, ?_⟩
  | (refine ⟨show (0 : Int) < _ by omega, ?_⟩)
  | (refine ⟨Or.inl ⟨by omega, by omega⟩, ?_⟩)
  | (refine ⟨Or.inr ⟨by omega, by omega⟩, ?_⟩)
  | (refine ⟨(⟨by decide, by decide, by decide⟩ : CPow _ _), ?_⟩)
  | refine Or.inl ⟨_, rfl, ?_⟩
  | refine Or.inr ⟨_, rfl, ?_⟩
  | fail "rd"))
local macro_rules | `(tactic| walk_at "rd") => `(tactic| repeat' walk_at "rd1")


/-! ### the law's try -/
def spTold (K : PySem.W.Frag) : Sp := fun vs H Q _ => ∃ u v, vs = [u, v] ∧
  ((∃ f l, u = .int f ∧ v = oV l ∧ Bnd f ∧ BndO l ∧ ∀ H', Same H H' → Q (.str "none") H') ∨
   (∃ y tx, ((y = u ∧ Bad K H u) ∨ (y = v ∧ ∃ f, u = .int f ∧ Bnd f ∧ v ≠ .non ∧ Bad K H v)) ∧ (∀ H', Same H H' → Shw K H' y tx) ∧
      ∀ l H', H l = none → Same H H' → H' l = some (.lst [.str tx, .bl true, .bl true, .bl false]) → Q (.ref l) H'))
/-- the classes that the law asks about -/
structure Tst (K : PySem.W.Frag) (mg : Str → Option Value) (CI CG CM : Addr) : Prop where
  gG : mg "GapError" = some (.ref CG)
  gM : mg "InvalidMoment" = some (.ref CM)
  bVE : mg "ValueError" = none
  kG : PySem.W.kitOne K (.ref CI) (.ref CG) = some true
  kV : PySem.W.kitOne K (.ref CI) (.type "ValueError") = some true
  kM : PySem.W.kitOne K (.ref CI) (.ref CM) = some false
section
variable {P : Program} {w : World} {K : PySem.W.Frag} {mg : Str → Option Value} {base : Heap} {C CI CG CM : Addr} {st : Stmt}
abbrev s_law_told_error : Stmt := top 23
theorem sc_law_told_error : FnScope ["one", "other", "e"] ["one", "other"] (defScope s_law_told_error) := ⟨rfl, rfl, rfl, by decide +kernel, rfl, by decide +kernel, by decide +kernel⟩
theorem ok_told (D : DefK K mg "_law_told_error" s_law_told_error) (T : Txt K mg C) (I : ExnK K mg "InvalidRange" CI "InvalidRange.__init__" st "value") (S : Tst K mg CI CG CM) (M_RangeX : Mak P w K mg base (L2.CX P w) 3 "Range" C (spInitX K C CI)) : CalG P w K mg base CX0 5 "_law_told_error" (spTold K) := by
  refine D.calG sc_law_told_error (fun _ _ _ _ _ _ us hl => match us, hl with | [_, _], _ => rfl) (fun vs H Q E h => ?_) fun f cdv A outer s H vs Q E g hr h => ?_
  · obtain ⟨u, v, rfl, _⟩ := h; rfl
  · obtain ⟨u, v, rfl, h⟩ := h
    have hu : (A.deeper (envOfC _ _ _ f cdv)).units + 64 < cLine := hr.units
    have gG := S.gG
    have gM := S.gM
    have bVE := S.bVE
    have hrep : ∀ (a : Addr) (oe : Obj) (pn : List (Addr × Obj)), CallR ((cxOf CX0 P w K mg base ["one", "other", "e"] "_law_told_error" (defScope s_law_told_error) f cdv A outer s H E).nox.suite a ((a, oe) :: pn)) (.builtin "repr") (rShw K) := fun a oe pn => call_shw g hu
    refine ⟨_, (pss_cons (ps_try (.named (i := 2) rfl rfl ⟨rfl, by decide, .inl I.mg_⟩ (fun a oe cls d pn hz hf => pss_one (ps_ret (pe_lst (pa_cons (pe_callB (hrep a oe pn) (by rfl) T.b_repr (by decide +kernel) (pa_cons (pe_xf I.xk.xf I.no hz hf (pv 2)) pa_nil)) (pa_cons (pe_callB (call_isX I.xk hz hf) (by rfl) T.b_isinstance (by decide +kernel) (pa_cons (pv 2) (pa_cons (pe_glob (v := .ref CG) rfl gG rfl) pa_nil))) (pa_cons (pe_callB (call_isX I.xk hz hf) (by rfl) T.b_isinstance (by decide +kernel) (pa_cons (pv 2) (pa_cons (pe_ty (n := "ValueError") (by rfl) bVE (by decide +kernel)) pa_nil))) (pa_cons (pe_callB (call_isX I.xk hz hf) (by rfl) T.b_isinstance (by decide +kernel) (pa_cons (pv 2) (pa_cons (pe_glob (v := .ref CM) rfl gM rfl) pa_nil))) pa_nil))))))) .cut) rfl rfl sc_law_told_error.nd takes0 (fun W pn xe tk _ => pss_one (ps_expr (pe_mkS M_RangeX tk hr (by decide) rfl (pa_cons (pv 0) (pa_cons (pv 1) pa_nil))))))
      (pss_one (ps_ret pe_str))), ?_⟩
    refine ⟨_, rfl, _, rfl, fun x dx nx ndx nex => ⟨x, dx, u, v, rfl, upd_same, ?_⟩⟩
    have s1 : Same H (upd (upd H dx (.own x)) x (.ins C dx [])) := same_new' (same_new ndx) (by rw [upd_ne (Ne.symm nex)]; exact nx)
    rcases h with ⟨f, l, rfl, rfl, bf, bl, q⟩ | ⟨y, tx, hy, hs, q⟩
    · exact .inl ⟨f, l, rfl, rfl, bf, bl, fun H2 R kp => ⟨rfl, q H2 (Same.made nx ndx kp)⟩⟩
    · rcases hy with ⟨rfl, bad⟩ | ⟨rfl, f, rfl, bf, nn, bad⟩
      · refine .inr (.inl ⟨bad.keep s1, fun d nd => ⟨true, I.te, fun _ a na => ?_, fun z => nomatch z⟩⟩)
        have s2 := same_new' (o := .xd [(("value" : Str), y)]) s1 nd
        refine ⟨_, rfl, rfl, rfl, d, _, y, rfl, upd_same, rfl, y, tx, rfl, hs _ s2, ?_⟩
        refine ⟨_, rfl, .ref CG, .ref CG, true, d, _, rfl, rfl, rfl, upd_same, fun _ z => z, S.kG, ?_⟩
        refine ⟨_, rfl, .ty "ValueError", .type "ValueError", true, d, _, rfl, rfl, rfl, upd_same, fun _ z => z, S.kV, ?_⟩
        refine ⟨_, rfl, .ref CM, .ref CM, false, d, _, rfl, rfl, rfl, upd_same, fun _ z => z, S.kM, ?_⟩
        exact ⟨by show 4 ≤ sizeLine; decide, fun l nl => q l _ (s2.free nl) (same_new' s2 nl) upd_same⟩
      · refine .inr (.inr ⟨f, rfl, bf, nn, bad.keep s1, fun d nd => ⟨true, I.te, fun _ a na => ?_, fun z => nomatch z⟩⟩)
        have s2 := same_new' (o := .xd [(("value" : Str), y)]) s1 nd
        refine ⟨_, rfl, rfl, rfl, d, _, y, rfl, upd_same, rfl, y, tx, rfl, hs _ s2, ?_⟩
        refine ⟨_, rfl, .ref CG, .ref CG, true, d, _, rfl, rfl, rfl, upd_same, fun _ z => z, S.kG, ?_⟩
        refine ⟨_, rfl, .ty "ValueError", .type "ValueError", true, d, _, rfl, rfl, rfl, upd_same, fun _ z => z, S.kV, ?_⟩
        refine ⟨_, rfl, .ref CM, .ref CM, false, d, _, rfl, rfl, rfl, upd_same, fun _ z => z, S.kM, ?_⟩
        exact ⟨by show 4 ≤ sizeLine; decide, fun l nl => q l _ (s2.free nl) (same_new' s2 nl) upd_same⟩
end

end K01

namespace K01
open PySem PySem.Spec PyProof.Rows L2 Jg
local macro_rules | `(tactic| walk_at "rd1") => `(tactic| (first
  | refine ⟨_, rfl, ?_⟩
  | refine ⟨_, _, rfl, rfl, ?_⟩
  | refine ⟨_, _, rfl, ?_⟩
  | refine ⟨rfl, ?_⟩
  | (refine ⟨show (0 : Int) < _ by omega, ?_⟩)
  | (refine ⟨Or.inl ⟨by omega, by omega⟩, ?_⟩)
  | (refine ⟨Or.inr ⟨by omega, by omega⟩, ?_⟩)
  | (refine ⟨(⟨by decide, by decide, by decide⟩ : CPow _ _), ?_⟩)
  | refine Or.inl ⟨_, rfl, ?_⟩
  | refine Or.inr ⟨_, rfl, ?_⟩
  | fail "rd"))
local macro_rules | `(tactic| walk_at "rd") => `(tactic| repeat' walk_at "rd1")


def row (x : Str) : List V := [.str x, .bl true, .bl true, .bl false]
def rowD (x : Str) : PyData := .list [.str x, .bool true, .bool true, .bool false]
theorem dp_row {K : PySem.W.Frag} {H : Hp} {a : Addr} {x : Str} (h : SqL K H a (row x)) : Dp K H (.ref a) (rowD x) := .lst h (.cons (.str x) (.cons (.bl _) (.cons (.bl _) (.cons (.bl _) .nil))))
theorem eqv_row (x : Str) : PyData.eqv (rowD x) (rowD x) = true := by simp [PyData.eqv, rowD, PyData.eqvAll]
theorem shaped_row {x : Str} (ok : PyData.strOk x = true) : SeqAt.shaped (rowD x) = true := by
  have e1 : (rowD x).canLay0 = true := by simp [rowD, PyData.canLay0, PyData.canLayAll0, ok]
  have e2 : (rowD x).depth ≤ 64 := by first | (simp [rowD, PyData.depth, PyData.depthAll]; done) | (show PyData.depthAll _ + 1 ≤ 64; simp [PyData.depthAll, PyData.depth]; done) | decide
  exact Bool.and_eq_true_iff.mpr ⟨e1, decide_eq_true e2⟩
theorem shaped_str {x : Str} (ok : PyData.strOk x = true) : SeqAt.shaped (.str x) = true := by
  have e1 : (PyData.str x).canLay0 = true := by simp [PyData.canLay0, ok]
  have e2 : (PyData.str x).depth ≤ 64 := by first | (simp [PyData.depth]; done) | (show 0 ≤ 64; decide)
  exact Bool.and_eq_true_iff.mpr ⟨e1, decide_eq_true e2⟩
theorem neq_row {K : PySem.W.Frag} {H : Hp} {a b : Addr} {x : Str} {Q : VK} (ok : PyData.strOk x = true) (h1 : SqL K H a (row x)) (h2 : SqL K H b (row x)) (q : Q (.bl false) H) : rNeD K (.ref a) (.ref b) H Q :=
  ⟨_, _, dp_row h1, dp_row h2, shaped_row ok, shaped_row ok, by rw [eqv_row]; exact q⟩
theorem eq_row {K : PySem.W.Frag} {H : Hp} {a b : Addr} {x : Str} {Q : VK} (ok : PyData.strOk x = true) (h1 : SqL K H a (row x)) (h2 : SqL K H b (row x)) (q : Q (.bl true) H) : rEqD K (.ref a) (.ref b) H Q :=
  ⟨_, _, dp_row h1, dp_row h2, shaped_row ok, shaped_row ok, by rw [eqv_row]; exact q⟩
theorem eq_none {K : PySem.W.Frag} {H : Hp} {Q : VK} (q : Q (.bl true) H) : rEqD K (.str "none") (.str "none") H Q :=
  ⟨_, _, .str _, .str _, shaped_str (by decide +kernel), shaped_str (by decide +kernel), by rw [show PyData.eqv (.str "none") (.str "none") = true by simp [PyData.eqv]]; exact q⟩
/-- what is odd, and how it is shown -/
def OddS (K : PySem.W.Frag) (H : Hp) (y : V) : Prop := y ≠ .non ∧ Bad K H y ∧ ∃ tx, PyData.strOk tx = true ∧ ∀ H', Same H H' → Shw K H' y tx
theorem OddS.keep {K : PySem.W.Frag} {H H' : Hp} {y : V} (h : OddS K H y) (s : Same H H') : OddS K H' y :=
  ⟨h.1, h.2.1.keep s, let ⟨tx, o, z⟩ := h.2.2; ⟨tx, o, fun H2 s2 => z H2 (s.trans s2)⟩⟩
def spOdd : Sp := fun vs H Q _ => ∃ f, vs = [.int f] ∧ Bnd f ∧ ∀ H', Same H H' → Q (.bl true) H'
theorem out_bnd {i : Int} (h : ¬ Bnd i) : (decide (-B < i) && decide (i < B)) = false := by
  rw [Bool.and_eq_false_iff]
  by_cases c : -B < i
  · exact .inr (decide_eq_false fun z => h ⟨c, z⟩)
  · exact .inl (decide_eq_false c)
theorem odd_bl {K : PySem.W.Frag} {H : Hp} (b : Bool) : OddS K H (.bl b) := ⟨(fun z => nomatch z), .inr ⟨_, true, true, fun _ _ => .base (.bl b), kit_ty (by decide +kernel), fun _ => kit_ty (by decide +kernel), rfl⟩, _, (by cases b <;> decide +kernel), fun _ _ => .bl b⟩
theorem odd_str {K : PySem.W.Frag} {H : Hp} (x : Str) (h : (reprText x).length ≤ sizeLine) (o : PyData.strOk (reprText x) = true) : OddS K H (.str x) := ⟨(fun z => nomatch z), .inr ⟨_, false, false, fun _ _ => .base (.str x), kit_ty (by decide +kernel), (fun z => nomatch z), rfl⟩, _, o, fun _ _ => .str x h⟩
theorem odd_int {K : PySem.W.Frag} {H : Hp} (i : Int) (h : ¬ Bnd i) (z : i.natAbs.log2 < 1920) (o : PyData.strOk (toString i) = true) : OddS K H (.int i) := ⟨(fun z => nomatch z), .inl ⟨i, rfl, out_bnd h⟩, _, o, fun _ _ => .int i z⟩
theorem odd_tup {K : PySem.W.Frag} {H : Hp} {a : Addr} (h : H a = some (.tup [])) : OddS K H (.ref a) :=
  ⟨(fun z => nomatch z), .inr ⟨_, false, false, fun H' s => .base (.tup (s _ _ h)), kit_ty (by decide +kernel), (fun z => nomatch z), rfl⟩, _, (by decide +kernel), fun H' s => .dat (.tup (SqT.of (s _ _ h)) .nil) (by decide +kernel) (by decide +kernel) (by decide +kernel)⟩
theorem odd_lst {K : PySem.W.Frag} {H : Hp} {a : Addr} (h : H a = some (.lst [.int 1])) : OddS K H (.ref a) :=
  ⟨(fun z => nomatch z), .inr ⟨_, false, false, fun H' s => .base (.lst (s _ _ h)), kit_ty (by decide +kernel), (fun z => nomatch z), rfl⟩, _, (by decide +kernel), fun H' s => .dat (.lst (SqL.of (s _ _ h)) (.cons (.int 1) .nil)) (by decide +kernel) (by decide +kernel) (by decide +kernel)⟩
theorem odd_dk {K : PySem.W.Frag} {H : Hp} {a : Addr} (h : H a = some (.dK [])) : OddS K H (.ref a) :=
  ⟨(fun z => nomatch z), .inr ⟨_, false, false, fun H' s => .base (.dK (s _ _ h)), kit_ty (by decide +kernel), (fun z => nomatch z), rfl⟩, _, (by decide +kernel), fun H' s => .dnew (s _ _ h)⟩
section
variable {P : Program} {w : World} {K : PySem.W.Frag} {mg : Str → Option Value} {base : Heap} {C CI CG CM : Addr} {st : Stmt}
abbrev s_law_odd_right : Stmt := top 24
theorem sc_law_odd_right : FnScope ["good", "odd"] ["good"] (defScope s_law_odd_right) := ⟨rfl, rfl, rfl, by decide +kernel, rfl, by decide +kernel, by decide +kernel⟩
theorem ok_odd (D : DefK K mg "_law_odd_right" s_law_odd_right) (T : Txt K mg C) (G_law_told_error : CalG P w K mg base CX0 5 "_law_told_error" (spTold K)) : CalG P w K mg base CX0 6 "_law_odd_right" spOdd := by
  refine D.calG sc_law_odd_right (fun _ _ _ _ _ _ us hl => match us, hl with | [_], _ => rfl) (fun vs H Q E h => ?_) fun ff cdv A outer s H vs Q E g hr h => ?_
  · obtain ⟨f, rfl, _⟩ := h; rfl
  · obtain ⟨f, rfl, bf, k⟩ := h
    have hu : (A.deeper (envOfC _ _ _ ff cdv)).units + 64 < cLine := hr.units
    refine ⟨_, (pss_cons (ps_for PassesOwn.never rfl (pi_list (pe_lst (pa_cons pe_bl (pa_cons pe_bl (pa_cons pe_str (pa_cons (pe_tup pa_nil) (pa_cons (pe_lst (pa_cons pe_int pa_nil)) (pa_cons pe_dnewK (pa_cons (pe_op op_pow pe_int pe_int) (pa_cons (pe_un un_neg (pe_op op_pow pe_int pe_int)) (pa_cons (pe_op op_pow pe_int pe_int) pa_nil))))))))))) (pg_name (i := 1) sc_law_odd_right.nd rfl (Or.inl rfl)) (pss_cons (ps_if (pt_cmpR (op_neD hr.units) (pe_cG G_law_told_error g hr (by decide) rfl (pa_cons (pv 1) (pa_cons (pv 0) pa_nil))) (pe_lst (pa_cons (pe_callB (call_shw g hu) (by rfl) T.b_repr (by decide +kernel) (pa_cons (pv 1) pa_nil)) (pa_cons pe_bl (pa_cons pe_bl (pa_cons pe_bl pa_nil))))) (nomark _)) (pss_one (ps_ret pe_bl)) pss_nil)
      (pss_cons (ps_if (pt_cmpR (op_neD hr.units) (pe_cG G_law_told_error g hr (by decide) rfl (pa_cons (pv 0) (pa_cons (pv 1) pa_nil))) (pe_lst (pa_cons (pe_callB (call_shw g hu) (by rfl) T.b_repr (by decide +kernel) (pa_cons (pv 1) pa_nil)) (pa_cons pe_bl (pa_cons pe_bl (pa_cons pe_bl pa_nil))))) (nomark _)) (pss_one (ps_ret pe_bl)) pss_nil)
      (pss_one (ps_if (pt_cmpR (op_neD hr.units) (pe_cG G_law_told_error g hr (by decide) rfl (pa_cons (pv 1) (pa_cons pe_str pa_nil))) (pe_lst (pa_cons (pe_callB (call_shw g hu) (by rfl) T.b_repr (by decide +kernel) (pa_cons (pv 1) pa_nil)) (pa_cons pe_bl (pa_cons pe_bl (pa_cons pe_bl pa_nil))))) (nomark _)) (pss_one (ps_ret pe_bl)) pss_nil)))))
      (pss_one (ps_ret (pe_and (pe_cmpR (op_eqD hr.units) (pe_cG G_law_told_error g hr (by decide) rfl (pa_cons pe_non (pa_cons pe_non pa_nil))) (pe_lst (pa_cons pe_str (pa_cons pe_bl (pa_cons pe_bl (pa_cons pe_bl pa_nil))))) (nomark _)) (pe_one (pe_cmpR (op_eqD hr.units) (pe_cG G_law_told_error g hr (by decide) rfl (pa_cons (pv 0) (pa_cons pe_non pa_nil))) pe_str (nomark _))))))), ?_⟩
    refine ⟨by show 0 ≤ sizeLine; decide, fun t1 nt1 => ?_⟩
    have s1' := same_new (o := .tup []) nt1
    refine ⟨by show 1 ≤ sizeLine; decide, fun t2 nt2 => ?_⟩
    have s2' := same_new' (o := .lst [.int 1]) s1' nt2
    intro t3 nt3
    have s3' := same_new' (o := .dK []) s2' nt3
    refine ⟨_, _, rfl, rfl, ⟨by decide, by decide, by decide⟩, _, _, rfl, rfl, ⟨by decide, by decide, by decide⟩, _, rfl, _, _, rfl, rfl, ⟨by decide, by decide, by decide⟩, by show 9 ≤ sizeLine; decide, fun lo nlo => ?_⟩
    have s4' := same_new' (o := .lst [.bl true, .bl false, .str "3", .ref t1, .ref t2, .ref t3, .int (10 ^ (60 : Int).toNat), .int (-10 ^ (60 : Int).toNat), .int (10 ^ (64 : Int).toNat)]) s3' nlo
    have n21 : t2 ≠ t1 := fun z => by rw [z, upd_same] at nt2; cases nt2
    have n31 : t3 ≠ t1 := fun z => by rw [z, upd_ne n21.symm, upd_same] at nt3; cases nt3
    have n32 : t3 ≠ t2 := fun z => by rw [z, upd_same] at nt3; cases nt3
    have nl1 : lo ≠ t1 := fun z => by rw [z, upd_ne n31.symm, upd_ne n21.symm, upd_same] at nlo; cases nlo
    have nl2 : lo ≠ t2 := fun z => by rw [z, upd_ne n32.symm, upd_same] at nlo; cases nlo
    have nl3 : lo ≠ t3 := fun z => by rw [z, upd_same] at nlo; cases nlo
    revert s4'
    generalize hHe : upd (upd (upd (upd H t1 (.tup [])) t2 (.lst [.int 1])) t3 (.dK [])) lo (.lst [.bl true, .bl false, .str "3", .ref t1, .ref t2, .ref t3, .int (10 ^ (60 : Int).toNat), .int (-10 ^ (60 : Int).toNat), .int (10 ^ (64 : Int).toNat)]) = He
    intro s4'
    have e1 : He t1 = some (.tup []) := by rw [← hHe, upd_ne nl1.symm, upd_ne n31.symm, upd_ne n21.symm, upd_same]
    have e2 : He t2 = some (.lst [.int 1]) := by rw [← hHe, upd_ne nl2.symm, upd_ne n32.symm, upd_same]
    have e3 : He t3 = some (.dK []) := by rw [← hHe, upd_ne nl3.symm, upd_same]
    have el : He lo = some (.lst [.bl true, .bl false, .str "3", .ref t1, .ref t2, .ref t3, .int (10 ^ (60 : Int).toNat), .int (-10 ^ (60 : Int).toNat), .int (10 ^ (64 : Int).toNat)]) := by rw [← hHe, upd_same]
    refine ⟨lo, rfl, ⟨_, SqL.of (by first | exact upd_same | exact el)⟩, ?_⟩
    refine for_list (K := K) (a := lo) (xs := [.bl true, .bl false, .str "3", .ref t1, .ref t2, .ref t3, .int (10 ^ (60 : Int).toNat), .int (-10 ^ (60 : Int).toNat), .int (10 ^ (64 : Int).toNat)]) (fun _ sg H' => ∃ v1 : Option V, sg = [some (.int f), v1] ∧ Same He H') ⟨_, rfl, by first | exact (Same.refl _) | (rw [hHe]; exact Same.refl _)⟩ (fun _ sg H' _ ⟨_, _, z⟩ => SqL.of (z _ _ el)) ?_ ?_
    · rintro j y sg H4 hj ⟨v1, rfl, s5⟩
      have od : OddS K He y := by
        match j, hj with
        | 0, hj => cases hj; exact odd_bl true
        | 1, hj => cases hj; exact odd_bl false
        | 2, hj => cases hj; exact odd_str _ (by decide +kernel) (by decide +kernel)
        | 3, hj => cases hj; exact odd_tup e1
        | 4, hj => cases hj; exact odd_lst e2
        | 5, hj => cases hj; exact odd_dk e3
        | 6, hj => cases hj; exact odd_int _ (by unfold Bnd B; decide +kernel) (by decide +kernel) (by decide +kernel)
        | 7, hj => cases hj; exact odd_int _ (by unfold Bnd B; decide +kernel) (by decide +kernel) (by decide +kernel)
        | 8, hj => cases hj; exact odd_int _ (by unfold Bnd B; decide +kernel) (by decide +kernel) (by decide +kernel)
        | j + 9, hj => cases hj
      obtain ⟨nn, bad, tx, ok, sh⟩ := od.keep s5
      -- (odd, good)
      refine ⟨_, rfl, _, rfl, y, .int f, rfl, .inr ⟨y, tx, .inl ⟨rfl, bad⟩, sh, fun l1 H5 n1 a5 d1 => ?_⟩⟩
      refine ⟨_, rfl, y, tx, rfl, sh _ a5, by show 4 ≤ sizeLine; decide, fun m1 nm1 => ?_⟩
      have b5 := same_new' (o := .lst (row tx)) a5 nm1
      refine neq_row (x := tx) ok (SqL.of (by have z := same_new (o := .lst (row tx)) nm1 _ _ d1; exact z)) (SqL.of upd_same) ⟨_, rfl, iteF ?_⟩
      -- (good, odd)
      refine ⟨_, rfl, _, rfl, .int f, y, rfl, .inr ⟨y, tx, .inr ⟨rfl, f, rfl, bf, nn, bad.keep b5⟩, fun H2 s2 => sh H2 (b5.trans s2), fun l2 H6 n2 a6 d2 => ?_⟩⟩
      have b6 := b5.trans a6
      refine ⟨_, rfl, y, tx, rfl, sh _ b6, by show 4 ≤ sizeLine; decide, fun m2 nm2 => ?_⟩
      have b7 := same_new' (o := .lst (row tx)) b6 nm2
      refine neq_row (x := tx) ok (SqL.of (by have z := same_new (o := .lst (row tx)) nm2 _ _ d2; exact z)) (SqL.of upd_same) ⟨_, rfl, iteF ?_⟩
      -- (odd, 'end')
      refine ⟨_, rfl, y, .str "end", rfl, .inr ⟨y, tx, .inl ⟨rfl, bad.keep b7⟩, fun H2 s2 => sh H2 (b7.trans s2), fun l3 H7 n3 a7 d3 => ?_⟩⟩
      have b8 := b7.trans a7
      refine ⟨_, rfl, y, tx, rfl, sh _ b8, by show 4 ≤ sizeLine; decide, fun m3 nm3 => ?_⟩
      have b9 := same_new' (o := .lst (row tx)) b8 nm3
      refine neq_row (x := tx) ok (SqL.of (by have z := same_new (o := .lst (row tx)) nm3 _ _ d3; exact z)) (SqL.of upd_same) ⟨_, rfl, iteF ?_⟩
      exact ⟨_, rfl, s5.trans b9⟩
    · rintro sg H4 ⟨v1, rfl, s5⟩
      have hn : Bad K H4 .non := .inr ⟨_, false, false, fun _ _ => .base .non, kit_ty (by decide +kernel), (fun z => nomatch z), rfl⟩
      refine ⟨.non, .non, rfl, .inr ⟨.non, "None", .inl ⟨rfl, hn⟩, fun _ _ => .non, fun l1 H5 n1 a5 d1 => ?_⟩⟩
      refine ⟨by show 4 ≤ sizeLine; decide, fun m1 nm1 => ?_⟩
      refine eq_row (x := "None") (by decide +kernel) (SqL.of (by have z := same_new (o := .lst (row "None")) nm1 _ _ d1; exact z)) (SqL.of upd_same) ⟨_, rfl, iteTe rfl ?_⟩
      refine ⟨_, rfl, .int f, .non, rfl, .inl ⟨f, none, rfl, rfl, bf, trivial, fun H6 a6 => ?_⟩⟩
      exact eq_none (k _ (s4'.trans (s5.trans ((same_new' a5 nm1).trans a6))))
end

end K01

namespace K01
open PySem PySem.Spec PyProof.Rows L2 Jg
local macro_rules | `(tactic| walk_at "rd1") => `(tactic| (first
  | refine ⟨_, rfl, ?_⟩
  | refine ⟨_, _, rfl, rfl, ?_⟩
  | refine ⟨_, _, rfl, ?_⟩
  | refine ⟨rfl, ?_⟩
  | (refine ⟨show (0 : Int) < _ by omega, ?_⟩)
  | (refine ⟨Or.inl ⟨by omega, by omega⟩, ?_⟩)
  | (refine ⟨Or.inr ⟨by omega, by omega⟩, ?_⟩)
  | (refine ⟨(⟨by decide, by decide, by decide⟩ : CPow _ _), ?_⟩)
  | refine Or.inl ⟨_, rfl, ?_⟩
  | refine Or.inr ⟨_, rfl, ?_⟩
  | fail "rd"))
local macro_rules | `(tactic| walk_at "rd") => `(tactic| repeat' walk_at "rd1")


/-! ### how what is due is shown -/
theorem textFrom_le {M : Nat} : ∀ (ts : List Str) (k : Nat) (acc : Str), (∀ t ∈ ts, t.length ≤ M) → (textFrom k acc ts).length ≤ acc.length + ts.length * (M + 2)
  | [], k, acc, _ => by show acc.length ≤ _; omega
  | t :: r, k, acc, h => by
    have ih := textFrom_le r (k + 1) (acc ++ (if k > 0 then ", " else "" : String) ++ t) fun u hu => h u (List.mem_cons_of_mem _ hu)
    have ht := h t List.mem_cons_self
    have e : (acc ++ (if k > 0 then ", " else "" : String) ++ t).length ≤ acc.length + 2 + t.length := by
      rw [Str.length_append, Str.length_append]
      have z : (Str.ofString (if k > 0 then ", " else "" : String)).length ≤ 2 := by split <;> decide
      omega
    show (textFrom (k + 1) (acc ++ (if k > 0 then ", " else "" : String) ++ t) r).length ≤ _
    rw [List.length_cons, Nat.add_mul]
    omega
def dueD (f : Int) : Option Int → List PyData
  | none => [.int f, .none, .bool true, .none, .bool true, .bool false]
  | some i => if i < f then [.none, .none, .bool false, .int 0, .bool false, .bool true] else [.int f, .int i, .bool false, .int (i - f + 1), .bool true, .bool false]
theorem dp_due {K : PySem.W.Frag} {H : Hp} {a : Addr} {f : Int} {l : Option Int} (h : SqL K H a (dueV f l)) : Dp K H (.ref a) (.list (dueD f l)) := by
  cases l with
  | none => exact .lst h (.cons (.int f) (.cons .non (.cons (.bl _) (.cons .non (.cons (.bl _) (.cons (.bl _) .nil))))))
  | some i =>
    by_cases c : i < f
    · rw [show dueV f (some i) = [.non, .non, .bl false, .int 0, .bl false, .bl true] from if_pos c] at h
      rw [show dueD f (some i) = [.none, .none, .bool false, .int 0, .bool false, .bool true] from if_pos c]
      exact .lst h (.cons .non (.cons .non (.cons (.bl _) (.cons (.int 0) (.cons (.bl _) (.cons (.bl _) .nil))))))
    · rw [show dueV f (some i) = [.int f, .int i, .bl false, .int (i - f + 1), .bl true, .bl false] from if_neg c] at h
      rw [show dueD f (some i) = [.int f, .int i, .bool false, .int (i - f + 1), .bool true, .bool false] from if_neg c]
      exact .lst h (.cons (.int f) (.cons (.int i) (.cons (.bl _) (.cons (.int _) (.cons (.bl _) (.cons (.bl _) .nil))))))
theorem big_log {i : Int} (h : i.natAbs < 10 ^ 61) : i.natAbs.log2 < 1920 := Nat.lt_of_lt_of_le (PySem.Flt.log2_lt_of (k := 300) (by decide) (Nat.lt_of_lt_of_le h (by decide +kernel))) (by decide)
theorem big_txt {i : Int} (h : i.natAbs < 10 ^ 61) : (PyData.int i).shown.length ≤ 70 := by
  have z := int_text_length_le10 (k := 61) (by decide) h
  show (Str.ofString (toString i)).length ≤ 70
  rw [PySem.ofString_length]
  omega
theorem shw_due {K : PySem.W.Frag} {H : Hp} {a : Addr} {f : Int} {l : Option Int} (bf : Bnd f) (bl : BndO l) (h : SqL K H a (dueV f l)) : Shw K H (.ref a) (PyData.list (dueD f l)).shown := by
  have hB := B_eq
  have p61 : (10 : Nat) ^ 61 = 10000000000000000000000000000000000000000000000000000000000000 := by decide +kernel
  have c1 : -B < f := bf.1
  have c2 : f < B := bf.2
  have kf : f.natAbs < 10 ^ 61 := by rw [p61]; omega
  have k0 : (0 : Int).natAbs < 10 ^ 61 := by decide +kernel
  have sn : (PyData.none).shown.length ≤ 70 := by decide +kernel
  have sb : ∀ b, (PyData.bool b).shown.length ≤ 70 := by intro b; cases b <;> decide +kernel
  have fits : ∀ ds : List PyData, ds.length ≤ 6 → (∀ t ∈ PyData.shownAll ds, t.length ≤ 70) → (PyData.shownAll ds).length ≤ 6 → (PyData.list ds).shown.length ≤ sizeLine := by
    intro ds h1 h2 h3
    show (textFrom 0 "[" (PyData.shownAll ds) ++ "]").length ≤ sizeLine
    rw [Str.length_append]
    have z := textFrom_le (M := 70) (PyData.shownAll ds) 0 "[" h2
    have z1 : (Str.ofString "[").length = 1 := by decide
    have z2 : (Str.ofString "]").length = 1 := by decide
    have z3 : (PyData.shownAll ds).length * 72 ≤ 6 * 72 := Nat.mul_le_mul_right _ h3
    rw [sizeLine_eq]
    omega
  refine .dat (dp_due h) ?_ ?_ ?_
  · cases l with
    | none => simp [PyData.showable, PyData.showableAll, dueD, big_log kf]
    | some i =>
      have c3 : -B < i := bl.1
      have c4 : i < B := bl.2
      have ki : i.natAbs < 10 ^ 61 := by rw [p61]; omega
      have ks : (i - f + 1).natAbs < 10 ^ 61 := by rw [p61]; omega
      by_cases c : i < f
      · simp [PyData.showable, PyData.showableAll, dueD, c, big_log k0]
      · simp [PyData.showable, PyData.showableAll, dueD, c, big_log kf, big_log ki, big_log ks]
  · cases l with
    | none => simp [PyData.depth, PyData.depthAll, dueD]
    | some i => by_cases c : i < f <;> simp [PyData.depth, PyData.depthAll, dueD, c]
  · cases l with
    | none =>
      refine fits _ (by simp [dueD]) ?_ (by simp [dueD, PyData.shownAll])
      intro t ht
      simp only [dueD, PyData.shownAll, List.mem_cons, List.not_mem_nil, or_false] at ht
      rcases ht with rfl | rfl | rfl | rfl | rfl | rfl <;> first | exact big_txt kf | exact sn | exact sb _
    | some i =>
      have c3 : -B < i := bl.1
      have c4 : i < B := bl.2
      have ki : i.natAbs < 10 ^ 61 := by rw [p61]; omega
      have ks : (i - f + 1).natAbs < 10 ^ 61 := by rw [p61]; omega
      by_cases c : i < f
      · rw [show dueD f (some i) = [.none, .none, .bool false, .int 0, .bool false, .bool true] from if_pos c]
        refine fits _ (by decide) ?_ (by decide)
        intro t ht
        simp only [PyData.shownAll, List.mem_cons, List.not_mem_nil, or_false] at ht
        rcases ht with rfl | rfl | rfl | rfl | rfl | rfl <;> first | exact big_txt k0 | exact sn | exact sb _
      · rw [show dueD f (some i) = [.int f, .int i, .bool false, .int (i - f + 1), .bool true, .bool false] from if_neg c]
        refine fits _ (by simp) ?_ (by simp [PyData.shownAll])
        intro t ht
        simp only [PyData.shownAll, List.mem_cons, List.not_mem_nil, or_false] at ht
        rcases ht with rfl | rfl | rfl | rfl | rfl | rfl <;> first | exact big_txt kf | exact big_txt ki | exact big_txt ks | exact sn | exact sb _

end K01

namespace K01
open PySem PySem.Spec PyProof.Rows L2 Jg
local macro_rules | `(tactic| walk_at "rd1") => `(tactic| (first
  | refine ⟨_, rfl, ?_⟩
  | refine ⟨_, _, rfl, rfl, ?_⟩
  | refine ⟨_, _, rfl, ?_⟩
  | refine ⟨rfl, ?_⟩
  | (refine ⟨show (0 : Int) < _ by omega, ?_⟩)
  | (refine ⟨Or.inl ⟨by omega, by omega⟩, ?_⟩)
  | (refine ⟨Or.inr ⟨by omega, by omega⟩, ?_⟩)
  | (refine ⟨(⟨by decide, by decide, by decide⟩ : CPow _ _), ?_⟩)
  | refine Or.inl ⟨_, rfl, ?_⟩
  | refine Or.inr ⟨_, rfl, ?_⟩
  | fail "rd"))
local macro_rules | `(tactic| walk_at "rd") => `(tactic| repeat' walk_at "rd1")


def spLaw (K : PySem.W.Frag) : Sp := fun vs H Q _ => ∃ (a : Addr) (ns : List Int), vs = [.ref a] ∧ SqL K H a (ns.map V.int) ∧ ns.length ≤ 63 ∧ ∀ H', Q (.bl true) H'
theorem SameB.out {p : Addr} {H H1 H2 : Hp} (a : Same H H1) (b : SameB p H1 H2) (n : H p = none) : Same H H2 := fun q o e => b q o (a q o e) (ne_of_none e n)
theorem p59 : (10 : Int) ^ 59 = 100000000000000000000000000000000000000000000000000000000000 := by decide +kernel
theorem p60 : (10 : Int) ^ 60 = 1000000000000000000000000000000000000000000000000000000000000 := by decide +kernel
theorem p60' : (10 : Int) ^ (60 : Int).toNat = 1000000000000000000000000000000000000000000000000000000000000 := by decide +kernel
theorem end_bnd {e : Int} (lo : -(10 ^ 59) ≤ e) (hi : e < 10 ^ 60) : Bnd e := by
  have hB := B_eq
  rw [p59] at lo
  rw [p60] at hi
  exact ⟨by omega, by omega⟩
def StA (H : Hp) (p : Addr) : Prop := ∃ a b, H p = some (.lst [.int a, .int b]) ∧ 0 ≤ a
def tpv : Int := 10 ^ (60 : Int).toNat - 1
structure Tbl (t1 t2 t3 t4 t5 lo : Addr) (H : Hp) : Prop where
  a1 : H t1 = some (.tup [.int (-tpv), .int tpv])
  a2 : H t2 = some (.tup [.int tpv, .int tpv])
  a3 : H t3 = some (.tup [.int (-tpv), .non])
  a4 : H t4 = some (.tup [.int tpv, .int (-tpv)])
  a5 : H t5 = some (.tup [.int 0, .int 0])
  al : H lo = some (.lst [.ref t1, .ref t2, .ref t3, .ref t4, .ref t5])
theorem Tbl.keep {t1 t2 t3 t4 t5 lo : Addr} {H H' : Hp} (t : Tbl t1 t2 t3 t4 t5 lo H) (s : Same H H') : Tbl t1 t2 t3 t4 t5 lo H' := ⟨s _ _ t.a1, s _ _ t.a2, s _ _ t.a3, s _ _ t.a4, s _ _ t.a5, s _ _ t.al⟩
theorem tp_bnd : Bnd tpv ∧ Bnd (-tpv) := by unfold Bnd B tpv; decide +kernel
section
variable {P : Program} {w : World} {K : PySem.W.Frag} {mg : Str → Option Value} {base : Heap} {C : Addr} {mc : Value}
abbrev s_law : Stmt := top 25
theorem sc_law : FnScope ["script", "k", "top", "stream", "turn", "one", "other", "last"] ["script"] (defScope s_law) := ⟨rfl, rfl, rfl, by decide +kernel, rfl, by decide +kernel, by decide +kernel⟩
theorem body_law (T : Txt K mg C) (bAbs : mg "abs" = none) (M_Range : Mak P w K mg base CX0 3 "Range" C (spInit C)) (G_eq : Met P w K mg base CX0 1 C "__eq__" (spEqR K C)) (G_empty : Cmt P w K mg base CX0 5 C mc "empty" (spEmpty C)) (G_law_stream : Cal P w K mg base CX0 1 "_law_stream" (spStream K))
    (G_law_end_drawn : Cal P w K mg base CX0 3 "_law_end_drawn" spEndD) (G_law_parts : Cal P w K mg base CX0 7 "_law_parts" (spParts C)) (G_law_due : Cal P w K mg base CX0 1 "_law_due" spDue) (G_law_odd_right : CalG P w K mg base CX0 6 "_law_odd_right" spOdd)
    (ff : Addr) (cdv : Value) (A : Around) (outer : List Env) (s : Shared) (H : Hp) (vs : List V) (Q : VK) (E : XK) (g : (cxOf CX0 P w K mg base ["script", "k", "top", "stream", "turn", "one", "other", "last"] "law" (defScope s_law) ff cdv A outer s H E).nox.A.guards = some []) (hr : Room 8 (A.deeper (envOfC "law" (defScope s_law) s.heap.objs.size ff cdv))) (h : spLaw K vs H Q E) :
    ∃ t, PSs (cxOf CX0 P w K mg base ["script", "k", "top", "stream", "turn", "one", "other", "last"] "law" (defScope s_law) ff cdv A outer s H E).nox (defBody s_law) t ∧ t { nx := fun _ H' => Q .non H', rt := Q } (start ["script", "k", "top", "stream", "turn", "one", "other", "last"] vs) H := by
  obtain ⟨a, ns, rfl, hS, hl, k⟩ := h
  have hu : (A.deeper (envOfC "law" (defScope s_law) s.heap.objs.size ff cdv)).units + 64 < cLine := hr.units
  refine ⟨_, (pss_cons (ps_for PassesOwn.never rfl (pi_range1 (by rfl) T.b_range (pa_cons (pe_callB (call_max2 rfl) (by rfl) T.b_max (by decide +kernel) (pa_cons pe_int (pa_cons (pe_callB (call_min2 rfl) (by rfl) T.b_min (by decide +kernel) (pa_cons pe_int (pa_cons (pe_callB call_len_seq (by rfl) T.b_len (by decide +kernel) (pa_cons (pv 0) pa_nil)) pa_nil))) pa_nil))) pa_nil)) (pg_name (i := 1) sc_law.nd rfl (Or.inl rfl)) (pss_cons (ps_set (i := 3) sc_law.nd rfl (Or.inl rfl) (pe_c G_law_stream hr (by decide) rfl (pa_cons (pv 0) (pa_cons (pv 1) pa_nil))))
      (pss_cons (ps_for PassesOwn.never rfl (pi_range1 (by rfl) T.b_range (pa_cons pe_int pa_nil)) (pg_name (i := 4) sc_law.nd rfl (Or.inl rfl)) (pss_cons (ps_par (i := 5) (j := 6) (by rfl) sc_law.nd rfl rfl (by decide) rfl rfl (pa_cons (pe_c G_law_end_drawn hr (by decide) rfl (pa_cons (pv 3) pa_nil)) (pa_cons (pe_c G_law_end_drawn hr (by decide) rfl (pa_cons (pv 3) pa_nil)) pa_nil)) (by rfl))
      (pss_one (ps_for PassesOwn.never rfl (pi_list (pe_lst (pa_cons (pv 6) (pa_cons (pv 5) (pa_cons (pe_op op_sub (pv 5) pe_int) (pa_cons (pe_op op_add (pv 5) pe_int) (pa_cons pe_non pa_nil))))))) (pg_name (i := 7) sc_law.nd rfl (Or.inl rfl)) (pss_one (ps_if (PW.pt (pw_and (pt_cmpR op_lt (pe_callB call_abs (by rfl) bAbs (by decide +kernel) (pa_cons (pv 5) pa_nil)) (pe_op op_sub (pe_op op_pow pe_int pe_int) pe_int) (nomark _)) (pw_and1 (pt_cmpR op_ne (pe_callB (call_shw g hu) (by rfl) T.b_repr (by decide +kernel) (pa_cons (pe_c G_law_parts hr (by decide) rfl (pa_cons (pe_mk M_Range hr (by decide) rfl (pa_cons (pv 5) (pa_cons (pv 7) pa_nil))) pa_nil)) pa_nil)) (pe_callB (call_shw g hu) (by rfl) T.b_repr (by decide +kernel) (pa_cons (pe_c G_law_due hr (by decide) rfl (pa_cons (pv 5) (pa_cons (pv 7) pa_nil))) pa_nil)) (nomark _))))) (pss_one (ps_ret pe_bl)) pss_nil))))))
      (pss_one (ps_if (pt_not (pt_val (pe_cG G_law_odd_right g hr (by decide) rfl (pa_cons (pe_c G_law_end_drawn hr (by decide) rfl (pa_cons (pv 3) pa_nil)) pa_nil)))) (pss_one (ps_ret pe_bl)) pss_nil)))))
      (pss_cons (ps_set (i := 2) sc_law.nd rfl (Or.inl rfl) (pe_op op_sub (pe_op op_pow pe_int pe_int) pe_int))
      (pss_cons (ps_for PassesOwn.never rfl (pi_list (pe_lst (pa_cons (pe_tup (pa_cons (pe_un un_neg (pv 2)) (pa_cons (pv 2) pa_nil))) (pa_cons (pe_tup (pa_cons (pv 2) (pa_cons (pv 2) pa_nil))) (pa_cons (pe_tup (pa_cons (pe_un un_neg (pv 2)) (pa_cons pe_non pa_nil))) (pa_cons (pe_tup (pa_cons (pv 2) (pa_cons (pe_un un_neg (pv 2)) pa_nil))) (pa_cons (pe_tup (pa_cons pe_int (pa_cons pe_int pa_nil))) pa_nil))))))) (pg_tup rfl (pgs_cons (pg_name (i := 5) sc_law.nd rfl (Or.inl rfl)) (pgs_cons (pg_name (i := 6) sc_law.nd rfl (Or.inl rfl)) pgs_nil))) (pss_one (ps_if (pt_cmpR op_ne (pe_callB (call_shw g hu) (by rfl) T.b_repr (by decide +kernel) (pa_cons (pe_c G_law_parts hr (by decide) rfl (pa_cons (pe_mk M_Range hr (by decide) rfl (pa_cons (pv 5) (pa_cons (pv 6) pa_nil))) pa_nil)) pa_nil)) (pe_callB (call_shw g hu) (by rfl) T.b_repr (by decide +kernel) (pa_cons (pe_c G_law_due hr (by decide) rfl (pa_cons (pv 5) (pa_cons (pv 6) pa_nil))) pa_nil)) (nomark _)) (pss_one (ps_ret pe_bl)) pss_nil)))
      (pss_one (ps_ret (pe_and (pe_cmpR (op_eqD hu) (pe_c G_law_parts hr (by decide) rfl (pa_cons (pe_cm0 G_empty hr (by decide) (pe_glob (v := .ref C) rfl T.cRange rfl)) pa_nil)) (pe_lst (pa_cons pe_non (pa_cons pe_non (pa_cons pe_bl (pa_cons pe_int (pa_cons pe_bl (pa_cons pe_bl pa_nil))))))) (nomark _)) (pe_one (pe_cmpR (op_c G_eq hr (by decide)) (pe_mk M_Range hr (by decide) rfl (pa_cons pe_int (pa_cons pe_int pa_nil))) (pe_mk M_Range hr (by decide) rfl (pa_cons pe_int (pa_cons (pe_un un_neg pe_int) pa_nil))) (nomark _))))))))), ?_⟩
  refine ⟨_, rfl, a, _, rfl, .inl hS, _, _, rfl, _, _, rfl, _, rfl, by split <;> split <;> omega, by rw [List.length_map]; split <;> split <;> omega, ?_⟩
  have tn : ∀ i : Nat, i < (if (if ((ns.map V.int).length : Int) < 12 then ((ns.map V.int).length : Int) else 12) > 1 then (if ((ns.map V.int).length : Int) < 12 then ((ns.map V.int).length : Int) else 12) else 1).toNat → i ≤ 1000 := by
    intro i hi
    rw [List.length_map] at hi
    split at hi <;> split at hi <;> omega
  refine for_range (lo := 0) (fun i sg H' => ∃ v1 v2 v3 v4 v5 v6 v7 : Option V, sg = [some (.ref a), v1, v2, v3, v4, v5, v6, v7] ∧ Same H H') ⟨_, _, _, _, _, _, _, rfl, .refl H⟩ ?_ ?_
  · rintro i sg H1 hi ⟨v1, v2, v3, v4, v5, v6, v7, rfl, s1⟩
    have hk := tn i hi
    clear tn hi
    have ei : (0 : Int) + (i : Nat) = ((i : Nat) : Int) := by omega
    rw [ei]
    -- stream
    refine ⟨_, rfl, _, rfl, a, ns, i, rfl, s1.seq hS, hk, fun p x y np hx => ?_⟩
    have npH : H p = none := s1.free np
    have sA : Same H (upd H1 p (.lst [.int x, .int y])) := same_new' s1 np
    -- for turn in range(6)
    refine ⟨6, rfl, by decide, by decide, ?_⟩
    refine for_range (lo := 0) (n := 6) (fun _ sg H' => ∃ v4 v5 v6 v7 : Option V, sg = [some (.ref a), some (.int i), v2, some (.ref p), v4, v5, v6, v7] ∧ Same H H' ∧ StA H' p) ⟨_, _, _, _, rfl, sA, _, _, upd_same, hx⟩ ?_ ?_
    · rintro t sg H2 _ ⟨v4, v5, v6, v7, rfl, s2, a2, b2, hp2, ha2⟩
      clear sA
      refine ⟨_, rfl, p, a2, b2, rfl, hp2, ha2, fun e1 a3 b3 H3 lo1 hi1 ha3 hp3 k3 => ?_⟩
      refine ⟨_, rfl, p, a3, b3, rfl, hp3, ha3, fun e2 a4 b4 H4 lo2 hi2 ha4 hp4 k4 => ?_⟩
      refine ⟨_, _, rfl, ?_⟩
      have s4 := SameB.out (SameB.out s2 k3 npH) k4 npH
      have be1 := end_bnd lo1 hi1
      have be2 := end_bnd lo2 hi2
      -- for last in [..]
      refine ⟨_, rfl, _, rfl, _, rfl, _, _, rfl, rfl, _, rfl, _, _, rfl, rfl, by show 5 ≤ sizeLine; decide, fun lo nlo => ?_⟩
      have lp : lo ≠ p := fun z => by rw [z, hp4] at nlo; cases nlo
      have s5 := same_new' (o := .lst [.int e2, .int e1, .int (e1 - 1), .int (e1 + 1), .non]) s4 nlo
      have hp5 : (upd H4 lo (.lst [.int e2, .int e1, .int (e1 - 1), .int (e1 + 1), .non])) p = some (.lst [.int a4, .int b4]) := by rw [upd_ne lp.symm]; exact hp4
      refine ⟨lo, rfl, ⟨_, SqL.of upd_same⟩, ?_⟩
      refine for_list (K := K) (a := lo) (xs := [.int e2, .int e1, .int (e1 - 1), .int (e1 + 1), .non]) (fun _ sg H' => ∃ v7 : Option V, sg = [some (.ref a), some (.int i), v2, some (.ref p), some (.int (0 + (t : Nat))), some (.int e1), some (.int e2), v7] ∧ Same (upd H4 lo (.lst [.int e2, .int e1, .int (e1 - 1), .int (e1 + 1), .non])) H') ⟨_, rfl, .refl _⟩ (fun _ sg H' _ ⟨_, _, z⟩ => SqL.of (z _ _ upd_same)) ?_ ?_
      · rintro j y sg H5 hj ⟨v7', rfl, s6⟩
        refine ⟨_, rfl, e1, rfl, _, _, rfl, rfl, ⟨by decide, by decide, by decide⟩, _, _, rfl, rfl, _, _, rfl, rfl, _, rfl, ?_⟩
        by_cases c : (if e1 < 0 then -e1 else e1) < 10 ^ (60 : Int).toNat - 1
        · have hl : ∃ l, y = oV l ∧ BndO l := by
            have hB := B_eq
            rw [p60'] at c
            have c1 : -B < e1 := be1.1
            match j, hj with
            | 0, hj => cases hj; exact ⟨some e2, rfl, be2⟩
            | 1, hj => cases hj; exact ⟨some e1, rfl, be1⟩
            | 2, hj => cases hj; exact ⟨some (e1 - 1), rfl, by show -B < e1 - 1; split at c <;> omega, by show e1 - 1 < B; split at c <;> omega⟩
            | 3, hj => cases hj; exact ⟨some (e1 + 1), rfl, by show -B < e1 + 1; split at c <;> omega, by show e1 + 1 < B; split at c <;> omega⟩
            | 4, hj => cases hj; exact ⟨none, rfl, trivial⟩
            | j + 5, hj => cases hj
          obtain ⟨l, rfl, bl⟩ := hl
          refine iteTe (decide_eq_true c) ?_
          refine ⟨_, rfl, _, rfl, fun x5 dx nx ndx nex => ⟨x5, dx, e1, l, rfl, upd_same, be1, bl, fun H6 R kp => ⟨rfl, x5, _, rfl, R, fun q6 H7 n7 s7 d7 => ⟨.ref q6, _, rfl, shw_due be1 bl (SqL.of (by rw [← parts_due be1 bl]; exact d7)), ?_⟩⟩⟩⟩
          refine ⟨_, rfl, _, rfl, e1, l, rfl, fun q8 H8 n8 s8 d8 => ⟨.ref q8, _, rfl, shw_due be1 bl (SqL.of d8), rfl, _, rfl, iteFe (by rw [decide_eq_true rfl]; rfl) ⟨_, rfl, s6.trans ((Same.made nx ndx kp).trans (s7.trans s8))⟩⟩⟩
        · exact iteFe (decide_eq_false c) ⟨_, rfl, s6⟩
      · rintro sg H5 ⟨v7', rfl, s6⟩
        exact ⟨_, _, _, _, rfl, s5.trans s6, _, _, s6 _ _ hp5, ha4⟩
    · rintro sg H2 ⟨v4, v5, v6, v7, rfl, s2, a2, b2, hp2, ha2⟩
      refine ⟨_, rfl, p, a2, b2, rfl, hp2, ha2, fun e1 a3 b3 H3 lo1 hi1 ha3 hp3 k3 => ?_⟩
      refine ⟨e1, rfl, end_bnd lo1 hi1, fun H4 s4 => ⟨_, rfl, iteF ?_⟩⟩
      exact ⟨_, _, _, _, _, _, _, rfl, (SameB.out s2 k3 npH).trans s4⟩
  · rintro sg H1 ⟨v1, v2, v3, v4, v5, v6, v7, rfl, s1⟩
    refine ⟨_, _, rfl, rfl, ⟨by decide, by decide, by decide⟩, _, _, rfl, rfl, ?_⟩
    refine ⟨_, rfl, _, rfl, _, rfl, by show 2 ≤ sizeLine; decide, fun t1 m1 => ?_⟩
    refine ⟨_, rfl, _, rfl, by show 2 ≤ sizeLine; decide, fun t2 m2 => ?_⟩
    refine ⟨_, rfl, _, rfl, by show 2 ≤ sizeLine; decide, fun t3 m3 => ?_⟩
    refine ⟨_, rfl, _, rfl, _, rfl, by show 2 ≤ sizeLine; decide, fun t4 m4 => ?_⟩
    refine ⟨by show 2 ≤ sizeLine; decide, fun t5 m5 => ?_⟩
    refine ⟨by show 5 ≤ sizeLine; decide, fun lo nlo => ?_⟩
    refine ⟨lo, rfl, ⟨_, SqL.of upd_same⟩, ?_⟩
    refine for_list (K := K) (a := lo) (xs := [.ref t1, .ref t2, .ref t3, .ref t4, .ref t5]) (fun _ sg H' => ∃ w2 w5 w6 : Option V, sg = [some (.ref a), v1, w2, v3, v4, w5, w6, v7] ∧ Tbl t1 t2 t3 t4 t5 lo H')
      ⟨_, _, _, rfl, ⟨same_new nlo _ _ (same_new m5 _ _ (same_new m4 _ _ (same_new m3 _ _ (same_new m2 _ _ upd_same)))), same_new nlo _ _ (same_new m5 _ _ (same_new m4 _ _ (same_new m3 _ _ upd_same))), same_new nlo _ _ (same_new m5 _ _ (same_new m4 _ _ upd_same)), same_new nlo _ _ (same_new m5 _ _ upd_same), same_new nlo _ _ upd_same, upd_same⟩⟩
      (fun _ sg H' _ ⟨_, _, _, _, z⟩ => SqL.of z.al) ?_ ?_
    · rintro j y sg H5 hj ⟨w2, w5, w6, rfl, tb⟩
      have hy : ∃ t f l, y = .ref t ∧ H5 t = some (.tup [.int f, oV l]) ∧ Bnd f ∧ BndO l := by
        match j, hj with
        | 0, hj => cases hj; exact ⟨t1, -tpv, some tpv, rfl, tb.a1, tp_bnd.2, tp_bnd.1⟩
        | 1, hj => cases hj; exact ⟨t2, tpv, some tpv, rfl, tb.a2, tp_bnd.1, tp_bnd.1⟩
        | 2, hj => cases hj; exact ⟨t3, -tpv, none, rfl, tb.a3, tp_bnd.2, trivial⟩
        | 3, hj => cases hj; exact ⟨t4, tpv, some (-tpv), rfl, tb.a4, tp_bnd.1, tp_bnd.2⟩
        | 4, hj => cases hj; exact ⟨t5, 0, some 0, rfl, tb.a5, ⟨by decide, by decide⟩, ⟨by decide, by decide⟩⟩
        | j + 5, hj => cases hj
      obtain ⟨t, f, l, rfl, ht, bf, bl⟩ := hy
      refine ⟨t, _, rfl, SqT.of ht, rfl, ?_⟩
      refine ⟨_, _, rfl, _, _, rfl, rfl, ?_⟩
      refine ⟨_, rfl, _, rfl, fun x5 dx nx ndx nex => ⟨x5, dx, f, l, rfl, upd_same, bf, bl, fun H6 R kp => ⟨rfl, x5, _, rfl, R, fun q6 H7 n7 s7 d7 => ⟨.ref q6, _, rfl, shw_due bf bl (SqL.of (by rw [← parts_due bf bl]; exact d7)), ?_⟩⟩⟩⟩
      refine ⟨_, rfl, _, rfl, f, l, rfl, fun q8 H8 n8 s8 d8 => ⟨.ref q8, _, rfl, shw_due bf bl (SqL.of d8), rfl, _, rfl, iteFe (by rw [decide_eq_true rfl]; rfl) ⟨_, _, _, rfl, tb.keep ((Same.made nx ndx kp).trans (s7.trans s8))⟩⟩⟩
    · rintro sg H5 ⟨w2, w5, w6, rfl, tb⟩
      clear tb
      refine ⟨rfl, rfl, fun x6 H6 n6 s6 R6 => ?_⟩
      refine ⟨x6, _, rfl, R6, fun q7 H7 n7 s7 d7 => ?_⟩
      refine ⟨by show 6 ≤ sizeLine; decide, fun q8 n8 => ?_⟩
      have ee : partsV (-B, -B - 1) = dueV 0 (some (-1)) := by
        have z := parts_due (f := 0) (l := some (-1)) ⟨by decide, by decide⟩ ⟨by decide, by decide⟩
        rw [show mkR 0 (some (-1)) = (-B, -B - 1) from (if_pos (by decide) : (if (-1 : Int) < 0 then (-B, -B - 1) else ((0 : Int), (-1 : Int))) = (-B, -B - 1))] at z
        exact z
      have d7' : H7 q7 = some (.lst (dueV 0 (some (-1)))) := by rw [← ee]; exact d7
      have s8 := same_new (o := .lst [.non, .non, .bl false, .int 0, .bl false, .bl true]) n8
      refine ⟨.list (dueD 0 (some (-1))), .list (dueD 0 (some (-1))), dp_due (SqL.of (s8 _ _ d7')), dp_due (SqL.of upd_same), by decide +kernel, by decide +kernel, ?_⟩
      rw [show PyData.eqv (.list (dueD 0 (some (-1)))) (.list (dueD 0 (some (-1)))) = true by decide +kernel]
      refine ⟨_, rfl, iteTe rfl ?_⟩
      refine fun x1 dx1 n1 nd1 ne1 => ⟨x1, dx1, 5, some 4, rfl, upd_same, ⟨by decide, by decide⟩, ⟨by decide, by decide⟩, fun HA RA kA => ⟨rfl, ?_⟩⟩
      refine ⟨_, rfl, fun x2 dx2 n2 nd2 ne2 => ⟨x2, dx2, 9, some (-9), rfl, upd_same, ⟨by decide, by decide⟩, ⟨by decide, by decide⟩, fun HB RB kB => ⟨rfl, ?_⟩⟩⟩
      have sB : Same HA HB := Same.made n2 nd2 kB
      obtain ⟨dxa, ha⟩ := id (same_rat sB RA)
      refine ⟨x1, dxa, _, .ref C, rfl, ha, T.ty RB, T.oCC, x1, _, _, rfl, same_rat sB RA, .inl ⟨x2, _, rfl, RB, fun HC sC => ?_⟩⟩
      rw [show decide (mkR 5 (some 4) = mkR 9 (some (-9))) = true by decide +kernel]
      exact k HC
end

end K01

namespace K01
open PySem PySem.Spec PyProof.Rows L2 Jg
local macro_rules | `(tactic| walk_at "rd1") => `(tactic| (first
  | refine ⟨_, rfl, ?_⟩
  | refine ⟨_, _, rfl, rfl, ?_⟩
  | refine ⟨_, _, rfl, ?_⟩
  | refine ⟨rfl, ?_⟩
  | (refine ⟨show (0 : Int) < _ by omega, ?_⟩)
  | (refine ⟨Or.inl ⟨by omega, by omega⟩, ?_⟩)
  | (refine ⟨Or.inr ⟨by omega, by omega⟩, ?_⟩)
  | (refine ⟨(⟨by decide, by decide, by decide⟩ : CPow _ _), ?_⟩)
  | refine Or.inl ⟨_, rfl, ?_⟩
  | refine Or.inr ⟨_, rfl, ?_⟩
  | fail "rd"))
local macro_rules | `(tactic| walk_at "rd") => `(tactic| repeat' walk_at "rd1")


theorem Txt.of {K : PySem.W.Frag} {h : Heap} {mg : Str → Option Value} {C : Addr} (X : K.In h) (G : h.Ns mainGlobals mg)
    (aC : PySem.W.nsIn K mainGlobals "Range" = some (some (.ref C)))
    (pg : PySem.W.plainGet K C Str.empty = true) (hd : PySem.W.hasDictIn K C = true) (po : PySem.W.plainOver K C = true) (sa : PySem.W.findIn K (.ref C) "__setattr__" = some (some (.builtin "object.__setattr__")))
    (nl : PySem.W.findIn K (.ref C) "_low" = some none) (nh : PySem.W.findIn K (.ref C) "_high" = some none) (sf : PySem.W.selfFirst K C = true)
    (aB : ∃ u, mg "BOUND" = some u ∧ L2.RelV (.int 1000000000000000000000000000000000000000000000000000000000000) u)
    (b1 : PySem.W.nsIn K mainGlobals "isinstance" = some none) (b2 : PySem.W.nsIn K mainGlobals "int" = some none) (b3 : PySem.W.nsIn K mainGlobals "bool" = some none) (b4 : PySem.W.nsIn K mainGlobals "str" = some none)
    (b5 : PySem.W.nsIn K mainGlobals "len" = some none) (b6 : PySem.W.nsIn K mainGlobals "max" = some none) (b7 : PySem.W.nsIn K mainGlobals "min" = some none) (b8 : PySem.W.nsIn K mainGlobals "range" = some none)
    (b9 : PySem.W.nsIn K mainGlobals "repr" = some none) (b10 : PySem.W.nsIn K mainGlobals "sorted" = some none) (b11 : PySem.W.nsIn K mainGlobals "set" = some none)
    (c1 : PySem.W.findIn K (.ref C) "__class__" = some (some (.builtin "object.__class__"))) (c2 : PySem.W.specialIn K (.builtin "object.__class__") "__get__" = some (some (.builtin "getset_descriptor.__get__"))) (c3 : PySem.W.takesIn K (.builtin "object.__class__") = some true)
    (c4 : PySem.W.mroIn K C (.type "object") = some true)
    (k1 : PySem.W.kitOne K (.ref C) (.ref C) = some true) (k2 : PySem.W.kitOne K (.type "NoneType") (.ref C) = some false) (k3 : PySem.W.kitOne K (.type "bool") (.ref C) = some false) (k4 : PySem.W.kitOne K (.type "int") (.ref C) = some false)
    (k5 : PySem.W.kitOne K (.type "str") (.ref C) = some false) (k6 : PySem.W.kitOne K (.type "list") (.ref C) = some false) (k7 : PySem.W.kitOne K (.type "tuple") (.ref C) = some false) (k8 : PySem.W.kitOne K (.type "dict") (.ref C) = some false)
    (k9 : PySem.W.kitOne K (.ref C) (.type "int") = some false) (k10 : PySem.W.notFirst K C (.ref C) = true) : Txt K mg C :=
  have n {x : Str} (z : PySem.W.nsIn K mainGlobals x = some none) : mg x = none := PySem.W.mg_none_of X G z
  ⟨⟨pg, hd, po, sa⟩, nl, nh, sf, PySem.W.mg_of X G aC, by rw [B_eq]; exact aB, n b1, n b2, n b3, n b4, n b5, n b6, n b7, n b8, n b9, n b10, n b11, c1, c2, c3, c4, k1, k2, k3, k4, k5, k6, k7, k8, k9, k10⟩
theorem odds {K : PySem.W.Frag} {mg : Str → Option Value} {C : Addr} (T : Txt K mg C) : OddTy K C (.type "NoneType") ∧ OddTy K C (.type "bool") ∧ OddTy K C (.type "str") ∧ OddTy K C (.type "tuple") ∧ OddTy K C (.type "list") ∧ OddTy K C (.type "dict") :=
  ⟨⟨T.kN, false, false, kit_ty (by decide +kernel), kit_ty (by decide +kernel), rfl⟩, ⟨T.kB, true, true, kit_ty (by decide +kernel), kit_ty (by decide +kernel), rfl⟩, ⟨T.kS, false, false, kit_ty (by decide +kernel), kit_ty (by decide +kernel), rfl⟩,
    ⟨T.kT, false, false, kit_ty (by decide +kernel), kit_ty (by decide +kernel), rfl⟩, ⟨T.kL, false, false, kit_ty (by decide +kernel), kit_ty (by decide +kernel), rfl⟩, ⟨T.kD, false, false, kit_ty (by decide +kernel), kit_ty (by decide +kernel), rfl⟩⟩

theorem ExnK.of {K : PySem.W.Frag} {h : Heap} {mg : Str → Option Value} {x : Str} {CI : Addr} {qual : Str} {st : Stmt} {f : Str} {nm q N bs bm sn sub ab col dd k0 k1 k2 k3 k5} {fI : Addr} {oc : Value} {od an : Option Addr} {osl : Array (Option Value)} {kV doc pm cdv ct : Value}
    (X : K.In h) (G : h.Ns mainGlobals mg) (aI : PySem.W.nsIn K mainGlobals x = some (some (.ref CI))) (xL : K.lookup CI = some (excClassObj nm q CI N bs bm true sn sub ab col dd k0 k1 k2 k3 k5 "ValueError.__new__"))
    (rf : PySem.HandSPX.refsVE bm = true) (sa : PySem.W.findIn K (.ref CI) "__setattr__" = some (some (.builtin "object.__setattr__"))) (exC : PySem.W.subIn K (.ref CI) (.type "BaseException") = some true) (tyC : PySem.W.typeIn K (.ref CI) = some (.type "type")) (kC : PySem.W.keepIn K (.ref CI) = true)
    (ga : PySem.W.findIn K (.ref CI) "__getattribute__" = some (some (.builtin "BaseException.__getattribute__"))) (gg : PySem.W.findIn K (.ref CI) "__getattr__" = some none) (hdC : PySem.W.hasDictIn K CI = true)
    (ha : PySem.W.findIn K (.ref CI) "__class__" = some (some (.builtin "object.__class__"))) (hn : PySem.W.specialIn K (.builtin "object.__class__") "__get__" = some (some (.builtin "getset_descriptor.__get__"))) (ht : PySem.W.takesIn K (.builtin "object.__class__") = some true) (hm : PySem.W.mroIn K CI (.type "object") = some true)
    (no : PySem.W.findIn K (.ref CI) f = some none) (iI : PySem.W.findIn K (.ref CI) "__init__" = some (some (.ref fI))) (tI : PySem.W.typeIn K (.ref fI) = some (.type "function"))
    (l : K.lookup fI = some ⟨oc, od, .func (PySem.W.fnOf "__init__" qual (defArgs st) (defBody st) (defScope st) .none kV doc pm an cdv ct), osl⟩) (c : PySem.W.codeIn K cdv qual = true) (k : PySem.W.keepIn K (.ref fI) = true)
    (sC : PySem.W.subIn K (.ref CI) (.ref CI) = some true) : ExnK K mg x CI qual st f :=
  ⟨PySem.W.mg_of X G aI, ⟨⟨nm, q, N, bs, bm, sn, sub, ab, col, dd, k0, k1, k2, k3, k5, xL, rf⟩, sa, exC, tyC, kC⟩, ⟨⟨ga, gg, exC, hdC⟩, ha, hn, ht, hm⟩, no, ⟨fI, _, fun_mk l c k, iI, tI⟩, PySem.W.exm_ref exC hdC tyC sC⟩
theorem Tst.of {K : PySem.W.Frag} {h : Heap} {mg : Str → Option Value} {CI CG CM : Addr} (X : K.In h) (G : h.Ns mainGlobals mg) (aG : PySem.W.nsIn K mainGlobals "GapError" = some (some (.ref CG))) (aM : PySem.W.nsIn K mainGlobals "InvalidMoment" = some (some (.ref CM)))
    (aV : PySem.W.nsIn K mainGlobals "ValueError" = some none) (kG : PySem.W.kitOne K (.ref CI) (.ref CG) = some true) (kV : PySem.W.kitOne K (.ref CI) (.type "ValueError") = some true) (kM : PySem.W.kitOne K (.ref CI) (.ref CM) = some false) : Tst K mg CI CG CM :=
  ⟨PySem.W.mg_of X G aG, PySem.W.mg_of X G aM, PySem.W.mg_none_of X G aV, kG, kV, kM⟩
theorem fin {P : Program} {w : World} {K : PySem.W.Frag} {mg : Str → Option Value} {fa C CI CG CM : Addr} (hfa : mg "law" = some (.ref fa)) (T : Txt K mg C) (bAbs : mg "abs" = none) (mk1 : PySem.W.makesIn K C = true) (mk2 : PySem.W.keepIn K (.ref C) = true)
    (I : ExnK K mg "InvalidRange" CI "InvalidRange.__init__" s_InvalidRange_init "value") (S : Tst K mg CI CG CM)
    (d1 : DefK K mg "is_integer" s_is_integer) (d2 : DefK K mg "is_bounded" s_is_bounded) (d3 : MetK K C "__init__" "Range.__init__" s_Range_init) (d4 : CmtK K C (.type "type") "empty" "Range.empty" s_Range_empty) (d5 : MetK K C "__eq__" "Range.__eq__" s_Range_eq)
    (d6 : PrpK K C "is_endless" "Range.is_endless" s_Range_is_endless) (d7 : PrpK K C "size" "Range.size" s_Range_size) (d8 : PrpK K C "first" "Range.first" s_Range_first) (d9 : PrpK K C "last" "Range.last" s_Range_last) (d10 : MetK K C "__bool__" "Range.__bool__" s_Range_bool)
    (d11 : DefK K mg "_law_stream" s_law_stream) (d12 : DefK K mg "_law_draw" s_law_draw) (d13 : DefK K mg "_law_choose" s_law_choose) (d14 : DefK K mg "_law_end_drawn" s_law_end_drawn) (d15 : DefK K mg "_law_parts" s_law_parts) (d16 : DefK K mg "_law_due" s_law_due)
    (d17 : DefK K mg "_law_told_error" s_law_told_error) (d18 : DefK K mg "_law_odd_right" s_law_odd_right) (d19 : DefK K mg "law" s_law) :
    ∃ fd : FuncData, (∀ (s : Shared) (v : Value), BindsTo s fd ⟨[v], []⟩ [("script", v)]) ∧ ∀ base : Heap, K.In base → base.Ns mainGlobals mg → FnG P w K mg base CX0 9 fa fd ["script"] (spLaw K) := by
  obtain ⟨f, fd, F, m⟩ := d19.ex
  rw [hfa] at m
  cases m
  refine ⟨fd, ?_, fun base _ _ => ?_⟩
  · obtain ⟨_, _, _, _, _, _, _, _, _, rfl, _, _⟩ := F.ex
    exact fun s v => .of_eq rfl
  · have g1 := ok_is_integer (P := P) (w := w) (base := base) d1 T
    have g2 := ok_is_bounded (P := P) (w := w) (base := base) d2 T g1
    have g3 := ok_init (P := P) (w := w) (base := base) d3 T g2
    have M : Mak P w K mg base CX0 3 "Range" C (spInit C) := ⟨T.cRange, mk1, mk2, g3⟩
    have gx := ok_xinit (P := P) (w := w) (base := base) I
    have g3x := ok_initX (P := P) (w := w) (base := base) d3 T g2 gx
    have MX : Mak P w K mg base (L2.CX P w) 3 "Range" C (spInitX K C CI) := ⟨T.cRange, mk1, mk2, g3x⟩
    have g4 := ok_empty (P := P) (w := w) (base := base) d4 M
    have g5 := ok_eq (P := P) (w := w) (base := base) d5 T
    have g6 := ok_endless (P := P) (w := w) (base := base) d6 T
    have g7 := ok_size (P := P) (w := w) (base := base) d7 T
    have g8 := ok_first (P := P) (w := w) (base := base) d8 T
    have g9 := ok_last (P := P) (w := w) (base := base) d9 T
    have g10 := ok_bool (P := P) (w := w) (base := base) d10 T
    have g11 := ok_stream (P := P) (w := w) (base := base) d11 T
    have g12 := ok_draw (P := P) (w := w) (base := base) d12
    have g13 := ok_choose (P := P) (w := w) (base := base) d13 T g12
    have g14 := ok_end_drawn (P := P) (w := w) (base := base) d14 T g12 g13
    have g15 := ok_parts (P := P) (w := w) (base := base) d15 T g8 g9 g6 g7 g10 g5 g4
    have g16 := ok_due (P := P) (w := w) (base := base) d16
    have g17 := ok_told (P := P) (w := w) (base := base) d17 T I S MX
    have g18 := ok_odd (P := P) (w := w) (base := base) d18 T g17
    exact fnG_of F sc_law (fun vs H Q E h => by obtain ⟨a, ns, rfl, _⟩ := h; rfl) fun cdv A outer s H vs Q E g hr h =>
      let ⟨t, a, q⟩ := body_law T bAbs M g5 g4 g11 g14 g15 g16 g18 fa cdv A outer s H vs Q E (guards_deeper g) hr h
      ⟨t, a.nox, q⟩
theorem walk {l : PySem.W.OpenLaw} {q : Program} {loose : List Str} {XP : (Str → Option Value) → Heap → Prop} {YP : World → Heap → Prop} {d : DefRec} {K : Params → PySem.W.Frag} (hn : l.most = some 63) (hdf : d.params.defaults = [])
    (hY : ∀ (w : World) (h : Heap), YP w h → (K w.params).In h)
    (F : ∀ (w : World) (mg : Str → Option Value) (fa : Addr) (h : Heap), (K w.params).In h → h.Ns mainGlobals mg → mg d.name = some (.ref fa) → XP mg h →
      ∃ fd : FuncData, (∀ (s : Shared) (u : Value), BindsTo s fd ⟨[u], []⟩ [("script", u)]) ∧ ∀ base : Heap, (K w.params).In base → base.Ns mainGlobals mg → FnG l.prog w (K w.params) mg base CX0 9 fa fd ["script"] (spLaw (K w.params))) :
    PySem.W.WalkO q loose XP YP l.row.toRowW d [] (fun f vs => PySem.call f vs) :=
  walk_ofG (n := 63) (k := 9) (x := "script") (CX := fun _ => CX0) (sp := fun w => spLaw (K w.params)) hn (by decide) hdf ⟨rfl, by decide, by decide⟩ hY F (fun _ _ a ns hl _ hS => ⟨a, ns, rfl, hS, hl, fun _ => rfl⟩) fun _ _ _ _ _ z => z
end K01
open PySem PySem.W PyProof.Rows
local macro_rules | `(tactic| walk_at "dk") => `(tactic| (refine' Jg.DefK.of (by assumption) (by assumption) ?a ?l ?c ?k; (case a => k_is); (case l => k_is); (case c => k_is); (case k => k_is)))
local macro_rules | `(tactic| walk_at "mk") => `(tactic| (refine' Jg.MetK.of ?a ?i ?l ?c ?k; (case a => k_is); (case i => k_is); (case l => k_is); (case c => k_is); (case k => k_is)))
local macro_rules | `(tactic| walk_at "pk") => `(tactic| (refine' Jg.PrpK.of ?a ?g ?tk ?rc ?l ?c ?k; (case a => k_is); (case g => k_is); (case tk => k_is); (case rc => k_is); (case l => k_is); (case c => k_is); (case k => k_is)))
local macro_rules | `(tactic| walk_at "ck") => `(tactic| (refine' Jg.CmtK.of ?rd ?ga ?a ?rc ?fi ?l ?c ?k; (case rd => k_is); (case ga => k_is); (case a => k_is); (case rc => k_is); (case fi => k_is); (case l => k_is); (case c => k_is); (case k => k_is)))
set_option maxRecDepth 100000 in
set_option maxHeartbeats 0 in
theorem PySem.Challenge.cw_gaplesskeys_k01_ranges_made_holds : PySem.Challenge.rw_gaplesskeys_k01_ranges_made.Holds := by
  w_on; o_law; k_head; (case hw => w_witness2)
  k_fill
  refine K01.walk (l := PySem.Challenge.rw_gaplesskeys_k01_ranges_made) rfl rfl (fun w h Y => PySem.W.kIn_of Y) ?F
  case F =>
    intro w mg fa h KX G hmg XP
    refine' K01.fin hmg ?T ?ab ?mk1 ?mk2 ?I ?S ?d1 ?d2 ?d3 ?d4 ?d5 ?d6 ?d7 ?d8 ?d9 ?d10 ?d11 ?d12 ?d13 ?d14 ?d15 ?d16 ?d17 ?d18 ?d19
    case T =>
      refine' K01.Txt.of KX G ?aC ?pg ?hd ?po ?sa ?nl ?nh ?sf ?aB ?b1 ?b2 ?b3 ?b4 ?b5 ?b6 ?b7 ?b8 ?b9 ?b10 ?b11 ?c1 ?c2 ?c3 ?c4 ?k1 ?k2 ?k3 ?k4 ?k5 ?k6 ?k7 ?k8 ?k9 ?k10
      case aC => k_is
      case aB => exact Jg.loose_int XP (List.Mem.head _)
      all_goals (first | k_is | kit_is)
    (case ab => refine PySem.W.mg_none_of KX G ?_; k_is)
    (case mk1 => k_is); (case mk2 => k_is)
    case I =>
      refine' K01.ExnK.of KX G ?XaI ?XxL ?Xrf ?Xsa ?XexC ?XtyC ?XkC ?Xga ?Xgg ?XhdC ?Xha ?Xhn ?Xht ?Xhm ?Xno ?XiI ?XtI ?Xl ?Xc ?Xk ?XsC
      (case XaI => k_is); (case XxL => k_is); (case Xrf => decide +kernel); (case Xsa => k_is); (case XexC => k_is); (case XtyC => k_is); (case XkC => k_is); (case Xga => k_is); (case Xgg => k_is); (case XhdC => k_is); (case Xha => k_is); (case Xhn => k_is); (case Xht => k_is); (case Xhm => k_is)
      (case Xno => k_is); (case XiI => k_is); (case XtI => k_is); (case Xl => k_is); (case Xc => k_is); (case Xk => k_is); (case XsC => first | rfl | k_is)
    case S =>
      refine' K01.Tst.of KX G ?YaG ?YaM ?YaV ?YkG ?YkV ?YkM
      (case YaG => k_is); (case YaM => k_is); (case YaV => k_is)
      all_goals (first | k_is | kit_is)
    (case d1 => walk_at "dk")
    (case d2 => walk_at "dk")
    (case d3 => walk_at "mk")
    (case d4 => walk_at "ck")
    (case d5 => walk_at "mk")
    (case d6 => walk_at "pk")
    (case d7 => walk_at "pk")
    (case d8 => walk_at "pk")
    (case d9 => walk_at "pk")
    (case d10 => walk_at "mk")
    (case d11 => walk_at "dk")
    (case d12 => walk_at "dk")
    (case d13 => walk_at "dk")
    (case d14 => walk_at "dk")
    (case d15 => walk_at "dk")
    (case d16 => walk_at "dk")
    (case d17 => walk_at "dk")
    (case d18 => walk_at "dk")
    (case d19 => walk_at "dk")
#print axioms PySem.Challenge.cw_gaplesskeys_k01_ranges_made_holds
