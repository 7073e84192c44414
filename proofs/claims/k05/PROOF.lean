import PyProof.Rows.All
import Wide.All
import OpenK.AllK
import Wide.FinOn
import HandS.ForMost
import HandS.IsInst
import HandS.ClsMeth
import HandS.Property
import HandS.Strs
import HandS.Wide
import PyProof.LongRange
import HandS.Exc
import PyProof.Rows.NestShow
import HandS.SetFor
import HandS.Style
import HandS.Codes
import KE.RegKIsAll
import PySem.Challenge.RW_gaplesskeys_k05_whole_ranges_as_sets
set_option Elab.async false
set_option linter.all false
set_option maxRecDepth 100000
set_option maxHeartbeats 4000000
/-! own rules: own operators, long ranges, a class held by a local name, a classmethod without arguments -/
namespace Jg
open PySem PySem.Spec PyProof.Rows L2

section
variable {X : Cx} {CX : CXT} {n k : Nat} {C f : Addr} {fd : FuncData} {ps : List Str} {sp : Sp} {E : XK} {dvs : List V} {ds : List Value}
/-- what an own method must be to serve an operator -/
structure Own (K : PySem.W.Frag) (C : Addr) (m : Str) (f : Addr) : Prop where
  at_ : PySem.W.findIn K (.ref C) m = some (some (.ref f))
  fn : PySem.W.isFn K (.ref f) = true
theorem back_of {pins : List (Addr × Obj)} {σ : L2.St} {Q : VK} {v : Value} {s : Shared} (h : EP X pins σ Q v s) : PySem.W.CmpBack (EP X pins σ Q) v s := by
  obtain ⟨x, H', I, r, q⟩ := h
  cases v <;> first
    | exact ⟨x, H', I, r, q⟩
    | (exfalso; cases x <;> simp [L2.RelV] at r)
/-- x == y, x < y .. by the own method of x -/
def rOwn (K : PySem.W.Frag) (C : Addr) (sp : Sp) (E : XK) : R2 := fun x y H Q => ∃ a dx fs t, x = .ref a ∧ H a = some (.ins C dx fs) ∧ TyX K H y t ∧ PySem.W.notFirst K C t = true ∧ sp [.ref a, y] H Q E
theorem op_own {op : CmpOp} (F : FnOk X.prog X.w X.K X.mg X.base CX n f fd ps sp) (hr : Room n X.A) (o : Own X.K C (cmpInfo op).2.1 f) (hb : Binds X.K fd ps []) (hx : Passes CX X E)
    (hc : ∀ v u, compareOp op v u = richCompare op v u := by intro _ _; rfl) : OpR X (compareOp op) (rOwn X.K C sp E) := by
  intro pins s σ H x y v u Q I rx ry h
  obtain ⟨a, dx, fs, t, rfl, ha, ty, nf, q⟩ := h
  cases rx
  obtain ⟨mA, J, _⟩ := ins_get I.hok ha
  obtain ⟨od, J, _⟩ := J.look
  obtain ⟨m, hF⟩ := I.fr
  obtain ⟨P, Z, p, _⟩ := kit_of I ry ty
  rw [hc]
  refine PySem.W.cmp_K (op := op) (tb := t) hr.units0 hF I.ok.mod.kin J (Z.ty _ _ I.kIn p) nf o.at_ o.fn ?_
  exact wpAny_mono (run_fn (us := [.ref a, u]) (vs := [.ref a, y]) F hr hb .nil hx I (.cons rfl (.cons ry .nil)) q) (fun _ _ z => back_of z) fun _ _ z => z
/-- x & y, x + y .. of two instances of the class -/
def rOwnB (C : Addr) (sp : Sp) (E : XK) : R2 := fun x y H Q => ∃ a b dx fs dy gs, x = .ref a ∧ y = .ref b ∧ H a = some (.ins C dx fs) ∧ H b = some (.ins C dy gs) ∧ sp [.ref a, .ref b] H Q E
theorem op_ownB {op : Operator} (F : FnOk X.prog X.w X.K X.mg X.base CX n f fd ps sp) (hr : Room n X.A) (o : Own X.K C (PySem.dunder op.info.2) f) (hc : PySem.W.selfFirst X.K C = true) (hb : Binds X.K fd ps []) (hx : Passes CX X E) :
    OpR X (binaryOp op) (rOwnB C sp E) := by
  intro pins s σ H x y v u Q I rx ry h
  obtain ⟨a, b, dx, fs, dy, gs, rfl, rfl, ha, hb', q⟩ := h
  cases rx
  cases ry
  obtain ⟨mA, J, _⟩ := ins_get I.hok ha
  obtain ⟨od, J, _⟩ := J.look
  obtain ⟨mB, J', _⟩ := ins_get I.hok hb'
  obtain ⟨od', J', _⟩ := J'.look
  obtain ⟨m, hF⟩ := I.fr
  refine PySem.W.binop_K (op := op) hF I.ok.mod.kin J J'.type hc o.at_ o.fn ?_
  exact wpAny_mono (run_fn (us := [.ref a, .ref b]) (vs := [.ref a, .ref b]) F hr hb .nil hx I (.cons rfl (.cons rfl .nil)) q) (fun _ _ z => back_of z) fun _ _ z => z
/-- y in x by the own method of x -/
def rOwnIn (C : Addr) (sp : Sp) (E : XK) : R2 := fun y x H Q => ∃ a dx fs, x = .ref a ∧ H a = some (.ins C dx fs) ∧ sp [.ref a, y] H (fun v H' => ∃ b, v = .bl b ∧ Q (.bl b) H') E
def rOwnNotIn (C : Addr) (sp : Sp) (E : XK) : R2 := fun y x H Q => ∃ a dx fs, x = .ref a ∧ H a = some (.ins C dx fs) ∧ sp [.ref a, y] H (fun v H' => ∃ b, v = .bl b ∧ Q (.bl (!b)) H') E
theorem op_ownIn (F : FnOk X.prog X.w X.K X.mg X.base CX n f fd ps sp) (hr : Room n X.A) (o : Own X.K C "__contains__" f) (hb : Binds X.K fd ps []) (hx : Passes CX X E) :
    OpR X (compareOp .In) (rOwnIn C sp E) := by
  intro pins s σ H y x u v Q I ry rx h
  obtain ⟨a, dx, fs, rfl, ha, q⟩ := h
  cases rx
  obtain ⟨mA, J, _⟩ := ins_get I.hok ha
  obtain ⟨od, J, _⟩ := J.look
  obtain ⟨m, hF⟩ := I.fr
  refine PySem.W.in_K hF I.ok.mod.kin J o.at_ o.fn ?_
  refine wpAny_mono (run_fn (us := [.ref a, u]) (vs := [.ref a, y]) F hr hb .nil hx I (.cons rfl (.cons ry .nil)) q) (fun r s' z => ?_) fun _ _ z => z
  obtain ⟨w', H', I', rw', b, rfl, q'⟩ := z
  cases (show r = Value.bool b from rw')
  exact wpAny_truthy_bool ⟨.bl _, H', I', rfl, q'⟩
theorem op_ownNotIn (F : FnOk X.prog X.w X.K X.mg X.base CX n f fd ps sp) (hr : Room n X.A) (o : Own X.K C "__contains__" f) (hb : Binds X.K fd ps []) (hx : Passes CX X E) :
    OpR X (compareOp .NotIn) (rOwnNotIn C sp E) := by
  intro pins s σ H y x u v Q I ry rx h
  obtain ⟨a, dx, fs, rfl, ha, q⟩ := h
  cases rx
  obtain ⟨mA, J, _⟩ := ins_get I.hok ha
  obtain ⟨od, J, _⟩ := J.look
  obtain ⟨m, hF⟩ := I.fr
  refine PySem.W.notIn_K hF I.ok.mod.kin J o.at_ o.fn ?_
  refine wpAny_mono (run_fn (us := [.ref a, u]) (vs := [.ref a, y]) F hr hb .nil hx I (.cons rfl (.cons ry .nil)) q) (fun r s' z => ?_) fun _ _ z => z
  obtain ⟨w', H', I', rw', b, rfl, q'⟩ := z
  cases (show r = Value.bool b from rw')
  exact wpAny_truthy_bool ⟨.bl _, H', I', rfl, q'⟩
end

/-! ### cls(e, ..), cls a local name that holds the class -/
def tMakeL (i : Nat) (C : Addr) (sp : Sp) (dvs : List V) (E : XK) (t : TA) : TE := fun σ H Q => σ[i]? = some (some (.ref C)) ∧ tMake C sp dvs E t σ H Q
section
variable {X : Cx} {CX : CXT} {k i : Nat} {C f : Addr} {fd : FuncData} {ps : List Str} {sp : Sp} {dvs : List V} {ds : List Value} {E : XK} {x : Str} {p pos : Pos} {e : Expr} {es : List Expr} {t : TA}
theorem pe_makeL (M : Mk X.K C f) (F : FnOk X.prog X.w X.K X.mg X.base CX k f fd ps sp) (hr : Room (k + 1) X.A) (hN : X.N[i]? = some x) (hv : Vis X.env.scope x) (hb : Binds X.K fd ps ds) (hd : Vals dvs ds) (hx : Passes CX X E) (ha : PA X (e :: es) t)
    (hdb : (x == ("__debug__" : Str)) = false := by decide) (hcd : (x == ("__classdict__" : Str)) = false := by decide)
    (he : starEach (e :: es) X.env = (false, eval e X.env) :: starEach es X.env := by rfl) (hpl : (backTo pos (starEach es X.env)).any (·.1) = false := by rfl) : PE X (.Call (.Name x p) (e :: es) [] pos) (tMakeL i C sp dvs E t) := by
  refine ⟨fun pins s σ H Q I h => ?_⟩
  obtain ⟨hs, ht⟩ := h
  refine wpAny_Call_Name_kw (thn ((pe_var (pos := p) hN hv hdb hcd).run pins s σ H (fun v H1 => v = .ref C ∧ H1 = H) I ⟨.ref C, hs, rfl, rfl⟩) fun u s1 ⟨v, H1, I1, r1, q1⟩ => ?_)
  obtain ⟨rfl, rfl⟩ := q1
  cases r1
  refine PySem.W.callWith_K (h₀ := X.base) I.ok.mod.kin M.kp (thn (ha.run pos pins s1 σ _ _ I1 ht) fun us s2 ⟨vs, H2, I2, r, q⟩ => ⟨I2.kIn, ?_⟩) he hpl
  exact run_make M F hr hb hd hx I2 r q
end

/-! ### C.m() , m a classmethod, no argument -/
section
open ClX
variable {X : Cx} {CX : CXT} {k : Nat} {C p g : Addr} {mc : Value} {sp : Sp} {E : XK} {o : Expr} {m : Str} {pos apos : Pos} {ta : TE} {pl : Sem Bool}
theorem pe_cmeth0 (he : PE X o ta) (r : CRead X.K C mc) (c : CMet X.K C mc m p g) (F : FnR X.prog X.w X.K X.mg X.base CX k g sp) (hr : Room k X.A) (hx : Passes CX X E)
    (ht : eval (.Call (.Attribute o m apos) [] [] pos) X.env = (do
      let ov ← eval o X.env
      standAt apos.atName
      let (f, first) ← holding [ov] (getMethod ov m pl)
      callWith pos f first (backTo pos (starEach [] X.env)) (backToKw pos (keywordEach [] X.env))) := by rfl) :
    PE X (.Call (.Attribute o m apos) [] [] pos) (tCMeth C sp E ta tNil) := by
  refine ⟨fun pins s σ H Q I h => ?_⟩
  refine PySem.W.methodCall_KW (pl := pl) (thn (he.run pins s σ H _ I h) fun u s1 ⟨x, H1, I1, rx, ex, q⟩ => ?_) ht
  subst ex
  obtain rfl : u = Value.ref C := rx
  refine getmethcm_ok I1 r c fun s2 I2 => ?_
  refine PySem.W.callWith_M0 (K := X.K) (first := []) ⟨pin_at I2, I2.kIn⟩ c.fi ?_
  exact run_cm F hr hx I2 .nil q
end

/-! ### range(a, b) of any size -/
theorem turn_long {P : Program} {w : World} {K : PySem.W.Frag} {tg : Expr} (it : Addr) (lo : Int) (n : Nat) : Turn P w K tg (Itr lo n) [it] it (fun i h => IsLongIter h it (lo + (i : Nat) * 1) ((n : Int) - (i : Nat)) 1) where
  mem := by simp
  obj := fun i h st b hb => by
    have e : b = it := by simpa using hb
    subst e
    exact ⟨_, st, fun v z => by
      have z' : Data.fields _ = Data.cell v := z
      cases z'⟩
  keep := fun i h h' st k => k it (by simp) _ st
  item := by
    intro X hP hw hK hc i pins s σ H E I hf st hg
    subst hP hw hK
    obtain ⟨f0, f1, f2, f3, f4, f5⟩ := hf it (by simp)
    have W := Walks.longrange (prog := X.prog) (w := X.w) (I.ok.hd hc) it lo 1 n
    refine W.item i s _ _ hg st fun v h' tk hv st' kk => ?_
    obtain ⟨t, rfl⟩ := hv
    have I1 : Inv X pins σ H { s with heap := h', toks := tk } := I.turned (fun b o hb e => kk b o (by simpa using hb) e) f0 f1 f3 f4 f5
    refine ⟨_, rfl, go_of (s := { s with heap := h', toks := tk }) (n := "longrange_iterator") st' rfl rfl (by decide) ⟨.int (lo + i), H, I1, ⟨t, ?_⟩, ⟨rfl, rfl⟩, st', fun b hb => (hf b hb).1⟩⟩
    rw [Int.mul_one]
  done := by
    intro X hP hw hK hc i pins s σ H E I hf st hg
    subst hP hw hK
    obtain ⟨f0, f1, f2, f3, f4, f5⟩ := hf it (by simp)
    exact wpAny_pyNext_long_end (I.ok.hd hc) st (by have : n ≤ i := hg; omega) fun h' eb => ⟨rfl, I.turned (t' := s.toks) (fun b o hb e => eb b o hb e) f0 f1 f3 f4 f5⟩
  self := fun _ _ _ _ _ st h => wpAny_pyIter_longiter st h
section
variable {X : Cx} {tg : Expr}
theorem rsize_nat (lo hi : Int) : (((hi - lo).toNat : Nat) : Int) = Builtin.Range.rangeSize lo hi 1 := by
  rw [rangeSize_one]; split <;> omega
theorem rangeW_it {pins : List (Addr × Obj)} {σ : L2.St} {H : Hp} {s : Shared} {R : It → Hp → Prop} {E : Value → Shared → Prop} {lo hi : Int} {t u v : Tok} {tk : Nat} (I : Inv X pins σ H s)
    (q : R (Itr lo (hi - lo).toNat) H) : wpAny (model X.prog X.w) X.A (pyIter (.ref s.heap.objs.size)) (PIE X pins σ tg R) E { s with heap := s.heap.push { cls := .type "range", data := .fields #[.int lo t, .int hi u, .int 1 v] }, toks := tk } := by
  have I1 : Inv X pins σ H { s with heap := s.heap.push { cls := .type "range", data := .fields #[.int lo t, .int hi u, .int 1 v] }, toks := tk } := I.kept fun b o e => Heap.get?_push_of_some _ e
  cases hs : Builtin.Range.small lo hi 1 with
  | true =>
    refine wpAny_pyIter_range (IsRange.new ..) hs ?_
    refine ⟨(s.heap.push { cls := .type "range", data := .fields #[.int lo t, .int hi u, .int 1 v] }).objs.size, [(s.heap.push { cls := .type "range", data := .fields #[.int lo t, .int hi u, .int 1 v] }).objs.size], _, _, H, rfl,
      I1.kept (t' := tk) fun b o e => Heap.get?_push_of_some _ e, turn_range _ lo (hi - lo).toNat, ?_, fun b hb => ?_, q⟩
    · have e1 : lo + ((0 : Nat) : Int) * 1 = lo := by simp
      have e2 : (((hi - lo).toNat : Nat) : Int) - ((0 : Nat) : Int) = Builtin.Range.rangeSize lo hi 1 := by rw [rsize_nat]; simp
      show IsRangeIter _ _ (lo + ((0 : Nat) : Int) * 1) ((((hi - lo).toNat : Nat) : Int) - ((0 : Nat) : Int)) 1
      rw [e1, e2]
      exact Heap.get?_push_size _ rfl
    · have e : b = (s.heap.push { cls := .type "range", data := .fields #[.int lo t, .int hi u, .int 1 v] }).objs.size := by simpa using hb
      subst e
      exact I1.fpOk (Nat.le_refl _) (I1.hok.fresh (Nat.le_refl _))
  | false =>
    refine wpAny_pyIter_longrange (IsRange.new ..) hs ?_
    refine ⟨(s.heap.push { cls := .type "range", data := .fields #[.int lo t, .int hi u, .int 1 v] }).objs.size, [(s.heap.push { cls := .type "range", data := .fields #[.int lo t, .int hi u, .int 1 v] }).objs.size], _, _, H, rfl,
      I1.kept (t' := tk) fun b o e => Heap.get?_push_of_some _ e, turn_long _ lo (hi - lo).toNat, ?_, fun b hb => ?_, q⟩
    · have e1 : lo + ((0 : Nat) : Int) * 1 = lo := by simp
      have e2 : (((hi - lo).toNat : Nat) : Int) - ((0 : Nat) : Int) = Builtin.Range.rangeSize lo hi 1 := by rw [rsize_nat]; simp
      show IsLongIter _ _ (lo + ((0 : Nat) : Int) * 1) ((((hi - lo).toNat : Nat) : Int) - ((0 : Nat) : Int)) 1
      rw [e1, e2]
      exact Heap.get?_push_size _ rfl
    · have e : b = (s.heap.push { cls := .type "range", data := .fields #[.int lo t, .int hi u, .int 1 v] }).objs.size := by simpa using hb
      subst e
      exact I1.fpOk (Nat.le_refl _) (I1.hok.fresh (Nat.le_refl _))
def iRng2W (ta : TA) : TI := fun σ H R => ta σ H fun vs H1 => ∃ i j : Int, vs = [.int i, .int j] ∧ R (Itr i (j - i).toNat) H1
theorem pi_range2W {a b : Expr} {ta : TA} {p pos : Pos} (hg : Gl X "range") (hm : X.mg "range" = none) (ha : PA X [a, b] ta) (hs : starEach [a, b] X.env = [(false, eval a X.env), (false, eval b X.env)] := by rfl) (hs2 : starEach [b] X.env = [(false, eval b X.env)] := by rfl) :
    PI X tg (.Call (.Name "range" p) [a, b] [] pos) (iRng2W ta) := by
  refine ⟨fun pins s σ H R I h => ?_⟩
  refine Call_ (ld_blt I hg hm boot_range (PyProof.Rows.callWith_type1 (thn (ha.run pos pins s σ H _ I h) fun us s1 ⟨vs, H1, I1, r1, q1⟩ => ?_) (by rw [hs, hs2]) (by rw [hs2]; rfl)))
  obtain ⟨i, j, e, q⟩ := q1
  subst e
  cases r1 with
  | cons r rr =>
    cases rr with
    | cons r' rr =>
      cases rr
      obtain ⟨t, rfl⟩ := r
      obtain ⟨t', rfl⟩ := r'
      exact call_range_2 (rangeW_it I1 q)
end
end Jg

/-! defs that are called where no repr is under way, repr of data, and the law's end over such a def -/
namespace Jg
open PySem PySem.Spec PyProof.Rows L2

/-- a def's promise where no repr is under way -/
structure FnG (P : Program) (w : World) (K : PySem.W.Frag) (mg : Str → Option Value) (base : Heap) (CX : CXT) (k : Nat) (f : Addr) (fd : FuncData) (ps : List Str) (sp : Sp) : Prop where
  len : ∀ vs H Q E, sp vs H Q E → vs.length = ps.length
  run : ∀ (A : Around), A.guards = some [] → ∀ (outer : List Env) (s : Shared) (H : Hp) (args : Args) (us : List Value) (vs : List V) (Q : VK) (E : XK), Room k A → Env0 P w K mg base A outer s H → BindsTo s fd args (ps.zip us) → Vals vs us → sp vs H Q E →
    codeAny (model P w) A (.call (.ref f) args) (CR CX outer P w H s Q E) s
theorem FnG.of {P : Program} {w : World} {K : PySem.W.Frag} {mg : Str → Option Value} {base : Heap} {CX : CXT} {k : Nat} {f : Addr} {fd : FuncData} {ps : List Str} {sp : Sp} (F : FnOk P w K mg base CX k f fd ps sp) : FnG P w K mg base CX k f fd ps sp :=
  ⟨F.len, fun A _ => F.run A⟩
theorem FnG.mono {P : Program} {w : World} {K : PySem.W.Frag} {mg : Str → Option Value} {base : Heap} {CX : CXT} {j k : Nat} {f : Addr} {fd : FuncData} {ps : List Str} {sp : Sp} (F : FnG P w K mg base CX j f fd ps sp) (h : j ≤ k) :
    FnG P w K mg base CX k f fd ps sp := ⟨F.len, fun A g outer s H args us vs Q E hr => F.run A g outer s H args us vs Q E (hr.mono h)⟩

section
variable {X : Cx} {CX : CXT} {k : Nat} {f : Addr} {fd : FuncData} {ps : List Str} {sp : Sp} {dvs : List V} {ds : List Value} {E : XK} {x : Str} {p pos : Pos} {e : Expr} {es : List Expr} {t : TA}
theorem run_fnG {pins : List (Addr × Obj)} {σ : L2.St} {H : Hp} {s : Shared} {Q : VK} {us : List Value} {vs : List V} (F : FnG X.prog X.w X.K X.mg X.base CX k f fd ps sp) (g : X.A.guards = some []) (hr : Room k X.A) (hb : Binds X.K fd ps ds) (hd : Vals dvs ds) (hx : Passes CX X E)
    (I : Inv X pins σ H s) (r : Vals vs us) (h : sp (vs ++ dvs) H Q E) : wpAny (model X.prog X.w) X.A (call (.ref f) us) (EP X pins σ Q) X.xe s := by
  have both := r.append hd
  have hl : (us ++ ds).length = ps.length := both.length.symm.trans (F.len _ _ _ _ h)
  have go := F.run X.A g X.stack s H ⟨us, []⟩ (us ++ ds) (vs ++ dvs) Q E hr I.env0 (hb s us I.kIn hl) both h
  refine wpAny_call (codeAny_mono go fun r s' hq => ?_)
  match r, hq with
  | .error e, hq => exact hx pins σ H s e s' I hq
  | .ok (.ret u), hq => exact I.after hq
/-- f(e, ..) -/
theorem pe_callG (F : FnG X.prog X.w X.K X.mg X.base CX k f fd ps sp) (g : X.A.guards = some []) (hr : Room k X.A) (hg : Gl X x) (hm : X.mg x = some (.ref f)) (hk : PySem.W.keepIn X.K (.ref f) = true) (hb : Binds X.K fd ps ds) (hd : Vals dvs ds) (hx : Passes CX X E)
    (ha : PA X (e :: es) t) (hdb : (x == ("__debug__" : Str)) = false := by decide) (he : starEach (e :: es) X.env = (false, eval e X.env) :: starEach es X.env := by rfl) (hpl : (backTo pos (starEach es X.env)).any (·.1) = false := by rfl) :
    PE X (.Call (.Name x p) (e :: es) [] pos) (tCall sp dvs E t) :=
  ⟨fun pins s σ H Q I h => wpAny_Call_Name_kw (ld_glob I hg hm (PySem.W.callWith_K (h₀ := X.base) I.ok.mod.kin hk (thn (ha.run pos pins s σ H _ I h) fun _ _ ⟨_, _, I1, r, q⟩ => ⟨I1.kIn, run_fnG F g hr hb hd hx I1 r q⟩) he hpl) hdb)⟩
end

theorem guards_deeper {A : Around} {e : Env} (h : A.guards = some []) : (A.deeper e).guards = some [] := by
  first | exact h | (unfold Around.deeper; simpa using h)

section
variable {P : Program} {w : World} {K : PySem.W.Frag} {mg : Str → Option Value} {base : Heap}
/-- a def of the text, its body walked where no repr is under way -/
theorem fnG_of {CX : CXT} {k : Nat} {x qual : Str} {st : Stmt} {f : Addr} {fd : FuncData} {N ps : List Str} {sp : Sp} (F : Fun K x qual st f fd) (S : FnScope N ps (defScope st)) (len : ∀ vs H Q E, sp vs H Q E → vs.length = ps.length)
    (hbody : ∀ (cdv : Value) (A : Around) (outer : List Env) (s : Shared) (H : Hp) (vs : List V) (Q : VK) (E : XK), A.guards = some [] → Room k (A.deeper (envOfC qual (defScope st) s.heap.objs.size f cdv)) → sp vs H Q E →
      ∃ t, PSs (cxOf CX P w K mg base N qual (defScope st) f cdv A outer s H E) (defBody st) t ∧ t { nx := fun _ H' => Q .non H', rt := Q } (start N vs) H) : FnG P w K mg base CX (k + 1) f fd ps sp := by
  obtain ⟨oc, od, kV, doc, pm, an, cdv, ct, osl, rfl, lk, hcd⟩ := F.ex
  refine ⟨len, fun A g outer s H args us vs Q E hr e0 hb r hsp => ?_⟩
  have inHeap : K.In s.heap := e0.mod.kin.keeps fun b o e => (e0.bs b o e).1
  have kinds : ∀ y ∈ ps.zip us, (defScope st).names.lookup y.1 = some .local ∨ ((defScope st).names.lookup y.1 = some .cell ∧ ((cellsFrom (s.heap.objs.size + 1) (defScope st).names []).lookup y.1).isSome = true) := fun y hy =>
    (S.par y.1 (List.of_mem_zip hy).1).imp id fun q => ⟨q, PySem.W.cellsFrom_some _ _ _ (.inl q)⟩
  refine codeAny_call_function hr.depth (inHeap _ _ lk) rfl S.co S.gen rfl (PySem.W.codeRec_of inHeap hcd) (hb _ _ _ _ ?_)
  refine wpAny_newFunctionEnv_cells S.kind kinds fun env he s1 y => ?_
  subst he
  obtain ⟨t, ht, hq⟩ := hbody cdv A outer s H vs Q E g (hr.deeper _) hsp
  have I := inv_start (CX := CX) (E := E) S hr.hd e0 (len _ _ _ _ hsp) r y
  refine ⟨(e0.mod.nolimit.keeps fun b o e => (e0.bs b o e).1).keeps y.toInCall.keep, codeAny_func (wpAny_mono (ht.run [] s1 (start N vs) H _ I hq) (fun fl s' hs => ?_) fun _ _ hs => hs)⟩
  match fl, hs with
  | .ret u, ⟨v, _, H', J, rv, q⟩ => exact ⟨v, H', J.os, J.bare, J.base, J.hok, rv, q⟩
  | .next, ⟨_, H', J, q⟩ => exact ⟨.non, H', J.os, J.bare, J.base, J.hok, rfl, q⟩
  | .brk, ⟨_, _, _, q⟩ => exact False.elim q
  | .cont, ⟨_, _, _, q⟩ => exact False.elim q
end

/-! ### repr of data -/
theorem noDict : ∀ (K : PySem.W.Frag) (H : Hp) (d : PyData) (v : V), Dp K H v d → d.hasDict = false := by
  intro K H d v h
  refine Dp.rec (motive_1 := fun _ d _ => d.hasDict = false) (motive_2 := fun _ ds _ => PyData.hasDictAll ds = false) ?_ ?_ ?_ ?_ ?_ ?_ ?_ ?_ h
  · rfl
  · intro b; rfl
  · intro i; rfl
  · intro x; rfl
  · intro a xs ds _ _ ih; exact ih
  · intro a xs ds _ _ ih; exact ih
  · rfl
  · intro v vs d ds _ _ h1 h2
    show (PyData.hasDict d || PyData.hasDictAll ds) = false
    rw [h1, h2]; rfl
def rRepr (K : PySem.W.Frag) : List V → Hp → VK → Prop := fun xs H Q => ∃ a d, xs = [.ref a] ∧ Dp K H (.ref a) d ∧ d.showable = true ∧ d.depth ≤ 40 ∧ d.shown.length ≤ sizeLine ∧ Q (.str d.shown) H
section
variable {X : Cx}
theorem call_reprD (g : X.A.guards = some []) (hu : X.A.units + 64 < cLine) : CallR X (.builtin "repr") (rRepr X.K) := by
  intro pins s σ H xs us Q I r h
  obtain ⟨a, d, rfl, hd, hs, dp, hz, q⟩ := h
  obtain ⟨u, rfl, ru⟩ := vals1 r
  cases ru
  obtain ⟨as, R⟩ := Dp.reads I d (.ref a) (.ref a) hd rfl
  refine repr_of_reads' R hs (PyData.noDict_hsm (noDict _ _ _ _ hd)) g (by omega) (fun _ _ e => e) (fun h' u tk hk => ?_) hz
  exact ⟨.str d.shown, H, I.kept hk, ⟨_, rfl⟩, q⟩
end

/-! ### the end -/
theorem law_callG {P : Program} {w : World} {K : PySem.W.Frag} {mg mb : Str → Option Value} {CX : CXT} {k : Nat} {fa a : Addr} {fd : FuncData} {x : Str} {sp : Sp} {s₁ : Shared} {vs : List Value} {ns : List Int}
    (KX : K.In s₁.heap) (hns : s₁.heap.Ns mainGlobals mg) (hb : s₁.heap.Ns builtinsNs mb) (hbb : ∀ x : Str, x ≠ "__name__" → mb x = bootBuiltins x) (hlim : s₁.heap.NoLimit) (hg : s₁.gens = #[])
    (ha : s₁.heap.get? a = some { cls := .type "list", data := .seq vs.toArray }) (hi : IntsAre vs ns) (hl : ns.length ≤ sizeLine) (hr : Room k callerA)
    (F : ∀ base : Heap, K.In base → base.Ns mainGlobals mg → FnG P w K mg base CX k fa fd [x] sp) (hbind : ∀ (s : Shared) (u : Value), BindsTo s fd ⟨[u], []⟩ [(x, u)])
    (hsp : ∀ H : Hp, Only H → SqL K H a (ns.map V.int) → sp [.ref a] H (fun v _ => v = .bl true) fun _ _ _ => False)
    (hCX : ∀ H e s', CX [] H s₁ (fun _ _ _ => False) e s' → False) :
    codeAny (model P w) callerA (.call (.ref fa) ⟨[.ref a], []⟩) (fun r s' => r = .ok (.ret (.bool true)) ∧ OldK s₁.heap s'.heap ∧ s'.os = s₁.os ∧ AllBare s'.gens) s₁ := by
  have lenV := hi.length
  let scriptO : Obj := { cls := .type "list", data := .seq vs.toArray }
  -- what is tracked: the script, unless it is one of the module's own objects
  let H : Hp := fun b => if b = a ∧ K.lookup a = none then some (.frz scriptO (.lst (ns.map V.int))) else none
  have H1 : ∀ b u, H b = some u → b = a ∧ K.lookup a = none ∧ u = .frz scriptO (.lst (ns.map V.int)) := fun b u e => by
    show b = a ∧ _ ∧ _
    by_cases c : b = a ∧ K.lookup a = none
    · have e' : some (HO.frz scriptO (.lst (ns.map V.int))) = some u := (if_pos c).symm.trans e
      exact ⟨c.1, c.2, (Option.some.inj e').symm⟩
    · have e' : (none : Option HO) = some u := (if_neg c).symm.trans e
      cases e'
  have only : Only H := fun b => by
    cases e : H b with
    | none => exact .inl rfl
    | some u =>
      obtain ⟨_, _, rfl⟩ := H1 b u e
      exact .inr ⟨_, _, rfl⟩
  have seq : SqL K H a (ns.map V.int) := by
    cases hk : K.lookup a with
    | none => exact .inl (.inr ⟨scriptO, if_pos ⟨rfl, hk⟩⟩)
    | some o =>
      have e := KX a o hk
      rw [ha] at e
      cases e
      exact .inr ⟨_, vs.toArray, _, hk, rfl, rfl, rfl, by rw [List.size_toArray, lenV]; exact hl, by simpa using vals_ints hi⟩
  have ok : HOk P w H s₁.heap := fun b u e => by
    obtain ⟨rfl, _, rfl⟩ := H1 b u e
    exact ⟨ha, by rw [List.length_map]; exact hl, vs, _, vals_ints hi, ha⟩
  -- objects of other kinds than the script are not tracked
  have dictFree : ∀ {b : Addr} {o : Obj} {es : Array DictEntry} {ep : Nat}, s₁.heap.get? b = some o → o.data = .dict es ep → H b = none := fun {b o es ep} e d => by
    cases q : H b with
    | none => rfl
    | some u =>
      obtain ⟨rfl, _, _⟩ := H1 b u q
      rw [ha] at e
      cases e
      exact nomatch (show Data.seq vs.toArray _ = Data.dict es ep from d)
  have ns0 : ∀ {b : Addr} {m : Str → Option Value}, s₁.heap.Ns b m → (hidT s₁.heap H).Ns b m := fun {b m} ⟨o, es, ep, e, d, r⟩ => ⟨o, es, ep, hidT_get e (dictFree e d), d, r⟩
  have kin0 : K.In (hidT s₁.heap H) := fun b o e => hidT_get (KX b o e) (by
    cases q : H b with
    | none => rfl
    | some u =>
      obtain ⟨rfl, hk, _⟩ := H1 b u q
      rw [hk] at e; cases e)
  have md : Mod K mg (hidT s₁.heap H) := ⟨kin0, ns0 hns, ⟨mb, ns0 hb, hbb⟩, let ⟨mc, c1, c2⟩ := hlim; ⟨mc, ns0 c1, c2⟩⟩
  have e0 : Env0 P w K mg (hidT s₁.heap H) callerA [] s₁ H := ⟨rfl, md, fun b o e => of_hidT e, Nat.le_of_eq (hidT_size _ _), trivial, fun b hb => absurd (show b ∈ ([] : List Addr) from hb) (by simp), ok, .of_eq hg⟩
  have go := (F _ kin0 (ns0 hns)).run callerA rfl [] s₁ H ⟨[.ref a], []⟩ [.ref a] [.ref a] _ _ hr e0 (hbind s₁ (.ref a)) (.cons rfl .nil) (hsp H only seq)
  refine codeAny_mono go fun r s' h => ?_
  match r, h with
  | .error e, h => exact (hCX H e s' h).elim
  | .ok (.ret u), ⟨v, H', os, bare, un, hok', r', q⟩ =>
    have q' : v = .bl true := q
    subst q'
    cases (show u = Value.bool true from r')
    refine ⟨rfl, OldK.of_keep fun b o e => ?_, os, bare⟩
    cases q : H b with
    | none => exact un.keep b o e q (fun z => absurd (show b ∈ ([] : List Addr) from z) (by simp)) (by simp)
    | some u =>
      obtain ⟨rfl, _, rfl⟩ := H1 b u q
      have w2 := (hok' _ _ (un.frzs _ _ _ q)).1
      rw [ha] at e
      cases e
      exact w2
theorem walk_ofG {l : PySem.W.OpenLaw} {n k : Nat} {q : Program} {loose : List Str} {XP : (Str → Option Value) → Heap → Prop} {YP : World → Heap → Prop} {d : DefRec} {K : Params → PySem.W.Frag} {CX : World → CXT} {sp : World → Sp} {x : Str}
    (hn : l.most = some n) (hn2 : n ≤ sizeLine) (hdf : d.params.defaults = []) (hr : Room k callerA)
    (hY : ∀ (w : World) (h : Heap), YP w h → (K w.params).In h)
    (F : ∀ (w : World) (mg : Str → Option Value) (fa : Addr) (h : Heap), (K w.params).In h → h.Ns mainGlobals mg → mg d.name = some (.ref fa) → XP mg h →
      ∃ fd : FuncData, (∀ (s : Shared) (u : Value), BindsTo s fd ⟨[u], []⟩ [(x, u)]) ∧
        ∀ base : Heap, (K w.params).In base → base.Ns mainGlobals mg → FnG l.prog w (K w.params) mg base (CX w) k fa fd [x] (sp w))
    (hsp : ∀ (w : World) (H : Hp) (a : Addr) (ns : List Int), ns.length ≤ n → Only H → SqL (K w.params) H a (ns.map V.int) → sp w [.ref a] H (fun v _ => v = .bl true) fun _ _ _ => False)
    (hCX : ∀ (w : World) (H : Hp) (s : Shared) (e : Value) (s' : Shared), CX w [] H s (fun _ _ _ => False) e s' → False) :
    PySem.W.WalkO q loose XP YP l.row.toRowW d [] (fun f vs => PySem.call f vs) :=
  Att.attach_call hn hdf fun w _ s₁ mg mb fa _ _ _ _ a vs ns G Y _ _ _ hmg hobj hints hlen hg =>
    let ⟨_, hb, hF⟩ := F w mg fa _ (hY w _ Y) G.T.g hmg G.X
    law_callG (hY w _ Y) G.T.g G.T.b G.T.builtins G.T.nolimit hg hobj hints (Nat.le_trans hlen hn2) hr hF hb (fun H hO hS => hsp w H a ns hlen hO hS) fun H e s' => hCX w H s₁ e s'
/-- a number that the top keeps under a name, whatever its token -/
theorem loose_int {p : Program} {lv : List (Str × PySem.W.WData)} {mg : Str → Option Value} {h : Heap} {x : Str} {i : Int} (X : PySem.W.XL p lv mg h) (hm : (x, PySem.W.WData.int i) ∈ lv) : ∃ u, mg x = some u ∧ L2.RelV (.int i) u := by
  obtain ⟨v, e, r⟩ := X.2.val _ hm
  cases r
  exact ⟨_, e, _, rfl⟩
end Jg

/-! defs, methods, properties and classes by their names: addresses hidden -/
namespace Jg
open PySem PySem.Spec PyProof.Rows L2

theorem iteFe {A D : Prop} {b : Bool} (e : b = false) (h : D) : if b = true then A else D := by rw [e]; exact iteF h
theorem iteTe {A D : Prop} {b : Bool} (e : b = true) (h : A) : if b = true then A else D := by rw [e]; exact iteT h
/-- a def of the module as the top leaves it -/
structure DefK (K : PySem.W.Frag) (mg : Str → Option Value) (x : Str) (st : Stmt) : Prop where
  ex : ∃ f fd, Fun K x x st f fd ∧ mg x = some (.ref f)
theorem DefK.of {K : PySem.W.Frag} {h : Heap} {mg : Str → Option Value} {x : Str} {st : Stmt} {f : Addr} {oc : Value} {od an : Option Addr} {osl : Array (Option Value)} {kV doc pm cdv ct : Value} (X : K.In h) (G : h.Ns mainGlobals mg)
    (a : PySem.W.nsIn K mainGlobals x = some (some (.ref f))) (l : K.lookup f = some ⟨oc, od, .func (PySem.W.fnOf x x (defArgs st) (defBody st) (defScope st) .none kV doc pm an cdv ct), osl⟩)
    (c : PySem.W.codeIn K cdv x = true) (k : PySem.W.keepIn K (.ref f) = true) : DefK K mg x st := ⟨f, _, fun_mk l c k, PySem.W.mg_of X G a⟩
/-- a method of the class at C -/
structure MetK (K : PySem.W.Frag) (C : Addr) (m qual : Str) (st : Stmt) : Prop where
  ex : ∃ f fd, Fun K m qual st f fd ∧ PySem.W.findIn K (.ref C) m = some (some (.ref f)) ∧ PySem.W.isFn K (.ref f) = true
theorem MetK.of {K : PySem.W.Frag} {C : Addr} {m qual : Str} {st : Stmt} {f : Addr} {oc : Value} {od an : Option Addr} {osl : Array (Option Value)} {kV doc pm cdv ct : Value}
    (a : PySem.W.findIn K (.ref C) m = some (some (.ref f))) (i : PySem.W.isFn K (.ref f) = true) (l : K.lookup f = some ⟨oc, od, .func (PySem.W.fnOf m qual (defArgs st) (defBody st) (defScope st) .none kV doc pm an cdv ct), osl⟩)
    (c : PySem.W.codeIn K cdv qual = true) (k : PySem.W.keepIn K (.ref f) = true) : MetK K C m qual st := ⟨f, _, fun_mk l c k, a, i⟩
/-- a property of the class at C -/
structure PrpK (K : PySem.W.Frag) (C : Addr) (m qual : Str) (st : Stmt) : Prop where
  ex : ∃ p f fd, Fun K m qual st f fd ∧ PropOf K C m p f
theorem PrpK.of {K : PySem.W.Frag} {C : Addr} {m qual : Str} {st : Stmt} {p f : Addr} {rest : List Value} {oc : Value} {od an : Option Addr} {osl : Array (Option Value)} {kV doc pm cdv ct : Value}
    (a : PySem.W.findIn K (.ref C) m = some (some (.ref p))) (g : PySem.W.specialIn K (.ref p) "__get__" = some (some (.builtin "property.__get__"))) (tk : PySem.W.takesIn K (.ref p) = some true) (rc : PySem.W.recIn K p "property" = some (.ref f :: rest))
    (l : K.lookup f = some ⟨oc, od, .func (PySem.W.fnOf m qual (defArgs st) (defBody st) (defScope st) .none kV doc pm an cdv ct), osl⟩)
    (c : PySem.W.codeIn K cdv qual = true) (k : PySem.W.keepIn K (.ref f) = true) : PrpK K C m qual st := ⟨p, f, _, fun_mk l c k, ⟨a, g, tk, rest, rc⟩⟩
/-- a classmethod of the class at C -/
structure CmtK (K : PySem.W.Frag) (C : Addr) (mc : Value) (m qual : Str) (st : Stmt) : Prop where
  ex : ∃ p f fd, Fun K m qual st f fd ∧ ClX.CRead K C mc ∧ ClX.CMet K C mc m p f
theorem CmtK.of {K : PySem.W.Frag} {C : Addr} {mc : Value} {m qual : Str} {st : Stmt} {p f : Addr} {rest : List Value} {oc : Value} {od an : Option Addr} {osl : Array (Option Value)} {kV doc pm cdv ct : Value}
    (rd : PySem.W.readsIn K C mc = true) (ga : PySem.W.specialIn K (.ref C) "__getattribute__" = some (some (.builtin "type.__getattribute__")))
    (a : PySem.W.findCls K (.ref C) mc m = some (.get (.builtin "classmethod.__get__") (.ref p) .none (.ref C))) (rc : PySem.W.recIn K p "classmethod" = some (.ref f :: rest)) (fi : PySem.W.fnIn K f = true)
    (l : K.lookup f = some ⟨oc, od, .func (PySem.W.fnOf m qual (defArgs st) (defBody st) (defScope st) .none kV doc pm an cdv ct), osl⟩)
    (c : PySem.W.codeIn K cdv qual = true) (k : PySem.W.keepIn K (.ref f) = true) : CmtK K C mc m qual st := ⟨p, f, _, fun_mk l c k, ⟨rd, ga⟩, ⟨a, ⟨rest, rc⟩, fi⟩⟩

section
variable (P : Program) (w : World) (K : PySem.W.Frag) (mg : Str → Option Value) (base : Heap) (CX : CXT) (k : Nat)
/-- a def that may be called by its name -/
structure Cal (x : Str) (sp : Sp) : Prop where
  ex : ∃ f fd ps, FnOk P w K mg base CX k f fd ps sp ∧ mg x = some (.ref f) ∧ PySem.W.keepIn K (.ref f) = true ∧ Binds K fd ps []
structure CalG (x : Str) (sp : Sp) : Prop where
  ex : ∃ f fd ps, FnG P w K mg base CX k f fd ps sp ∧ mg x = some (.ref f) ∧ PySem.W.keepIn K (.ref f) = true ∧ Binds K fd ps []
/-- a method of the class at C -/
structure Met (C : Addr) (m : Str) (sp : Sp) : Prop where
  ex : ∃ f fd ps, FnOk P w K mg base CX k f fd ps sp ∧ PySem.W.findIn K (.ref C) m = some (some (.ref f)) ∧ PySem.W.isFn K (.ref f) = true ∧ PySem.W.keepIn K (.ref f) = true ∧ Binds K fd ps []
structure Prp (C : Addr) (m : Str) (sp : Sp) : Prop where
  ex : ∃ p f fd ps, FnOk P w K mg base CX k f fd ps sp ∧ PropOf K C m p f ∧ Binds K fd ps []
structure Cmt (C : Addr) (mc : Value) (m : Str) (sp : Sp) : Prop where
  ex : ∃ p f fd ps, FnOk P w K mg base CX k f fd ps sp ∧ ClX.CRead K C mc ∧ ClX.CMet K C mc m p f ∧ Binds K fd ps []
end
theorem CalG.of {P : Program} {w : World} {K : PySem.W.Frag} {mg : Str → Option Value} {base : Heap} {CX : CXT} {k : Nat} {x : Str} {sp : Sp} (c : Cal P w K mg base CX k x sp) : CalG P w K mg base CX k x sp :=
  let ⟨f, fd, ps, F, a⟩ := c.ex
  ⟨f, fd, ps, .of F, a⟩

/-- how a def of the text binds its arguments -/
def BindOk (x qual : Str) (st : Stmt) (ps : List Str) : Prop :=
  ∀ (kV doc pm : Value) (an : Option Addr) (cdv ct : Value) (us : List Value), us.length = ps.length → bindArgs (PySem.W.fnOf x qual (defArgs st) (defBody st) (defScope st) .none kV doc pm an cdv ct) ⟨us, []⟩ = pure (ps.zip us)
/-- what a body must show -/
def BodyOk (CX : CXT) (P : Program) (w : World) (K : PySem.W.Frag) (mg : Str → Option Value) (base : Heap) (N : List Str) (qual : Str) (st : Stmt) (f : Addr) (k : Nat) (sp : Sp) : Prop :=
  ∀ (cdv : Value) (A : Around) (outer : List Env) (s : Shared) (H : Hp) (vs : List V) (Q : VK) (E : XK), Room k (A.deeper (envOfC qual (defScope st) s.heap.objs.size f cdv)) → sp vs H Q E →
      ∃ t, PSs (cxOf CX P w K mg base N qual (defScope st) f cdv A outer s H E).nox (defBody st) t ∧ t { nx := fun _ H' => Q .non H', rt := Q } (start N vs) H
section
variable {P : Program} {w : World} {K : PySem.W.Frag} {mg : Str → Option Value} {base : Heap} {k : Nat} {C : Addr} {mc : Value} {x m qual : Str} {st : Stmt} {N ps : List Str} {sp : Sp}
theorem DefK.cal (D : DefK K mg x st) (S : FnScope N ps (defScope st)) (b : BindOk x x st ps) (len : ∀ vs H Q E, sp vs H Q E → vs.length = ps.length) (hb : ∀ f, BodyOk CX0 P w K mg base N x st f k sp) : Cal P w K mg base CX0 (k + 1) x sp :=
  let ⟨f, fd, F, m⟩ := D.ex
  ⟨f, fd, ps, F.ok S len (hb f), m, F.kp, F.binds b⟩
theorem DefK.calG (D : DefK K mg x st) (S : FnScope N ps (defScope st)) (b : BindOk x x st ps) (len : ∀ vs H Q E, sp vs H Q E → vs.length = ps.length)
    (hb : ∀ (f : Addr) (cdv : Value) (A : Around) (outer : List Env) (s : Shared) (H : Hp) (vs : List V) (Q : VK) (E : XK), (cxOf CX0 P w K mg base N x (defScope st) f cdv A outer s H E).nox.A.guards = some [] → Room k (A.deeper (envOfC x (defScope st) s.heap.objs.size f cdv)) → sp vs H Q E →
      ∃ t, PSs (cxOf CX0 P w K mg base N x (defScope st) f cdv A outer s H E).nox (defBody st) t ∧ t { nx := fun _ H' => Q .non H', rt := Q } (start N vs) H) : CalG P w K mg base CX0 (k + 1) x sp :=
  let ⟨f, fd, F, m⟩ := D.ex
  ⟨f, fd, ps, fnG_of F S len fun cdv A outer s H vs Q E g hr h =>
    let ⟨t, a, q⟩ := hb f cdv A outer s H vs Q E (guards_deeper g) hr h
    ⟨t, a.nox, q⟩, m, F.kp, F.binds b⟩
/-- .. and the function object, for the end -/
theorem DefK.fnG {fa : Addr} (D : DefK K mg x st) (hm : mg x = some (.ref fa)) (S : FnScope N ps (defScope st)) (b : BindOk x x st ps) (len : ∀ vs H Q E, sp vs H Q E → vs.length = ps.length) :
    ∃ fd : FuncData, Binds K fd ps [] ∧ ∀ (base : Heap), (∀ (f : Addr) (cdv : Value) (A : Around) (outer : List Env) (s : Shared) (H : Hp) (vs : List V) (Q : VK) (E : XK), (cxOf CX0 P w K mg base N x (defScope st) f cdv A outer s H E).nox.A.guards = some [] → Room k (A.deeper (envOfC x (defScope st) s.heap.objs.size f cdv)) → sp vs H Q E →
      ∃ t, PSs (cxOf CX0 P w K mg base N x (defScope st) f cdv A outer s H E).nox (defBody st) t ∧ t { nx := fun _ H' => Q .non H', rt := Q } (start N vs) H) → FnG P w K mg base CX0 (k + 1) fa fd ps sp := by
  obtain ⟨f, fd, F, m⟩ := D.ex
  rw [hm] at m
  cases m
  exact ⟨fd, F.binds b, fun base hb => fnG_of F S len fun cdv A outer s H vs Q E g hr h =>
    let ⟨t, a, q⟩ := hb _ cdv A outer s H vs Q E (guards_deeper g) hr h
    ⟨t, a.nox, q⟩⟩
theorem MetK.met (D : MetK K C m qual st) (S : FnScope N ps (defScope st)) (b : BindOk m qual st ps) (len : ∀ vs H Q E, sp vs H Q E → vs.length = ps.length) (hb : ∀ f, BodyOk CX0 P w K mg base N qual st f k sp) : Met P w K mg base CX0 (k + 1) C m sp :=
  let ⟨f, fd, F, a, i⟩ := D.ex
  ⟨f, fd, ps, F.ok S len (hb f), a, i, F.kp, F.binds b⟩
theorem PrpK.prp (D : PrpK K C m qual st) (S : FnScope N ps (defScope st)) (b : BindOk m qual st ps) (len : ∀ vs H Q E, sp vs H Q E → vs.length = ps.length) (hb : ∀ f, BodyOk CX0 P w K mg base N qual st f k sp) : Prp P w K mg base CX0 (k + 1) C m sp :=
  let ⟨p, f, fd, F, a⟩ := D.ex
  ⟨p, f, fd, ps, F.ok S len (hb f), a, F.binds b⟩
theorem CmtK.cmt (D : CmtK K C mc m qual st) (S : FnScope N ps (defScope st)) (b : BindOk m qual st ps) (len : ∀ vs H Q E, sp vs H Q E → vs.length = ps.length) (hb : ∀ f, BodyOk CX0 P w K mg base N qual st f k sp) : Cmt P w K mg base CX0 (k + 1) C mc m sp :=
  let ⟨p, f, fd, F, r, a⟩ := D.ex
  ⟨p, f, fd, ps, F.ok S len (hb f), r, a, F.binds b⟩
end

section
variable {X : Cx} {k j : Nat} {C : Addr} {mc : Value} {x m : Str} {sp : Sp} {p pos apos : Pos} {e o : Expr} {es : List Expr} {ta : TE} {t : TA}
theorem pe_c (c : Cal X.prog X.w X.K X.mg X.base CX0 k x sp) (hr : Room j X.A) (hk : k ≤ j) (hg : Gl X x) (ha : PA X (e :: es) t)
    (hdb : (x == ("__debug__" : Str)) = false := by decide) (he : starEach (e :: es) X.env = (false, eval e X.env) :: starEach es X.env := by rfl) (hpl : (backTo pos (starEach es X.env)).any (·.1) = false := by rfl) :
    PE X (.Call (.Name x p) (e :: es) [] pos) (tCall sp [] E0 t) := by
  obtain ⟨f, fd, ps, F, hm, kp, b⟩ := c.ex
  exact pe_call F (hr.mono hk) hg hm kp b .nil pass0 ha hdb he hpl
theorem pe_cG (c : CalG X.prog X.w X.K X.mg X.base CX0 k x sp) (g : X.A.guards = some []) (hr : Room j X.A) (hk : k ≤ j) (hg : Gl X x) (ha : PA X (e :: es) t)
    (hdb : (x == ("__debug__" : Str)) = false := by decide) (he : starEach (e :: es) X.env = (false, eval e X.env) :: starEach es X.env := by rfl) (hpl : (backTo pos (starEach es X.env)).any (·.1) = false := by rfl) :
    PE X (.Call (.Name x p) (e :: es) [] pos) (tCall sp [] E0 t) := by
  obtain ⟨f, fd, ps, F, hm, kp, b⟩ := c.ex
  exact pe_callG F g (hr.mono hk) hg hm kp b .nil pass0 ha hdb he hpl
/-- a class that is made by its name -/
structure Mak (P : Program) (w : World) (K : PySem.W.Frag) (mg : Str → Option Value) (base : Heap) (CX : CXT) (k : Nat) (x : Str) (C : Addr) (sp : Sp) : Prop where
  mg_ : mg x = some (.ref C)
  mks : PySem.W.makesIn K C = true
  kp : PySem.W.keepIn K (.ref C) = true
  init : Met P w K mg base CX k C "__init__" sp
theorem pe_mk (c : Mak X.prog X.w X.K X.mg X.base CX0 k x C sp) (hr : Room j X.A) (hk : k + 1 ≤ j) (hg : Gl X x) (ha : PA X (e :: es) t)
    (hdb : (x == ("__debug__" : Str)) = false := by decide) (he : starEach (e :: es) X.env = (false, eval e X.env) :: starEach es X.env := by rfl) (hpl : (backTo pos (starEach es X.env)).any (·.1) = false := by rfl) :
    PE X (.Call (.Name x p) (e :: es) [] pos) (tMake C sp [] E0 t) := by
  obtain ⟨f, fd, ps, F, a, i, kp, b⟩ := c.init.ex
  exact pe_make ⟨c.mks, a, i, c.kp⟩ F (hr.mono hk) hg c.mg_ b .nil pass0 ha hdb he hpl
theorem pe_mkL {i : Nat} (c : Mak X.prog X.w X.K X.mg X.base CX0 k m C sp) (hr : Room j X.A) (hk : k + 1 ≤ j) (hN : X.N[i]? = some x) (hv : Vis X.env.scope x) (ha : PA X (e :: es) t)
    (hdb : (x == ("__debug__" : Str)) = false := by decide) (hcd : (x == ("__classdict__" : Str)) = false := by decide)
    (he : starEach (e :: es) X.env = (false, eval e X.env) :: starEach es X.env := by rfl) (hpl : (backTo pos (starEach es X.env)).any (·.1) = false := by rfl) : PE X (.Call (.Name x p) (e :: es) [] pos) (tMakeL i C sp [] E0 t) := by
  obtain ⟨f, fd, ps, F, a, b', kp, b⟩ := c.init.ex
  exact pe_makeL ⟨c.mks, a, b', c.kp⟩ F (hr.mono hk) hN hv b .nil pass0 ha hdb hcd he hpl
theorem pe_m {pl : Sem Bool} (c : Met X.prog X.w X.K X.mg X.base CX0 k C m sp) (cl : Cls X.K C) (hr : Room j X.A) (hk : k ≤ j) (he : PE X o ta) (ha : PA X (e :: es) t)
    (hst : starEach (e :: es) X.env = (false, eval e X.env) :: starEach es X.env := by rfl) (hpl : (backTo pos (starEach es X.env)).any (·.1) = false := by rfl)
    (ht : eval (.Call (.Attribute o m apos) (e :: es) [] pos) X.env = (do
      let ov ← eval o X.env
      standAt apos.atName
      let (f, first) ← holding [ov] (getMethod ov m pl)
      callWith pos f first (backTo pos (starEach (e :: es) X.env)) (backToKw pos (keywordEach [] X.env))) := by rfl) :
    PE X (.Call (.Attribute o m apos) (e :: es) [] pos) (tMeth C m sp [] E0 ta t) := by
  obtain ⟨f, fd, ps, F, a, i, kp, b⟩ := c.ex
  exact pe_meth (pl := pl) he cl ⟨a, i, kp⟩ F (hr.mono hk) b .nil pass0 ha hst hpl ht
theorem pe_p (c : Prp X.prog X.w X.K X.mg X.base CX0 k C m sp) (cl : Cls X.K C) (hr : Room j X.A) (hk : k + 1 ≤ j) (he : PE X o ta)
    (hab : attributeBase o m X.env (eval o X.env) = eval o X.env := by rfl) : PE X (.Attribute o m pos) (tProp C sp [] E0 ta) := by
  obtain ⟨q, f, fd, ps, F, a, b⟩ := c.ex
  exact pe_prop he cl a F (hr.mono hk) b .nil pass0 hab
theorem op_c {op : CmpOp} {m : Str} (c : Met X.prog X.w X.K X.mg X.base CX0 k C m sp) (hr : Room j X.A) (hk : k ≤ j) (hm : m = (cmpInfo op).2.1 := by rfl)
    (hc : ∀ v u, compareOp op v u = richCompare op v u := by intro _ _; rfl) : OpR X (compareOp op) (rOwn X.K C sp E0) := by
  subst hm
  obtain ⟨f, fd, ps, F, a, i, kp, b⟩ := c.ex
  exact op_own F (hr.mono hk) ⟨a, i⟩ b pass0 hc
theorem op_b {op : Operator} {m : Str} (c : Met X.prog X.w X.K X.mg X.base CX0 k C m sp) (sf : PySem.W.selfFirst X.K C = true) (hr : Room j X.A) (hk : k ≤ j) (hm : m = PySem.dunder op.info.2 := by rfl) : OpR X (binaryOp op) (rOwnB C sp E0) := by
  subst hm
  obtain ⟨f, fd, ps, F, a, i, kp, b⟩ := c.ex
  exact op_ownB F (hr.mono hk) ⟨a, i⟩ sf b pass0
theorem op_in (c : Met X.prog X.w X.K X.mg X.base CX0 k C "__contains__" sp) (hr : Room j X.A) (hk : k ≤ j) : OpR X (compareOp .In) (rOwnIn C sp E0) := by
  obtain ⟨f, fd, ps, F, a, i, kp, b⟩ := c.ex
  exact op_ownIn F (hr.mono hk) ⟨a, i⟩ b pass0
theorem op_notIn (c : Met X.prog X.w X.K X.mg X.base CX0 k C "__contains__" sp) (hr : Room j X.A) (hk : k ≤ j) : OpR X (compareOp .NotIn) (rOwnNotIn C sp E0) := by
  obtain ⟨f, fd, ps, F, a, i, kp, b⟩ := c.ex
  exact op_ownNotIn F (hr.mono hk) ⟨a, i⟩ b pass0
/-- a name of the module, by its value; a built-in type by its name -/
theorem pe_gc {v : V} (hg : Gl X x) (h : ∃ u, X.mg x = some u ∧ L2.RelV v u) (hd : (x == ("__debug__" : Str)) = false := by decide) : PE X (.Name x pos) (tC v) := by
  obtain ⟨u, hm, r⟩ := h
  exact pe_glob hg hm r hd
theorem pe_ty {n : String} (hg : Gl X x) (hm : X.mg x = none) (hv : bootBuiltins x = some (.type n)) (hn : x ≠ "__name__" := by decide) (hd : (x == ("__debug__" : Str)) = false := by decide) : PE X (.Name x pos) (tC (.ty n)) :=
  pe_bltn (v := .ty n) (u := .type n) hg hm hv rfl hn hd
theorem pe_cm0 {pl : Sem Bool} (c : Cmt X.prog X.w X.K X.mg X.base CX0 k C mc m sp) (hr : Room j X.A) (hk : k ≤ j) (he : PE X o ta)
    (ht : eval (.Call (.Attribute o m apos) [] [] pos) X.env = (do
      let ov ← eval o X.env
      standAt apos.atName
      let (f, first) ← holding [ov] (getMethod ov m pl)
      callWith pos f first (backTo pos (starEach [] X.env)) (backToKw pos (keywordEach [] X.env))) := by rfl) :
    PE X (.Call (.Attribute o m apos) [] [] pos) (ClX.tCMeth C (fun vs H Q E => sp (vs ++ []) H Q E) E0 ta tNil) := by
  obtain ⟨q, f, fd, ps, F, r, a, b⟩ := c.ex
  exact pe_cmeth0 (pl := pl) he r a (F.raw b .nil) (hr.mono hk) pass0 ht
end
end Jg

/-! set(xs) of a list of ints -/
namespace Jg
open PySem PySem.Spec PyProof.Rows L2
/-- a set just made -/
def mtSet (w : World) : Obj := { cls := .type "set", dict := none, data := .set #[] 0 (.fresh 0 0 (!w.params.followText "set-order")) }
section
variable {P : Program} {w : World} {A : Around} {E : Value → Shared → Prop} {s : Shared}
/-- what stands behind set(xs): a new set of the ints -/
abbrev SetDone (w : World) (s : Shared) (ns : List Int) (s₂ : Shared) : Prop :=
  ∃ h' tk c, s₂ = { s with heap := h', toks := tk } ∧ SetR w h' s.heap.objs.size (fun j => decide (j ∈ ns)) c ∧ c ≤ ns.length ∧ ∀ b o, s.heap.get? b = some o → h'.get? b = some o
theorem mt_at (w : World) (h : Heap) : (h.push (mtSet w)).get? h.objs.size = some (mtSet w) := Heap.get?_push_size _ rfl
set_option maxHeartbeats 8000000 in
theorem set_of_list {l : Addr} {items : Array Value} (ns : List Int) {Q : Value → Shared → Prop} (hh : A.handled = none) (hl : s.heap.IsList l items) (hit : IntsAre items.toList ns) (hb : ns.length + 1 < scanBound)
    (h : ∀ s₂, SetDone w s ns s₂ → Q (.ref s.heap.objs.size) s₂) : wpAny (model P w) A (call (.type "set") [.ref l]) Q E s := by
  have hsz : items.size = ns.length := (Array.length_toList (xs := items)).symm.trans (IntsAre.length hit)
  obtain ⟨c, tl, hmro⟩ := F.called_set.mro
  have m1 := F.called_set.made
  have m2 := F.called_set.sub
  have m3 := F.called_set.notType
  have m4 := F.called_set.canCreate
  have m5 := F.typeCall_set_1 (.ref l)
  refine wpAny_call (codeAny_of_tree (show wpAny _ _ (callAny (.type "set") _) _ _ _ from wpAny_pure ⟨Code.quiet_builtin _ (by decide +kernel), codeAny_builtin F.entry_type_call ?_⟩))
  rw [Around.under_plain (weight_type_call_type "set" [.ref l] []) rfl]
  repeat (any_goals (first | assumption | wp_step))
  refine codeAny_mono (code_set_led1 (.ref l) (E := E) (Q₁ := fun obj s₁ => obj = .ref s.heap.objs.size ∧ s₁ = { s with heap := s.heap.push (mtSet w) }) ⟨rfl, rfl⟩) fun r s₁ hr => ?_
  match r, hr with
  | .error e, hr => exact hr
  | .ok (.ret obj), hr =>
    obtain ⟨rfl, rfl⟩ := hr
    have new := mt_at w s.heap
    have ty : Shared.TypeIs { s with heap := s.heap.push (mtSet w) } (.ref s.heap.objs.size) "set" := ⟨_, new, rfl⟩
    have m6 := F.called_set.init.lookup
    have m7 := F.called_set.init.bind (.ref s.heap.objs.size)
    repeat (any_goals (first | assumption | wp_step))
    refine codeAny_mono (codeAny_call_builtin (R := wants (fun r s₂ => r = .none ∧ SetDone w s ns s₂) E) F.called_set.init.plain F.entry_set_init (check_set_init_1 ty ?_)) fun r₂ s₂ hr₂ => ?_
    · obtain ⟨⟨ocls, odict, odata, oslots⟩, hol, hcl, nl, hdl⟩ := hl
      simp only at hcl hdl
      subst hcl; subst hdl
      have lt : l < s.heap.objs.size := Heap.lt_size hol
      have old : (s.heap.push (mtSet w)).get? l = some { cls := .type "list", dict := odict, data := .seq items nl, slots := oslots } := Heap.get?_push_of_some _ hol
      have il : (s.heap.push (mtSet w)).IsList l items := ⟨_, old, rfl, nl, rfl⟩
      have n1 := F.sub_list_set
      have n2 := F.sub_list_frozenset
      have n3 : (Value.type "list" == Value.type "dict") = false := by decide
      have sz : (s.heap.push (mtSet w)).objs.size = s.heap.objs.size + 1 := Heap.size_push ..
      unfold Builtin.«set.__init__» noKeywords Builtin.Frozenset.updateFrom
      generalize hPI : pyIter = PI
      wp_walk
      subst hPI
      refine wpAny_pyIter_list il (wpAny_bind (wpAny_runValue ?_))
      have apart : l ≠ (s.heap.push (mtSet w)).objs.size := by rw [sz]; exact Nat.ne_of_lt (Nat.lt_succ_of_lt lt)
      refine set_update_ints (P := P) (w := w) ((Walks.list (show A.in1.in1.in1.handled = none by simp [hh]) _ l apart items).toS) s.heap.objs.size ?_ ns hsz hb (fun i v hv => ?_) (items.size - 0) 0 _ (by omega) (Nat.zero_le _)
        ⟨⟨_, Heap.get?_push_size _ rfl, rfl, rfl⟩, il.push _⟩ ⟨0, Nat.le_refl 0, setR_new_at (Heap.get?_push_of_some _ new)⟩ fun s' c' hm hc' hS' => ?_
      · rw [sz]
        intro z
        rcases List.mem_cons.mp z with z | z
        · exact absurd z (Nat.ne_of_lt (Nat.lt_succ_self _))
        · rcases List.mem_cons.mp z with z | z
          · exact absurd z (Nat.ne_of_gt lt)
          · cases z
      · have hi : i < ns.length := by rw [← hsz]; exact (Array.getElem?_eq_some_iff.mp hv).1
        obtain ⟨t, e⟩ := PyProof.Rows.IntsAre.int_at hit i v (by rw [Array.getElem?_toList]; exact hv)
        exact ⟨ns[i], t, List.getElem?_eq_getElem hi, by rw [e, List.getD_eq_getElem?_getD, List.getElem?_eq_getElem hi] <;> rfl⟩
      · obtain ⟨h', g2, d', tk', os'⟩ := s'
        obtain rfl : g2 = s.gens := hm.gens
        obtain rfl : d' = s.drawn := hm.drawn
        obtain rfl : os' = s.os := hm.os
        refine wpAny_pure (show wpAny _ _ (ret Value.none) _ _ _ from wpAny_pure ⟨rfl, h', tk', c', rfl, hS', by omega, fun b o e => ?_⟩)
        have lb : b < s.heap.objs.size := Heap.lt_size e
        refine hm.heap b o (fun z => ?_) (Heap.get?_push_of_some _ (Heap.get?_push_of_some _ e))
        rcases List.mem_cons.mp z with z | z
        · exact absurd z (Nat.ne_of_lt lb)
        · rcases List.mem_cons.mp z with z | z
          · rw [sz] at z
            exact absurd z (Nat.ne_of_lt (Nat.lt_succ_of_lt lb))
          · cases z
    · match r₂, hr₂ with
      | .error e, hr₂ => exact hr₂
      | .ok (.ret r), hr₂ =>
        obtain ⟨rfl, done⟩ := hr₂
        repeat (any_goals (first | assumption | wp_step))
        exact h _ done
end
/-- set(xs) -/
def rSetL (K : PySem.W.Frag) (w : World) : List V → Hp → VK → Prop := fun xs H Q => ∃ (a : Addr) (ns : List Int), xs = [.ref a] ∧ SqL K H a (ns.map V.int) ∧ ns.length + 1 < scanBound ∧
  ∀ p c, H p = none → c ≤ ns.length → Q (.ref p) (upd H p (SetO w p (fun j => decide (j ∈ ns)) c))
theorem ints_of : ∀ {ns : List Int} {us : List Value}, Vals (ns.map V.int) us → IntsAre us ns
  | [], [], .nil => .nil
  | n :: _, _ :: _, .cons ⟨t, e⟩ r => by
    subst e
    exact .cons n t (ints_of r)
theorem cr_setL {X : Cx} (hc : X.calm = true) : CallR X (.type "set") (rSetL X.K X.w) := by
  intro pins s σ H xs us Q I r h
  obtain ⟨a, ns, rfl, hs, hb, q⟩ := h
  obtain ⟨u, rfl, ru⟩ := vals1 r
  cases ru
  obtain ⟨its, rv, p, hz⟩ := I.list hs
  refine set_of_list ns (I.ok.hd hc) p.isList (by simpa using ints_of rv) hb fun s₂ ⟨h', tk, c, e, R, hc', k⟩ => ?_
  subst e
  exact ⟨.ref s.heap.objs.size, _, I.laid (t' := tk) k (Nat.le_refl _) (setO_new R), rfl, q _ c (I.hok.fresh (Nat.le_refl _)) hc'⟩
end Jg

/-! comprehensions that filter ints: [m for m in .. if test], the test pure -/
namespace Jg
open PySem PySem.Spec PyProof.Rows L2
def win (lo : Int) (n : Nat) : List Int := (List.range n).map fun j => lo + (j : Nat)
theorem win_succ (lo : Int) (n : Nat) : win lo (n + 1) = win lo n ++ [lo + (n : Nat)] := by
  unfold win
  rw [List.range_succ, List.map_append]; rfl
theorem win_len (lo : Int) (n : Nat) : (win lo n).length = n := by unfold win; simp
/-- the shape that a list comprehension's reading asks -/
abbrev LcAsk (J : It) (g : TG) (tt : TT) (te : TE) (vs : List Nat) (σ : L2.St) (H1 : Hp) (D : Addr) (Qd : Hp → Prop) : Prop :=
  ∃ W : Nat → Nat → Hp → Prop, (∃ m, W 0 m (upd H1 D (.lst []))) ∧ ∀ i m H, W i m H →
      (J.stop i H ∧ Qd H) ∨ (J.go i H ∧ ∃ Nx : Hp → Prop, (∀ H', Nx H' → ∃ m', m' < m ∧ W (i + 1) m' H') ∧ ∀ x H', J.yld i H x H' → g x (wipe σ vs) H' fun σ2 H2 => wipe σ2 vs = wipe σ vs ∧ tt σ2 H2 fun b H3 =>
        if b = true then te σ2 H3 fun y H4 => ∃ acc, H4 D = some (.lst acc) ∧ acc.length < sizeLine ∧ Nx (upd H4 D (.lst (acc ++ [y]))) else Nx H3)
section
variable {i : Nat} {tt : TT} {σ : L2.St} {H1 : Hp} {D : Addr} {Qd : Hp → Prop} {vs : List Nat}
theorem filt_step {p : Int → Bool} {ms : List Int} {m : Int} (nD : H1 D = none) (hl : ms.length < 1000) (hw : wipe ((wipe σ vs).set i (some (.int m))) vs = wipe σ vs) (hi : ((wipe σ vs).set i (some (.int m)))[i]? = some (some (.int m)))
    (ht : ∀ H (k : Bool → Hp → Prop), Same H1 H → k (p m) H → tt ((wipe σ vs).set i (some (.int m))) H k) (Pv : Hp → Prop) (hP : Pv (upd H1 D (.lst (((ms ++ [m]).filter p).map V.int)))) :
    gName i (.int m) (wipe σ vs) (upd H1 D (.lst ((ms.filter p).map V.int))) fun σ2 H2 => wipe σ2 vs = wipe σ vs ∧ tt σ2 H2 fun b H3 =>
      if b = true then tVar i σ2 H3 fun y H4 => ∃ acc, H4 D = some (.lst acc) ∧ acc.length < sizeLine ∧ Pv (upd H4 D (.lst (acc ++ [y]))) else Pv H3 := by
  refine ⟨hw, ht _ _ (fun b o e => by rw [upd_ne (ne_of_none e nD)]; exact e) ?_⟩
  have e1 : (ms ++ [m]).filter p = ms.filter p ++ [m].filter p := List.filter_append ..
  cases hp : p m with
  | true =>
    have e2 : [m].filter p = [m] := by simp [List.filter, hp]
    rw [e1, e2, List.map_append] at hP
    refine iteT ⟨.int m, hi, _, upd_same, ?_, ?_⟩
    · rw [List.length_map]
      exact small1000 (Nat.le_trans (List.length_filter_le ..) (Nat.le_of_lt hl))
    · rw [upd_upd]
      exact hP
  | false =>
    have e2 : [m].filter p = [] := by simp [List.filter, hp]
    rw [e1, e2, List.append_nil] at hP
    exact iteF hP
theorem lcf_range {lo : Int} {n : Nat} (p : Int → Bool) (nD : H1 D = none) (hn : n ≤ 900) (hw : ∀ m : Int, wipe ((wipe σ vs).set i (some (.int m))) vs = wipe σ vs) (hi : ∀ m : Int, ((wipe σ vs).set i (some (.int m)))[i]? = some (some (.int m)))
    (ht : ∀ (m : Int) H (k : Bool → Hp → Prop), m ∈ win lo n → Same H1 H → k (p m) H → tt ((wipe σ vs).set i (some (.int m))) H k) (hd : Qd (upd H1 D (.lst (((win lo n).filter p).map V.int)))) :
    LcAsk (Itr lo n) (gName i) tt (tVar i) vs σ H1 D Qd := by
  refine lc_range (lo := lo) (n := n) (fun j H => H = upd H1 D (.lst (((win lo j).filter p).map V.int))) rfl (fun j H hj e => ?_) fun H e => e ▸ hd
  subst e
  have hm : lo + (j : Nat) ∈ win lo n := List.mem_map.mpr ⟨j, List.mem_range.mpr hj, rfl⟩
  exact filt_step (p := p) nD (by rw [win_len]; omega) (hw _) (hi _) (fun H k => ht _ H k hm) (fun H => H = upd H1 D (.lst (((win lo (j + 1)).filter p).map V.int))) (by rw [win_succ])
theorem lcf_list {K : PySem.W.Frag} {a : Addr} {ms : List Int} (p : Int → Bool) (hs : SqL K H1 a (ms.map V.int)) (nD : H1 D = none) (hn : ms.length ≤ 900) (hw : ∀ m : Int, wipe ((wipe σ vs).set i (some (.int m))) vs = wipe σ vs) (hi : ∀ m : Int, ((wipe σ vs).set i (some (.int m)))[i]? = some (some (.int m)))
    (ht : ∀ (m : Int) H (k : Bool → Hp → Prop), m ∈ ms → Same H1 H → k (p m) H → tt ((wipe σ vs).set i (some (.int m))) H k) (hd : Qd (upd H1 D (.lst ((ms.filter p).map V.int)))) :
    LcAsk (Itl K a) (gName i) tt (tVar i) vs σ H1 D Qd := by
  have sn : ∀ o, Same H1 (upd H1 D o) := fun o b u e => by rw [upd_ne (ne_of_none e nD)]; exact e
  refine lc_list (K := K) (a := a) (xs := ms.map V.int) (fun j H => H = upd H1 D (.lst (((ms.take j).filter p).map V.int))) rfl (fun j H _ e => e ▸ (sn _).seq hs) (fun j x H hx e => ?_) fun H e => ?_
  · subst e
    rw [List.getElem?_map] at hx
    cases hm : ms[j]? with
    | none => rw [hm] at hx; cases hx
    | some m =>
      rw [hm] at hx
      cases hx
      have e2 : ms.take (j + 1) = ms.take j ++ [m] := by rw [List.take_add_one, hm]; rfl
      exact filt_step (p := p) nD (by rw [List.length_take]; omega) (hw _) (hi _) (fun H k => ht _ H k (List.mem_of_getElem? hm)) (fun H => H = upd H1 D (.lst (((ms.take (j + 1)).filter p).map V.int))) (by rw [e2])
  · rw [List.length_map, List.take_length] at e
    exact e ▸ hd
end
/-! ### strictly sorted lists of ints -/
theorem sorted_ext : ∀ {xs ys : List Int}, xs.Pairwise (· < ·) → ys.Pairwise (· < ·) → (∀ k, k ∈ xs ↔ k ∈ ys) → xs = ys
  | [], [], _, _, _ => rfl
  | [], y :: ys, _, _, h => absurd ((h y).mpr List.mem_cons_self) (by simp)
  | x :: xs, [], _, _, h => absurd ((h x).mp List.mem_cons_self) (by simp)
  | x :: xs, y :: ys, h1, h2, h => by
    obtain ⟨a1, a2⟩ := List.pairwise_cons.mp h1
    obtain ⟨b1, b2⟩ := List.pairwise_cons.mp h2
    have e : x = y := by
      have m1 := (h x).mp List.mem_cons_self
      have m2 := (h y).mpr List.mem_cons_self
      rcases List.mem_cons.mp m1 with z | z
      · exact z
      · rcases List.mem_cons.mp m2 with z' | z'
        · exact z'.symm
        · have := b1 x z
          have := a1 y z'
          omega
    subst e
    have t : xs = ys := sorted_ext a2 b2 fun k => by
      constructor
      · intro hk
        rcases List.mem_cons.mp ((h k).mp (List.mem_cons_of_mem _ hk)) with z | z
        · have := a1 k hk; omega
        · exact z
      · intro hk
        rcases List.mem_cons.mp ((h k).mpr (List.mem_cons_of_mem _ hk)) with z | z
        · have := b1 k hk; omega
        · exact z
    rw [t]
theorem win_sorted (lo : Int) (n : Nat) : (win lo n).Pairwise (· < ·) := by
  unfold win
  rw [List.pairwise_map]
  exact List.pairwise_lt_range.imp fun h => by omega
theorem mem_win {lo : Int} {n : Nat} {m : Int} : m ∈ win lo n ↔ lo ≤ m ∧ m < lo + n := by
  unfold win
  constructor
  · intro h
    obtain ⟨j, hj, rfl⟩ := List.mem_map.mp h
    have := List.mem_range.mp hj
    omega
  · intro h
    exact List.mem_map.mpr ⟨(m - lo).toNat, List.mem_range.mpr (by omega), by omega⟩
/-- the last item, the first one given -/
def lastOf (x : Int) : List Int → Int
  | [] => x
  | y :: r => lastOf y r
/-- how many there are at most between the first and the last, and when all of them are there -/
theorem tight : ∀ (x : Int) (l : List Int), (x :: l).Pairwise (· < ·) → x ≤ lastOf x l ∧ ((x :: l).length : Int) ≤ lastOf x l - x + 1 ∧ (((x :: l).length : Int) = lastOf x l - x + 1 ↔ ∀ m, x ≤ m → m ≤ lastOf x l → m ∈ x :: l)
  | x, [], _ => by
    refine ⟨Int.le_refl _, by show (1 : Int) ≤ x - x + 1; omega, ⟨fun _ m h1 h2 => ?_, fun _ => by show (1 : Int) = x - x + 1; omega⟩⟩
    have h3 : m ≤ x := h2
    have e : m = x := by omega
    rw [e]; exact List.mem_cons_self
  | x, y :: r, h => by
    obtain ⟨a1, a2⟩ := List.pairwise_cons.mp h
    have hxy := a1 y List.mem_cons_self
    obtain ⟨i1, i2, i3⟩ := tight y r a2
    have el : lastOf x (y :: r) = lastOf y r := rfl
    have en : ((x :: y :: r).length : Int) = ((y :: r).length : Int) + 1 := by simp
    rw [el, en]
    refine ⟨by omega, by omega, ⟨fun e m h1 h2 => ?_, fun q => ?_⟩⟩
    · have e1 : y = x + 1 := by omega
      by_cases c : m = x
      · rw [c]; exact List.mem_cons_self
      · exact List.mem_cons_of_mem _ (i3.mp (by omega) m (by omega) h2)
    · have e1 : y = x + 1 := by
        have m1 := q (x + 1) (by omega) (by omega)
        rcases List.mem_cons.mp m1 with z | z
        · omega
        · rcases List.mem_cons.mp z with z | z
          · exact z.symm
          · have := (List.pairwise_cons.mp a2).1 _ z
            omega
      have e2 := i3.mpr fun m h1 h2 => by
        rcases List.mem_cons.mp (q m (by omega) h2) with z | z
        · omega
        · exact z
      omega
theorem lastOf_get : ∀ (x : Int) (l : List Int), (x :: l)[l.length]? = some (lastOf x l)
  | x, [] => rfl
  | x, y :: r => by
    show (y :: r)[r.length]? = _
    exact lastOf_get y r
end Jg

/-! lists and tuples of ints as data: == and what it asks -/
namespace Jg
open PySem PySem.Spec PyProof.Rows L2
theorem lay_ints : ∀ xs : List Int, PyData.canLayAll0 (xs.map PyData.int) = true
  | [] => rfl
  | x :: xs => by
    show (PyData.canLay0 (.int x) && PyData.canLayAll0 (xs.map PyData.int)) = true
    rw [lay_ints xs]; rfl
theorem depth_ints : ∀ xs : List Int, PyData.depthAll (xs.map PyData.int) = 0
  | [] => rfl
  | x :: xs => by
    show max (PyData.depth (.int x)) (PyData.depthAll (xs.map PyData.int)) = 0
    rw [depth_ints xs]; rfl
theorem shaped_ints (xs : List Int) : SeqAt.shaped (.list (xs.map PyData.int)) = true := by
  show (PyData.canLayAll0 (xs.map PyData.int) && decide (PyData.depthAll (xs.map PyData.int) + 1 ≤ 64)) = true
  rw [lay_ints, depth_ints]; rfl
theorem shaped_tup (xs : List Int) : SeqAt.shaped (.tuple (xs.map PyData.int)) = true := by
  show (PyData.canLayAll0 (xs.map PyData.int) && decide (PyData.depthAll (xs.map PyData.int) + 1 ≤ 64)) = true
  rw [lay_ints, depth_ints]; rfl
theorem eqvAll_ints : ∀ xs ys : List Int, PyData.eqvAll (xs.map PyData.int) (ys.map PyData.int) = decide (xs = ys)
  | [], [] => rfl
  | [], y :: ys => rfl
  | x :: xs, [] => rfl
  | x :: xs, y :: ys => by
    have ih := eqvAll_ints xs ys
    show (PyData.eqv (.int x) (.int y) && PyData.eqvAll (xs.map PyData.int) (ys.map PyData.int)) = _
    rw [ih]
    have e : PyData.eqv (.int x) (.int y) = decide (x = y) := by
      by_cases c : x = y
      · subst c; simp [PyData.eqv]
      · simp [PyData.eqv, c]
    rw [e]
    by_cases c : x = y
    · subst c
      by_cases d : xs = ys
      · subst d; simp
      · simp [d]
    · simp [c]
theorem eqv_ints (xs ys : List Int) : PyData.eqv (.list (xs.map PyData.int)) (.list (ys.map PyData.int)) = decide (xs = ys) := by
  rw [PyData.eqv]; exact eqvAll_ints xs ys
theorem eqv_tup (xs ys : List Int) : PyData.eqv (.tuple (xs.map PyData.int)) (.tuple (ys.map PyData.int)) = decide (xs = ys) := by
  rw [PyData.eqv]; exact eqvAll_ints xs ys
theorem dpAll_ints {K : PySem.W.Frag} {H : Hp} : ∀ xs : List Int, DpAll K H (xs.map V.int) (xs.map PyData.int)
  | [] => .nil
  | x :: xs => .cons (.int x) (dpAll_ints xs)
theorem dp_ints {K : PySem.W.Frag} {H : Hp} {a : Addr} {xs : List Int} (h : SqL K H a (xs.map V.int)) : Dp K H (.ref a) (.list (xs.map PyData.int)) := .lst h (dpAll_ints xs)
theorem dp_tup {K : PySem.W.Frag} {H : Hp} {a : Addr} {xs : List Int} (h : SqT K H a (xs.map V.int)) : Dp K H (.ref a) (.tuple (xs.map PyData.int)) := .tup h (dpAll_ints xs)
/-- == of two lists of ints, of two tuples of ints -/
theorem ask_eqL {K : PySem.W.Frag} {H : Hp} {a b : Addr} {xs ys : List Int} {Q : VK} (h1 : SqL K H a (xs.map V.int)) (h2 : SqL K H b (ys.map V.int)) (q : Q (.bl (decide (xs = ys))) H) : rEqD K (.ref a) (.ref b) H Q :=
  ⟨_, _, dp_ints h1, dp_ints h2, shaped_ints xs, shaped_ints ys, by rw [eqv_ints]; exact q⟩
theorem ask_neL {K : PySem.W.Frag} {H : Hp} {a b : Addr} {xs ys : List Int} {Q : VK} (h1 : SqL K H a (xs.map V.int)) (h2 : SqL K H b (ys.map V.int)) (q : Q (.bl (!decide (xs = ys))) H) : rNeD K (.ref a) (.ref b) H Q :=
  ⟨_, _, dp_ints h1, dp_ints h2, shaped_ints xs, shaped_ints ys, by rw [eqv_ints]; exact q⟩
theorem ask_eqT {K : PySem.W.Frag} {H : Hp} {a b : Addr} {xs ys : List Int} {Q : VK} (h1 : SqT K H a (xs.map V.int)) (h2 : SqT K H b (ys.map V.int)) (q : Q (.bl (decide (xs = ys))) H) : rEqD K (.ref a) (.ref b) H Q :=
  ⟨_, _, dp_tup h1, dp_tup h2, shaped_tup xs, shaped_tup ys, by rw [eqv_tup]; exact q⟩
theorem pair_dec {a b c d : Int} : decide ([a, b] = [c, d]) = decide ((a, b) = (c, d)) := by
  by_cases h : (a, b) = (c, d)
  · cases h; rw [decide_eq_true rfl, decide_eq_true rfl]
  · rw [decide_eq_false h, decide_eq_false fun z => h (by injection z with z1 z2; injection z2 with z2 _; rw [z1, z2])]
/-- x in a list of ints -/
theorem inV_ints {m : Int} : ∀ {xs : List Int}, inV (.int m) (xs.map V.int) = decide (m ∈ xs)
  | [] => rfl
  | x :: xs => by
    have ih := inV_ints (m := m) (xs := xs)
    show (eqV (.int x) (.int m) || inV (.int m) (xs.map V.int)) = _
    rw [ih]
    have e : eqV (.int x) (.int m) = decide (x = m) := by
      by_cases c : x = m
      · subst c; simp [eqV]
      · simp [eqV, c]
    rw [e]
    by_cases c : x = m
    · subst c; simp
    · have c' : ¬ m = x := fun z => c z.symm
      simp [c, c']
theorem flat_ints : ∀ {xs : List Int}, (xs.map V.int).all flatV = true
  | [] => rfl
  | x :: xs => by
    show (flatV (.int x) && (xs.map V.int).all flatV) = true
    rw [flat_ints]; rfl
theorem ask_in {K : PySem.W.Frag} {H : Hp} {a : Addr} {xs : List Int} {m : Int} {Q : VK} (h : SqL K H a (xs.map V.int)) (q : Q (.bl (decide (m ∈ xs))) H) : rIn K false (.int m) (.ref a) H Q :=
  ⟨a, _, rfl, .inl h, rfl, flat_ints, by
    show Q (.bl (inV (.int m) (xs.map V.int))) H
    rw [inV_ints]; exact q⟩
theorem map_cat {K : PySem.W.Frag} {H : Hp} {a : Addr} {xs ys : List Int} (h : SqL K H a (xs.map V.int ++ ys.map V.int)) : SqL K H a ((xs ++ ys).map V.int) := by rw [List.map_append]; exact h
end Jg

namespace K05
open PySem PySem.Spec PyProof.Rows L2 Jg
local macro_rules | `(tactic| walk_at "rd1") => `(tactic| (first
  | refine ⟨_, rfl, ?_⟩
  | refine ⟨_, _, rfl, rfl, ?_⟩
  | refine ⟨_, _, rfl, ?_⟩
  | refine ⟨rfl, ?_⟩
  | (refine ⟨show (0 : Int) < _ by omega, ?_⟩)
  | (refine ⟨Or.inl ⟨by omega, by omega⟩, ?_⟩)
  | (refine ⟨Or.inr ⟨by omega, by omega⟩, ?_⟩)
  | (refine ⟨(⟨by decide, by decide, by decide⟩ : CPow _ _), ?_⟩)
  | refine Or.inl ⟨_, rfl, ?_⟩
  | refine Or.inr ⟨_, rfl, ?_⟩
  | fail "rd"))
local macro_rules | `(tactic| walk_at "rd") => `(tactic| repeat' walk_at "rd1")

def top (i : Nat) : Stmt := PySem.Challenge.pw_gaplesskeys_k05_whole_ranges_as_sets.main.body.getD i (.Pass ⟨0, 0, 0, 0⟩)

theorem q_true {Q : VK} {b : Bool} {H : Hp} (e : b = true) (h : Q (.bl true) H) : Q (.bl b) H := e ▸ h
def B : Int := 10 ^ 60
theorem B_eq : B = 1000000000000000000000000000000000000000000000000000000000000 := by decide +kernel
/-! ### the data of a range -/
theorem klh : ¬ (("_low" : Str) = "_high") := by decide +kernel
theorem khl : ¬ (("_high" : Str) = "_low") := by decide +kernel
def flds (r : Int × Int) : List (Str × V) := [("_low", .int r.1), ("_high", .int r.2)]
theorem put_hi (lo hi : Int) : putF "_high" (.int hi) [(("_low" : Str), V.int lo)] = flds (lo, hi) := by
  show (if ("_low" : Str) = "_high" then _ else _) = _
  rw [if_neg klh]; rfl
theorem put_lo2 (r : Int × Int) (z : Int) : putF "_low" (.int z) (flds r) = flds (z, r.2) := by
  show (if ("_low" : Str) = "_low" then _ else _) = _
  rw [if_pos rfl]; rfl
theorem put_hi2 (r : Int × Int) (z : Int) : putF "_high" (.int z) (flds r) = flds (r.1, z) := by
  show (if ("_low" : Str) = "_high" then _ else _ :: (if ("_high" : Str) = "_high" then _ else _)) = _
  rw [if_neg klh, if_pos rfl]; rfl
theorem get_lo (r : Int × Int) : (flds r).lookup ("_low" : Str) = some (.int r.1) := by
  have e : ((("_low" : Str)) == ("_low" : Str)) = true := by decide +kernel
  simp only [flds, List.lookup, e]
theorem get_hi (r : Int × Int) : (flds r).lookup ("_high" : Str) = some (.int r.2) := by
  have e1 : ((("_high" : Str)) == ("_low" : Str)) = false := by decide +kernel
  have e2 : ((("_high" : Str)) == ("_high" : Str)) = true := by decide +kernel
  simp only [flds, List.lookup, e1, e2]
theorem get_no (r : Int × Int) {m : Str} (h1 : (m == ("_low" : Str)) = false) (h2 : (m == ("_high" : Str)) = false) : (flds r).lookup m = none := by
  simp only [flds, List.lookup, h1, h2]
/-- a range stands at p -/
def RAt (C : Addr) (H : Hp) (p : Addr) (r : Int × Int) : Prop := ∃ dx, H p = some (.ins C dx (flds r))
def oV : Option Int → V
  | none => .non
  | some i => .int i
/-- the pair that __init__ keeps -/
def mkR (f : Int) : Option Int → Int × Int
  | none => (f, B)
  | some l => if l < f then (-B, -B - 1) else (f, l)
def Bnd (i : Int) : Prop := -B < i ∧ i < B
def BndO : Option Int → Prop
  | none => True
  | some i => Bnd i
/-- what the walk asks of the text -/
structure Txt (K : PySem.W.Frag) (mg : Str → Option Value) (C : Addr) : Prop where
  cl : Cls K C
  nl : NoAttr K C "_low"
  nh : NoAttr K C "_high"
  sf : PySem.W.selfFirst K C = true
  cRange : mg "Range" = some (.ref C)
  gBOUND : ∃ u, mg "BOUND" = some u ∧ L2.RelV (.int B) u
  b_isinstance : mg "isinstance" = none
  b_int : mg "int" = none
  b_bool : mg "bool" = none
  b_str : mg "str" = none
  b_len : mg "len" = none
  b_max : mg "max" = none
  b_min : mg "min" = none
  b_range : mg "range" = none
  b_repr : mg "repr" = none
  b_sorted : mg "sorted" = none
  b_set : mg "set" = none
  cls_ : PySem.W.findIn K (.ref C) "__class__" = some (some (.builtin "object.__class__"))
  cgt : PySem.W.specialIn K (.builtin "object.__class__") "__get__" = some (some (.builtin "getset_descriptor.__get__"))
  ctk : PySem.W.takesIn K (.builtin "object.__class__") = some true
  mro : PySem.W.mroIn K C (.type "object") = some true
  kCC : PySem.W.kitOne K (.ref C) (.ref C) = some true
  kN : PySem.W.kitOne K (.type "NoneType") (.ref C) = some false
  kB : PySem.W.kitOne K (.type "bool") (.ref C) = some false
  kI : PySem.W.kitOne K (.type "int") (.ref C) = some false
  kS : PySem.W.kitOne K (.type "str") (.ref C) = some false
  kL : PySem.W.kitOne K (.type "list") (.ref C) = some false
  kT : PySem.W.kitOne K (.type "tuple") (.ref C) = some false
  kD : PySem.W.kitOne K (.type "dict") (.ref C) = some false
  kCi : PySem.W.kitOne K (.ref C) (.type "int") = some false
  oCC : PySem.W.notFirst K C (.ref C) = true
/-- other values than ranges and integers: what isinstance says of their types -/
structure OddTy (K : PySem.W.Frag) (C : Addr) (t : Value) : Prop where
  c : PySem.W.kitOne K t (.ref C) = some false
  i : ∃ b1 b2, PySem.W.kitOne K t (.type "int") = some b1 ∧ PySem.W.kitOne K t (.type "bool") = some b2 ∧ (b1 && !b2) = false
section
variable {K : PySem.W.Frag} {mg : Str → Option Value} {C : Addr}
theorem Txt.ty (T : Txt K mg C) {H : Hp} {p : Addr} {r : Int × Int} (h : RAt C H p r) : TyX K H (.ref p) (.ref C) :=
  let ⟨_, e⟩ := h
  .base (.ins e T.cl T.cls_ T.cgt T.ctk T.mro)
end
/-! ### promises -/
abbrev kit (K : PySem.W.Frag) (t : Value) (n : String) (b : Bool) : Prop := PySem.W.kitOne K t (.type n) = some b
def spIsInt (K : PySem.W.Frag) : Sp := fun vs H Q _ => ∃ x t b1 b2, vs = [x] ∧ TyX K H x t ∧ kit K t "int" b1 ∧ (b1 = true → kit K t "bool" b2) ∧ Q (.bl (b1 && !b2)) H
theorem kii {K : PySem.W.Frag} : kit K (.type "int") "int" true := kit_ty (by decide +kernel)
theorem kib {K : PySem.W.Frag} : kit K (.type "int") "bool" false := kit_ty (by decide +kernel)
/-- of an integer, or of a value that is none -/
def spBnd (K : PySem.W.Frag) : Sp := fun vs H Q _ => (∃ i, vs = [.int i] ∧ Q (.bl (decide (-B < i) && decide (i < B))) H) ∨
  (∃ x t b1 b2, vs = [x] ∧ TyX K H x t ∧ kit K t "int" b1 ∧ (b1 = true → kit K t "bool" b2) ∧ (b1 && !b2) = false ∧ Q (.bl false) H)
def spInit (C : Addr) : Sp := fun vs H Q _ => ∃ x dx f l, vs = [.ref x, .int f, oV l] ∧ H x = some (.ins C dx []) ∧ Bnd f ∧ BndO l ∧
  ∀ H', RAt C H' x (mkR f l) → (∀ b o, H b = some o → b ≠ x → H' b = some o) → Q .non H'
section
variable {P : Program} {w : World} {K : PySem.W.Frag} {mg : Str → Option Value} {base : Heap} {C : Addr}
abbrev s_is_integer : Stmt := top 7
theorem sc_is_integer : FnScope ["value"] ["value"] (defScope s_is_integer) := ⟨rfl, rfl, rfl, by decide +kernel, rfl, by decide +kernel, by decide +kernel⟩
theorem ok_is_integer (D : DefK K mg "is_integer" s_is_integer) (T : Txt K mg C) : Cal P w K mg base CX0 1 "is_integer" (spIsInt K) := by
  refine D.cal sc_is_integer (fun _ _ _ _ _ _ us hl => match us, hl with | [_], _ => rfl) (fun vs H Q E h => ?_) fun f cdv A outer s H vs Q E hr h => ?_
  · obtain ⟨x, t, b1, b2, rfl, _⟩ := h; rfl
  · obtain ⟨x, t, b1, b2, rfl, ty, k1, k2, q⟩ := h
    refine ⟨_, (pss_one (ps_ret (pe_and (pe_callB call_isi (by rfl) T.b_isinstance (by decide +kernel) (pa_cons (pv 0) (pa_cons (pe_ty (n := "int") (by rfl) T.b_int (by decide +kernel)) pa_nil))) (pe_one (pe_not (pe_callB call_isi (by rfl) T.b_isinstance (by decide +kernel) (pa_cons (pv 0) (pa_cons (pe_ty (n := "bool") (by rfl) T.b_bool (by decide +kernel)) pa_nil)))))))), ?_⟩
    refine ⟨_, rfl, x, .ty "int", t, _, b1, rfl, .ty "int", ty, k1, b1, rfl, ?_⟩
    cases b1 with
    | false => exact iteF q
    | true => exact iteT ⟨_, rfl, x, .ty "bool", t, _, b2, rfl, .ty "bool", ty, k2 rfl, b2, rfl, q⟩
abbrev s_is_bounded : Stmt := top 8
theorem sc_is_bounded : FnScope ["value"] ["value"] (defScope s_is_bounded) := ⟨rfl, rfl, rfl, by decide +kernel, rfl, by decide +kernel, by decide +kernel⟩
theorem ok_is_bounded (D : DefK K mg "is_bounded" s_is_bounded) (T : Txt K mg C) (G_is_integer : Cal P w K mg base CX0 1 "is_integer" (spIsInt K)) : Cal P w K mg base CX0 2 "is_bounded" (spBnd K) := by
  refine D.cal sc_is_bounded (fun _ _ _ _ _ _ us hl => match us, hl with | [_], _ => rfl) (fun vs H Q E h => ?_) fun f cdv A outer s H vs Q E hr h => ?_
  · rcases h with ⟨i, rfl, _⟩ | ⟨x, t, b1, b2, rfl, _⟩ <;> rfl
  · refine ⟨_, (pss_one (ps_ret (pe_and (pe_c G_is_integer hr (by decide) rfl (pa_cons (pv 0) pa_nil)) (pe_one (pe_chain op_lt op_lt (pe_un un_neg (pe_gc rfl T.gBOUND)) (pv 0) (pe_gc rfl T.gBOUND)))))), ?_⟩
    rcases h with ⟨i, rfl, q⟩ | ⟨x, t, b1, b2, rfl, ty, k1, k2, e, q⟩
    · refine ⟨_, rfl, .int i, _, true, false, rfl, .base (.int i), kii, fun _ => kib, true, rfl, iteT ?_⟩
      refine ⟨B, rfl, _, rfl, -B, i, rfl, rfl, _, rfl, ?_⟩
      by_cases c : -B < i
      · rw [decide_eq_true c]
        refine iteT ?_
        rw [decide_eq_true c] at q
        exact ⟨i, B, rfl, rfl, q⟩
      · rw [decide_eq_false c]
        refine iteF ?_
        rw [decide_eq_false c] at q
        exact q
    · refine ⟨_, rfl, x, t, b1, b2, rfl, ty, k1, k2, _, rfl, ?_⟩
      rw [e]
      exact iteF q
abbrev s_Range_init : Stmt := inClass (top 14) 0
theorem sc_Range_init : FnScope ["self", "first", "last"] ["self", "first", "last"] (defScope s_Range_init) := ⟨rfl, rfl, rfl, by decide +kernel, rfl, by decide +kernel, by decide +kernel⟩
theorem ok_init (D : MetK K C "__init__" "Range.__init__" s_Range_init) (T : Txt K mg C) (G_is_bounded : Cal P w K mg base CX0 2 "is_bounded" (spBnd K)) : Met P w K mg base CX0 3 C "__init__" (spInit C) := by
  refine D.met sc_Range_init (fun _ _ _ _ _ _ us hl => match us, hl with | [_, _, _], _ => rfl) (fun vs H Q E h => ?_) fun f cdv A outer s H vs Q E hr h => ?_
  · obtain ⟨x, dx, f, l, rfl, _⟩ := h; rfl
  · obtain ⟨x, dx, f, l, rfl, hx, bf, bl, q⟩ := h
    refine ⟨_, (pss_cons (ps_if (pt_not (pt_val (pe_c G_is_bounded hr (by decide) rfl (pa_cons (pv 1) pa_nil)))) (pss_one ps_never) pss_nil)
      (pss_cons (ps_if (PW.pt (pw_and (pt_cmpR op_notN (pv 2) pe_non (nomark _)) (pw_and1 (pt_not (pt_val (pe_c G_is_bounded hr (by decide) rfl (pa_cons (pv 2) pa_nil))))))) (pss_one ps_never) pss_nil)
      (pss_cons (ps_fld (pv 0) (pv 1) rfl)
      (pss_cons (ps_fld (pv 0) (pe_ifExp (pt_cmpR op_isN (pv 2) pe_non (nomark _)) (pe_gc rfl T.gBOUND) (pv 2)) rfl)
      (pss_one (ps_if (pt_cmpR op_lt (pe_fld (pv 0) rfl) (pe_fld (pv 0) rfl) (nomark _)) (pss_cons (ps_fld (pv 0) (pe_un un_neg (pe_gc rfl T.gBOUND)) rfl)
      (pss_one (ps_fld (pv 0) (pe_op op_sub (pe_un un_neg (pe_gc rfl T.gBOUND)) pe_int) rfl))) pss_nil)))))), ?_⟩
    have bB : (decide (-B < f) && decide (f < B)) = true := by rw [decide_eq_true bf.1, decide_eq_true bf.2]; rfl
    refine ⟨_, rfl, .inl ⟨f, rfl, _, rfl, ?_⟩⟩
    rw [bB]
    refine iteF ?_
    -- last is none, or a moment too
    have go : ∀ (D : Ends) (sg : L2.St), (decide (oV l = V.non) = true ∨ ∃ i, l = some i) → True := fun _ _ _ => trivial
    have npos : (0 : Nat) < 1000 := by decide
    have one : (1 : Nat) < 1000 := by decide
    have two : (2 : Nat) < 1000 := by decide
    cases l with
    | none =>
      refine ⟨_, rfl, rfl, _, rfl, iteF ?_⟩
      refine ⟨_, rfl, _, rfl, x, C, dx, [], rfl, hx, T.cl, T.nl, npos, ?_⟩
      refine ⟨_, rfl, rfl, _, rfl, iteT ⟨_, rfl, x, C, dx, _, rfl, upd_same, T.cl, T.nh, one, ?_⟩⟩
      rw [upd_upd, show putF "_low" (V.int f) [] = [(("_low" : Str), V.int f)] from rfl, put_hi]
      refine ⟨_, rfl, x, C, dx, _, _, rfl, upd_same, T.cl, T.nh, get_hi _, _, rfl, x, C, dx, _, _, rfl, upd_same, T.cl, T.nl, get_lo _, _, _, rfl, rfl, _, rfl, ?_⟩
      have nl : ¬ B < f := by have := bf.2; omega
      rw [decide_eq_false nl]
      refine iteF (q _ ⟨dx, upd_same⟩ fun b o e n => ?_)
      rw [upd_ne n]; exact e
    | some i =>
      have bi : (decide (-B < i) && decide (i < B)) = true := by rw [decide_eq_true bl.1, decide_eq_true bl.2]; rfl
      refine ⟨_, rfl, rfl, _, rfl, iteT ⟨_, rfl, .inl ⟨i, rfl, _, rfl, ?_⟩⟩⟩
      rw [bi]
      refine iteF ?_
      refine ⟨_, rfl, _, rfl, x, C, dx, [], rfl, hx, T.cl, T.nl, npos, ?_⟩
      refine ⟨_, rfl, rfl, _, rfl, iteF ⟨_, rfl, _, rfl, x, C, dx, _, rfl, upd_same, T.cl, T.nh, one, ?_⟩⟩
      rw [upd_upd, show putF "_low" (V.int f) [] = [(("_low" : Str), V.int f)] from rfl, show oV (some i) = V.int i from rfl, put_hi]
      refine ⟨_, rfl, x, C, dx, _, _, rfl, upd_same, T.cl, T.nh, get_hi _, _, rfl, x, C, dx, _, _, rfl, upd_same, T.cl, T.nl, get_lo _, _, _, rfl, rfl, _, rfl, ?_⟩
      by_cases c : i < f
      · rw [decide_eq_true c]
        refine iteT ⟨_, rfl, _, rfl, x, C, dx, _, rfl, upd_same, T.cl, T.nl, two, ?_⟩
        rw [put_lo2, upd_upd]
        refine ⟨_, rfl, _, _, rfl, rfl, _, rfl, x, C, dx, _, rfl, upd_same, T.cl, T.nh, two, ?_⟩
        rw [put_hi2, upd_upd]
        refine q _ ⟨dx, ?_⟩ fun b o e n => ?_
        · rw [upd_same]
          show some (HO.ins C dx (flds (-B, -B - 1))) = some (HO.ins C dx (flds (if i < f then (-B, -B - 1) else (f, i))))
          rw [if_pos c]
        · rw [upd_ne n]; exact e
      · rw [decide_eq_false c]
        refine iteF (q _ ⟨dx, ?_⟩ fun b o e n => ?_)
        · rw [upd_same]
          show some (HO.ins C dx (flds (f, i))) = some (HO.ins C dx (flds (if i < f then (-B, -B - 1) else (f, i))))
          rw [if_neg c]
        · rw [upd_ne n]; exact e
end

/-! ### covers, in, is_before -/
def cov (r o : Int × Int) : Bool := if o.2 < o.1 then true else decide (r.1 ≤ o.1) && decide (o.2 ≤ r.2)
def inR (r : Int × Int) (i : Int) : Bool := if i < r.1 then false else decide (r.2 = B) || decide (i ≤ r.2)
def bef (r o : Int × Int) : Bool := if r.2 < r.1 then true else if o.2 < o.1 then true else decide (r.2 < o.1)
def sp2 (C : Addr) (g : Int × Int → Int × Int → Bool) : Sp := fun vs H Q _ => ∃ p q r o, vs = [.ref p, .ref q] ∧ RAt C H p r ∧ RAt C H q o ∧ Q (.bl (g r o)) H
def spIn (K : PySem.W.Frag) (C : Addr) : Sp := fun vs H Q _ => ∃ p x r, vs = [.ref p, x] ∧ RAt C H p r ∧
  ((∃ q o, x = .ref q ∧ RAt C H q o ∧ Q (.bl (cov r o)) H) ∨ (∃ i, x = .int i ∧ Q (.bl (inR r i)) H) ∨ (∃ t, TyX K H x t ∧ OddTy K C t ∧ Q (.bl false) H))
section
variable {P : Program} {w : World} {K : PySem.W.Frag} {mg : Str → Option Value} {base : Heap} {C : Addr}
abbrev s_Range_covers : Stmt := inClass (top 14) 20
theorem sc_Range_covers : FnScope ["self", "other"] ["self", "other"] (defScope s_Range_covers) := ⟨rfl, rfl, rfl, by decide +kernel, rfl, by decide +kernel, by decide +kernel⟩
theorem ok_covers (D : MetK K C "covers" "Range.covers" s_Range_covers) (T : Txt K mg C) : Met P w K mg base CX0 1 C "covers" (sp2 C cov) := by
  refine D.met sc_Range_covers (fun _ _ _ _ _ _ us hl => match us, hl with | [_, _], _ => rfl) (fun vs H Q E h => ?_) fun f cdv A outer s H vs Q E hr h => ?_
  · obtain ⟨p, q, r, o, rfl, _⟩ := h; rfl
  · obtain ⟨p, q, r, o, rfl, ⟨dx, hp⟩, ⟨dy, hq⟩, k⟩ := h
    refine ⟨_, (pss_cons (ps_if (pt_cmpR op_gt (pe_fld (pv 1) rfl) (pe_fld (pv 1) rfl) (nomark _)) (pss_one (ps_ret pe_bl)) pss_nil)
      (pss_one (ps_ret (pe_and (pe_cmpR op_le (pe_fld (pv 0) rfl) (pe_fld (pv 1) rfl) (nomark _)) (pe_one (pe_cmpR op_le (pe_fld (pv 1) rfl) (pe_fld (pv 0) rfl) (nomark _))))))), ?_⟩
    refine ⟨_, rfl, q, C, dy, _, _, rfl, hq, T.cl, T.nl, get_lo _, _, rfl, q, C, dy, _, _, rfl, hq, T.cl, T.nh, get_hi _, _, _, rfl, rfl, _, rfl, ?_⟩
    by_cases c : o.2 < o.1
    · have e : cov r o = true := if_pos c
      rw [decide_eq_true c]
      rw [e] at k
      exact iteT k
    · have e : cov r o = (decide (r.1 ≤ o.1) && decide (o.2 ≤ r.2)) := if_neg c
      rw [decide_eq_false c]
      rw [e] at k
      refine iteF ⟨_, rfl, p, C, dx, _, _, rfl, hp, T.cl, T.nl, get_lo _, _, rfl, q, C, dy, _, _, rfl, hq, T.cl, T.nl, get_lo _, _, _, rfl, rfl, _, rfl, ?_⟩
      by_cases c2 : r.1 ≤ o.1
      · rw [decide_eq_true c2]
        rw [decide_eq_true c2] at k
        exact iteT ⟨_, rfl, q, C, dy, _, _, rfl, hq, T.cl, T.nh, get_hi _, _, rfl, p, C, dx, _, _, rfl, hp, T.cl, T.nh, get_hi _, _, _, rfl, rfl, k⟩
      · rw [decide_eq_false c2]
        rw [decide_eq_false c2] at k
        exact iteF k
abbrev s_Range_contains : Stmt := inClass (top 14) 15
theorem sc_Range_contains : FnScope ["self", "x"] ["self", "x"] (defScope s_Range_contains) := ⟨rfl, rfl, rfl, by decide +kernel, rfl, by decide +kernel, by decide +kernel⟩
theorem ok_contains (D : MetK K C "__contains__" "Range.__contains__" s_Range_contains) (T : Txt K mg C) (G_covers : Met P w K mg base CX0 1 C "covers" (sp2 C cov)) (G_is_integer : Cal P w K mg base CX0 1 "is_integer" (spIsInt K)) :
    Met P w K mg base CX0 2 C "__contains__" (spIn K C) := by
  refine D.met sc_Range_contains (fun _ _ _ _ _ _ us hl => match us, hl with | [_, _], _ => rfl) (fun vs H Q E h => ?_) fun f cdv A outer s H vs Q E hr h => ?_
  · obtain ⟨p, x, r, rfl, _⟩ := h; rfl
  · obtain ⟨p, x, r, rfl, ⟨dx, hp⟩, k⟩ := h
    refine ⟨_, (pss_cons (ps_if (pt_val (pe_callB call_isi (by rfl) T.b_isinstance (by decide +kernel) (pa_cons (pv 1) (pa_cons (pe_glob (v := .ref C) rfl T.cRange rfl) pa_nil)))) (pss_one (ps_ret (pe_m G_covers T.cl hr (by decide) (pv 0) (pa_cons (pv 1) pa_nil)))) pss_nil)
      (pss_cons (ps_if (PW.pt (pw_or (pt_not (pt_val (pe_c G_is_integer hr (by decide) rfl (pa_cons (pv 1) pa_nil)))) (pw_or1 (pt_cmpR op_lt (pv 1) (pe_fld (pv 0) rfl) (nomark _))))) (pss_one (ps_ret pe_bl)) pss_nil)
      (pss_one (ps_ret (pe_or (pe_cmpR op_eq (pe_fld (pv 0) rfl) (pe_gc rfl T.gBOUND) (nomark _)) (pe_one (pe_cmpR op_le (pv 1) (pe_fld (pv 0) rfl) (nomark _)))))))), ?_⟩
    rcases k with ⟨q, o, rfl, hq, k⟩ | ⟨i, rfl, k⟩ | ⟨t, ty, od, k⟩
    · refine ⟨_, rfl, .ref q, .ref C, _, _, true, rfl, .own C, T.ty hq, T.kCC, _, rfl, iteT ?_⟩
      exact ⟨_, rfl, p, dx, _, rfl, hp, get_no _ (by decide +kernel) (by decide +kernel), _, rfl, p, q, r, o, rfl, ⟨dx, hp⟩, hq, k⟩
    · refine ⟨_, rfl, .int i, .ref C, _, _, false, rfl, .own C, .base (.int i), T.kI, _, rfl, iteF ?_⟩
      refine ⟨_, rfl, .int i, _, true, false, rfl, .base (.int i), kii, fun _ => kib, _, rfl, iteF ?_⟩
      refine ⟨_, rfl, _, rfl, p, C, dx, _, _, rfl, hp, T.cl, T.nl, get_lo _, _, _, rfl, rfl, _, rfl, ?_⟩
      by_cases c : i < r.1
      · have e : inR r i = false := if_pos c
        rw [decide_eq_true c]
        rw [e] at k
        exact iteT k
      · have e : inR r i = (decide (r.2 = B) || decide (i ≤ r.2)) := if_neg c
        rw [decide_eq_false c]
        rw [e] at k
        refine iteF ⟨_, rfl, p, C, dx, _, _, rfl, hp, T.cl, T.nh, get_hi _, rfl, _, rfl, ?_⟩
        have ed : decide (V.int r.2 = V.int B) = decide (r.2 = B) := by
          by_cases c2 : r.2 = B
          · rw [c2]
            rw [decide_eq_true rfl, decide_eq_true rfl]
          · rw [decide_eq_false c2, decide_eq_false fun z => c2 (V.int.inj z)]
        rw [ed]
        by_cases c2 : r.2 = B
        · rw [decide_eq_true c2]
          rw [decide_eq_true c2] at k
          exact iteT k
        · rw [decide_eq_false c2]
          rw [decide_eq_false c2] at k
          exact iteF ⟨_, rfl, _, rfl, p, C, dx, _, _, rfl, hp, T.cl, T.nh, get_hi _, _, _, rfl, rfl, k⟩
    · obtain ⟨b1, b2, k1, k2, e⟩ := od.i
      refine ⟨_, rfl, x, .ref C, _, _, false, rfl, .own C, ty, od.c, _, rfl, iteF ?_⟩
      refine ⟨_, rfl, x, t, b1, b2, rfl, ty, k1, fun _ => k2, _, rfl, ?_⟩
      rw [e]
      exact iteT k
end

/-! ### draws -/
theorem seq_upd {K : PySem.W.Frag} {H : Hp} {l p : Addr} {xs : List V} {o : HO} (h : SqL K H l xs) (n : l ≠ p) : SqL K (upd H p o) l xs := by
  rcases h with (h | ⟨z, h⟩) | h
  · exact .inl (.inl (by rw [upd_ne n]; exact h))
  · exact .inl (.inr ⟨z, by rw [upd_ne n]; exact h⟩)
  · exact .inr h
theorem ne_dec {x y : Int} : decide (V.int x = V.int y) = decide (x = y) := by
  by_cases c : x = y
  · rw [c, decide_eq_true rfl, decide_eq_true rfl]
  · rw [decide_eq_false c, decide_eq_false fun z => c (V.int.inj z)]
def spStream (K : PySem.W.Frag) : Sp := fun vs H Q _ => ∃ (a : Addr) (ns : List Int) (k : Nat), vs = [.ref a, .int k] ∧ SqL K H a (ns.map V.int) ∧ k ≤ 1000 ∧
  ∀ p x y, H p = none → 0 ≤ x → Q (.ref p) (upd H p (.lst [.int x, .int y]))
def spDraw : Sp := fun vs H Q _ => ∃ p a b n, vs = [.ref p, .int n] ∧ H p = some (.lst [.int a, .int b]) ∧ 0 ≤ a ∧ 0 < n ∧ n.natAbs < 2 ^ 300 ∧
  ∀ v a' b', 0 ≤ v → v < n → 0 ≤ a' → Q (.int v) (upd H p (.lst [.int a', .int b']))
def spChoose (K : PySem.W.Frag) : Sp := fun vs H Q _ => ∃ p l a b xs, vs = [.ref p, .ref l] ∧ H p = some (.lst [.int a, .int b]) ∧ 0 ≤ a ∧ SqL K H l xs ∧ l ≠ p ∧ 0 < xs.length ∧ xs.length < 1000 ∧
  ∀ (i : Nat) (v : V) (a' b' : Int), xs[i]? = some v → 0 ≤ a' → Q v (upd H p (.lst [.int a', .int b']))
theorem i1000 {n : Int} (h0 : 0 ≤ n) (h : n < 1000) : n.natAbs < 2 ^ 300 := by
  have : n.natAbs < 1024 := by omega
  exact Nat.lt_of_lt_of_le this (by decide +kernel)
section
variable {P : Program} {w : World} {K : PySem.W.Frag} {mg : Str → Option Value} {base : Heap} {C : Addr}
abbrev s_law_stream : Stmt := top 16
theorem sc_law_stream : FnScope ["script", "k", "cell", "size", "mixed"] ["script", "k"] (defScope s_law_stream) := ⟨rfl, rfl, rfl, by decide +kernel, rfl, by decide +kernel, by decide +kernel⟩
theorem ok_stream (D : DefK K mg "_law_stream" s_law_stream) (T : Txt K mg C) : Cal P w K mg base CX0 1 "_law_stream" (spStream K) := by
  refine D.cal sc_law_stream (fun _ _ _ _ _ _ us hl => match us, hl with | [_, _], _ => rfl) (fun vs H Q E h => ?_) fun f cdv A outer s H vs Q E hr h => ?_
  · obtain ⟨a, ns, k, rfl, _⟩ := h; rfl
  · obtain ⟨a, ns, k, rfl, hS, hk, q⟩ := h
    refine ⟨_, (pss_cons (ps_set (i := 2) sc_law_stream.nd rfl (Or.inl rfl) pe_int)
      (pss_cons (ps_if (pt_cmpR op_lt (pv 1) (pe_callB call_len_seq (by rfl) T.b_len (by decide +kernel) (pa_cons (pv 0) pa_nil)) (nomark _)) (pss_one (ps_set (i := 2) sc_law_stream.nd rfl (Or.inl rfl) (pe_ix (r := rIxL K) ix_list (pv 0) (pv 1) (fun _ _ => rfl)))) pss_nil)
      (pss_cons (ps_set (i := 3) sc_law_stream.nd rfl (Or.inl rfl) (pe_callB (call_max2 rfl) (by rfl) T.b_max (by decide +kernel) (pa_cons (pv 2) (pa_cons (pe_op op_sub (pe_un un_neg pe_int) (pv 2)) pa_nil))))
      (pss_cons (ps_set (i := 4) sc_law_stream.nd rfl (Or.inl rfl) (pe_op op_mod (pe_op op_mul (pe_op op_add (pe_op op_add (pe_op op_add (pe_op op_mod (pv 3) pe_int) (pe_op op_mul (pe_op op_mul pe_int (pv 1)) (pv 1))) (pe_op op_mul pe_int (pv 1))) pe_int) pe_int) pe_int))
      (pss_one (ps_ret (pe_lst (pa_cons (pe_op op_mul (pv 3) (pe_callTy call_int1 (by rfl) T.b_int (by decide +kernel) (pa_cons (pe_cmpR op_ge (pv 3) (pe_op op_pow pe_int pe_int) (nomark _)) pa_nil))) (pa_cons (pv 4) pa_nil))))))))), ?_⟩
    have kb : -(2 ^ 64 : Int) < (k : Int) ∧ (k : Int) < 2 ^ 64 := by omega
    refine ⟨_, rfl, _, rfl, a, _, rfl, .inl hS, _, _, rfl, rfl, _, rfl, ?_⟩
    rw [List.length_map]
    by_cases c : (k : Int) < (ns.length : Int)
    · rw [decide_eq_true c]
      have at_ : (ns.map V.int)[k]? = some (V.int (ns[k]'(by omega))) := by rw [List.getElem?_map, List.getElem?_eq_getElem (by omega)]; rfl
      refine iteT ⟨_, rfl, _, rfl, a, _, _, _, rfl, rfl, hS, atI_nat at_, ?_⟩
      walk_at "rd"
      exact ⟨by show 2 ≤ sizeLine; decide, fun p hp => q p _ _ hp (Int.mul_nonneg (by split <;> omega) (by split <;> omega))⟩
    · rw [decide_eq_false c]
      refine iteF ?_
      walk_at "rd"
      exact ⟨by show 2 ≤ sizeLine; decide, fun p hp => q p _ _ hp (Int.mul_nonneg (by split <;> omega) (by split <;> omega))⟩
end
section
variable {P : Program} {w : World} {K : PySem.W.Frag} {mg : Str → Option Value} {base : Heap} {C : Addr}
abbrev s_law_draw : Stmt := top 17
theorem sc_law_draw : FnScope ["stream", "count", "result"] ["stream", "count"] (defScope s_law_draw) := ⟨rfl, rfl, rfl, by decide +kernel, rfl, by decide +kernel, by decide +kernel⟩
theorem ok_draw (D : DefK K mg "_law_draw" s_law_draw) : Cal P w K mg base CX0 1 "_law_draw" spDraw := by
  refine D.cal sc_law_draw (fun _ _ _ _ _ _ us hl => match us, hl with | [_, _], _ => rfl) (fun vs H Q E h => ?_) fun f cdv A outer s H vs Q E hr h => ?_
  · obtain ⟨p, a, b, n, rfl, _⟩ := h; rfl
  · obtain ⟨p, a, b, n, rfl, hp, ha, hn, hb, q⟩ := h
    have at0 : ∀ x y : Int, atI [V.int x, V.int y] 0 = some (V.int x) := fun _ _ => atI_nat (j := 0) rfl
    have at1 : ∀ x y : Int, atI [V.int x, V.int y] 1 = some (V.int y) := fun _ _ => atI_nat (j := 1) rfl
    have hw : CDivW a n := wide_div hn hb (by decide) (by decide)
    refine ⟨_, (pss_cons (ps_if (pt_cmpR op_gt (pe_ix (r := rIxL K) ix_list (pv 0) pe_int (fun _ _ => rfl)) pe_int (nomark _)) (pss_cons (ps_set (i := 2) sc_law_draw.nd rfl (Or.inl rfl) (pe_op op_mod (pe_ix (r := rIxL K) ix_list (pv 0) pe_int (fun _ _ => rfl)) (pv 1)))
      (pss_cons (ps_asg (pe_op op_fdivW (pe_ix (r := rIxL K) ix_list (pv 0) pe_int (fun _ _ => rfl)) (pv 1)) (pg_sub (pv 0) pe_int set_list))
      (pss_one (ps_ret (pv 2))))) pss_nil)
      (pss_cons (ps_asg (pe_op op_mod (pe_op op_add (pe_op op_mul (pe_ix (r := rIxL K) ix_list (pv 0) pe_int (fun _ _ => rfl)) pe_int) pe_int) pe_int) (pg_sub (pv 0) pe_int set_list))
      (pss_one (ps_ret (pe_op op_mod (pe_op op_fdiv (pe_op op_mod (pe_op op_mul (pe_ix (r := rIxL K) ix_list (pv 0) pe_int (fun _ _ => rfl)) (pe_ix (r := rIxL K) ix_list (pv 0) pe_int (fun _ _ => rfl))) pe_int) pe_int) (pv 1)))))), ?_⟩
    refine ⟨_, rfl, p, _, _, _, rfl, rfl, SqL.of hp, at0 _ _, _, _, rfl, rfl, _, rfl, ?_⟩
    by_cases c : 0 < a
    · rw [decide_eq_true c]
      refine iteT ⟨_, rfl, p, _, _, _, rfl, rfl, SqL.of hp, at0 _ _, _, rfl, _, _, rfl, rfl, hn, ?_⟩
      refine ⟨_, rfl, p, _, _, _, rfl, rfl, SqL.of hp, at0 _ _, _, rfl, _, _, rfl, rfl, hw, ?_⟩
      refine ⟨_, rfl, p, _, _, 0, rfl, rfl, hp, rfl, ?_⟩
      refine ⟨_, rfl, q _ _ _ (Int.emod_nonneg _ (by omega)) (Int.emod_lt_of_pos _ hn) (Int.ediv_nonneg ha (by omega))⟩
    · rw [decide_eq_false c]
      refine iteF ⟨_, rfl, p, _, _, _, rfl, rfl, SqL.of hp, at1 _ _, ?_⟩
      walk_at "rd"
      refine ⟨p, _, _, 1, rfl, rfl, hp, rfl, ?_⟩
      refine ⟨_, rfl, p, _, _, _, rfl, rfl, SqL.of upd_same, at1 _ _, _, rfl, p, _, _, _, rfl, rfl, SqL.of upd_same, at1 _ _, _, _, rfl, rfl, ?_⟩
      have m1 := Int.emod_nonneg (b * 39373 + 7) (show (2147483647 : Int) ≠ 0 by decide)
      have m2 := Int.emod_lt_of_pos (b * 39373 + 7) (show (0 : Int) < 2147483647 by decide)
      refine ⟨.inl ⟨by omega, by omega⟩, _, _, rfl, rfl, show (0 : Int) < _ by decide, _, _, rfl, rfl, ⟨by decide, by decide⟩, _, rfl, _, _, rfl, rfl, hn, ?_⟩
      exact q _ _ _ (Int.emod_nonneg _ (by omega)) (Int.emod_lt_of_pos _ hn) ha
abbrev s_law_choose : Stmt := top 18
theorem sc_law_choose : FnScope ["stream", "items"] ["stream", "items"] (defScope s_law_choose) := ⟨rfl, rfl, rfl, by decide +kernel, rfl, by decide +kernel, by decide +kernel⟩
theorem ok_choose (D : DefK K mg "_law_choose" s_law_choose) (T : Txt K mg C) (G_law_draw : Cal P w K mg base CX0 1 "_law_draw" spDraw) : Cal P w K mg base CX0 2 "_law_choose" (spChoose K) := by
  refine D.cal sc_law_choose (fun _ _ _ _ _ _ us hl => match us, hl with | [_, _], _ => rfl) (fun vs H Q E h => ?_) fun f cdv A outer s H vs Q E hr h => ?_
  · obtain ⟨p, l, a, b, xs, rfl, _⟩ := h; rfl
  · obtain ⟨p, l, a, b, xs, rfl, hp, ha, hl, n, h0, h1, q⟩ := h
    refine ⟨_, (pss_one (ps_ret (pe_ix (r := rIxL K) ix_list (pv 1) (pe_c G_law_draw hr (by decide) rfl (pa_cons (pv 0) (pa_cons (pe_callB call_len_seq (by rfl) T.b_len (by decide +kernel) (pa_cons (pv 1) pa_nil)) pa_nil))) (fun _ _ => rfl)))), ?_⟩
    refine ⟨_, rfl, _, rfl, _, rfl, l, xs, rfl, .inl hl, p, a, b, _, rfl, hp, ha, by omega, i1000 (by omega) (by omega), fun v a' b' v0 v1 a0 => ?_⟩
    have hi : v.toNat < xs.length := by omega
    have ev : xs[v.toNat]? = some (xs[v.toNat]'hi) := List.getElem?_eq_getElem hi
    have ev2 : v = ((v.toNat : Nat) : Int) := by omega
    exact ⟨l, xs, v, _, rfl, rfl, seq_upd hl n, at_of ev2 ev, q v.toNat _ a' b' ev a0⟩
end

/-! ### new ranges: empty, _between, and, joined -/
theorem same_new {H : Hp} {p : Addr} {o : HO} (h : H p = none) : Same H (upd H p o) := fun b u e => by rw [upd_ne (ne_of_none e h)]; exact e
theorem same_new' {H H1 : Hp} {p : Addr} {o : HO} (s : Same H H1) (h : H1 p = none) : Same H (upd H1 p o) := s.trans (same_new h)
theorem same_mut {H H1 : Hp} {p : Addr} {o : HO} (s : Same H H1) (h : H p = none) : Same H (upd H1 p o) := fun b u e => by rw [upd_ne (ne_of_none e h)]; exact s b u e
theorem same_tup {K : PySem.W.Frag} {H H' : Hp} {a : Addr} {xs : List V} (e : Same H H') (h : SqT K H a xs) : SqT K H' a xs := by
  rcases h with (h | ⟨o, h⟩) | h
  · exact .inl (.inl (e _ _ h))
  · exact .inl (.inr ⟨o, e _ _ h⟩)
  · exact .inr h
theorem same_rat {C : Addr} {H H' : Hp} {p : Addr} {r : Int × Int} (e : Same H H') (h : RAt C H p r) : RAt C H' p r :=
  let ⟨dx, z⟩ := h
  ⟨dx, e _ _ z⟩
/-- a range as __init__ leaves it -/
def RngOk (r : Int × Int) : Prop := r = (-B, -B - 1) ∨ (Bnd r.1 ∧ r.1 ≤ r.2 ∧ r.2 ≤ B)
/-- hands back a range that was not there before -/
def NewR (C : Addr) (H : Hp) (r : Int × Int) (Q : VK) : Prop := ∀ x H', H x = none → Same H H' → RAt C H' x r → Q (.ref x) H'
def spEmpty (C : Addr) : Sp := fun vs H Q _ => vs = [.ref C] ∧ NewR C H (-B, -B - 1) Q
def btw (lo hi : Int) : Int × Int := if hi < lo then (-B, -B - 1) else (lo, hi)
def spBtw (C : Addr) : Sp := fun vs H Q _ => ∃ lo hi, vs = [.int lo, .int hi] ∧ (lo ≤ hi → Bnd lo ∧ -B < hi ∧ hi ≤ B) ∧ NewR C H (btw lo hi) Q
def spMin : Sp := fun vs H Q _ => ∃ a b, vs = [.int a, .int b] ∧ Q (.int (if a < b then a else b)) H
def spMax : Sp := fun vs H Q _ => ∃ a b, vs = [.int a, .int b] ∧ Q (.int (if b < a then a else b)) H
def andR (r o : Int × Int) : Int × Int := btw (if o.1 < r.1 then r.1 else o.1) (if r.2 < o.2 then r.2 else o.2)
def spAnd (C : Addr) : Sp := fun vs H Q _ => ∃ p q r o, vs = [.ref p, .ref q] ∧ RAt C H p r ∧ RAt C H q o ∧ RngOk r ∧ RngOk o ∧ NewR C H (andR r o) Q
/-- what joined hands back: the other one, itself, None, or a new range -/
def spJoin (C : Addr) : Sp := fun vs H Q _ => ∃ p q r o, vs = [.ref p, .ref q] ∧ RAt C H p r ∧ RAt C H q o ∧ RngOk r ∧ RngOk o ∧
  (r.2 < r.1 → Q (.ref q) H) ∧ (¬ r.2 < r.1 → o.2 < o.1 → Q (.ref p) H) ∧ (¬ r.2 < r.1 → ¬ o.2 < o.1 → (o.2 + 1 < r.1 ∨ r.2 + 1 < o.1) → Q .non H) ∧
  (¬ r.2 < r.1 → ¬ o.2 < o.1 → ¬ (o.2 + 1 < r.1 ∨ r.2 + 1 < o.1) → NewR C H (btw (if r.1 < o.1 then r.1 else o.1) (if o.2 < r.2 then r.2 else o.2)) Q)
theorem rng_mk {f : Int} {l : Option Int} (bf : Bnd f) (bl : BndO l) : RngOk (mkR f l) := by
  have hB := B_eq
  cases l with
  | none => exact .inr ⟨bf, by have := bf.2; show f ≤ B; omega, Int.le_refl _⟩
  | some i =>
    by_cases c : i < f
    · exact .inl (if_pos c)
    · have e : mkR f (some i) = (f, i) := if_neg c
      rw [e]
      exact .inr ⟨bf, by show f ≤ i; omega, by have := bl.2; show i ≤ B; omega⟩
section
variable {P : Program} {w : World} {K : PySem.W.Frag} {mg : Str → Option Value} {base : Heap} {C : Addr} {mc : Value}
abbrev s_Range_empty : Stmt := inClass (top 14) 1
theorem sc_Range_empty : FnScope ["cls"] ["cls"] (defScope s_Range_empty) := ⟨rfl, rfl, rfl, by decide +kernel, rfl, by decide +kernel, by decide +kernel⟩
theorem ok_empty (D : CmtK K C mc "empty" "Range.empty" s_Range_empty) (M_Range : Mak P w K mg base CX0 3 "Range" C (spInit C)) : Cmt P w K mg base CX0 5 C mc "empty" (spEmpty C) := by
  refine D.cmt sc_Range_empty (fun _ _ _ _ _ _ us hl => match us, hl with | [_], _ => rfl) (fun vs H Q E h => ?_) fun f cdv A outer s H vs Q E hr h => ?_
  · obtain ⟨rfl, _⟩ := h; rfl
  · obtain ⟨rfl, k⟩ := h
    refine ⟨_, (pss_one (ps_ret (pe_mkL (i := 0) M_Range hr (by decide) (by rfl) (Or.inl rfl) (pa_cons pe_int (pa_cons (pe_un un_neg pe_int) pa_nil))))), ?_⟩
    refine ⟨rfl, _, rfl, fun x dx nx ndx nex => ⟨x, dx, 0, some (-1), rfl, upd_same, ⟨by decide, by decide⟩, ⟨by decide, by decide⟩, fun H1 R kp => ⟨rfl, ?_⟩⟩⟩
    exact k x H1 nx (Same.made nx ndx kp) R
abbrev s_between : Stmt := top 13
theorem sc_between : FnScope ["low", "high"] ["low", "high"] (defScope s_between) := ⟨rfl, rfl, rfl, by decide +kernel, rfl, by decide +kernel, by decide +kernel⟩
theorem ok_between (D : DefK K mg "_between" s_between) (T : Txt K mg C) (M_Range : Mak P w K mg base CX0 3 "Range" C (spInit C)) (G_empty : Cmt P w K mg base CX0 5 C mc "empty" (spEmpty C)) : Cal P w K mg base CX0 6 "_between" (spBtw C) := by
  refine D.cal sc_between (fun _ _ _ _ _ _ us hl => match us, hl with | [_, _], _ => rfl) (fun vs H Q E h => ?_) fun f cdv A outer s H vs Q E hr h => ?_
  · obtain ⟨lo, hi, rfl, _⟩ := h; rfl
  · obtain ⟨lo, hi, rfl, bd, k⟩ := h
    refine ⟨_, (pss_cons (ps_if (pt_cmpR op_gt (pv 0) (pv 1) (nomark _)) (pss_one (ps_ret (pe_cm0 G_empty hr (by decide) (pe_glob (v := .ref C) rfl T.cRange rfl)))) pss_nil)
      (pss_one (ps_ret (pe_mk M_Range hr (by decide) rfl (pa_cons (pv 0) (pa_cons (pe_ifExp (pt_cmpR op_eq (pv 1) (pe_gc rfl T.gBOUND) (nomark _)) pe_non (pv 1)) pa_nil)))))), ?_⟩
    walk_at "rd"
    by_cases c : hi < lo
    · have e : btw lo hi = (-B, -B - 1) := if_pos c
      rw [e] at k
      refine iteTe (decide_eq_true c) ?_
      exact ⟨rfl, rfl, k⟩
    · have e : btw lo hi = (lo, hi) := if_neg c
      rw [e] at k
      obtain ⟨b1, b2, b3⟩ := bd (by omega)
      refine iteFe (decide_eq_false c) ?_
      walk_at "rd"
      rw [ne_dec]
      by_cases c2 : hi = B
      · refine iteTe (decide_eq_true c2) fun x dx nx ndx nex => ⟨x, dx, lo, none, rfl, upd_same, b1, trivial, fun H1 R kp => ⟨rfl, ?_⟩⟩
        refine k x H1 nx (Same.made nx ndx kp) ?_
        rw [c2]
        exact R
      · refine iteFe (decide_eq_false c2) ⟨_, rfl, fun x dx nx ndx nex => ⟨x, dx, lo, some hi, rfl, upd_same, b1, ⟨b2, by omega⟩, fun H1 R kp => ⟨rfl, ?_⟩⟩⟩
        refine k x H1 nx (Same.made nx ndx kp) ?_
        have e2 : mkR lo (some hi) = (lo, hi) := if_neg c
        rw [e2] at R
        exact R
abbrev s_lesser : Stmt := top 10
theorem sc_lesser : FnScope ["one", "two"] ["one", "two"] (defScope s_lesser) := ⟨rfl, rfl, rfl, by decide +kernel, rfl, by decide +kernel, by decide +kernel⟩
theorem ok_lesser (D : DefK K mg "_lesser" s_lesser) : Cal P w K mg base CX0 1 "_lesser" spMin := by
  refine D.cal sc_lesser (fun _ _ _ _ _ _ us hl => match us, hl with | [_, _], _ => rfl) (fun vs H Q E h => ?_) fun f cdv A outer s H vs Q E hr h => ?_
  · obtain ⟨a, b, rfl, _⟩ := h; rfl
  · obtain ⟨a, b, rfl, k⟩ := h
    refine ⟨_, (pss_one (ps_ret (pe_ifExp (pt_cmpR op_lt (pv 0) (pv 1) (nomark _)) (pv 0) (pv 1)))), ?_⟩
    walk_at "rd"
    by_cases c : a < b
    · rw [if_pos c] at k
      exact iteTe (decide_eq_true c) ⟨_, rfl, k⟩
    · rw [if_neg c] at k
      exact iteFe (decide_eq_false c) ⟨_, rfl, k⟩
abbrev s_greater : Stmt := top 11
theorem sc_greater : FnScope ["one", "two"] ["one", "two"] (defScope s_greater) := ⟨rfl, rfl, rfl, by decide +kernel, rfl, by decide +kernel, by decide +kernel⟩
theorem ok_greater (D : DefK K mg "_greater" s_greater) : Cal P w K mg base CX0 1 "_greater" spMax := by
  refine D.cal sc_greater (fun _ _ _ _ _ _ us hl => match us, hl with | [_, _], _ => rfl) (fun vs H Q E h => ?_) fun f cdv A outer s H vs Q E hr h => ?_
  · obtain ⟨a, b, rfl, _⟩ := h; rfl
  · obtain ⟨a, b, rfl, k⟩ := h
    refine ⟨_, (pss_one (ps_ret (pe_ifExp (pt_cmpR op_gt (pv 0) (pv 1) (nomark _)) (pv 0) (pv 1)))), ?_⟩
    walk_at "rd"
    by_cases c : b < a
    · rw [if_pos c] at k
      exact iteTe (decide_eq_true c) ⟨_, rfl, k⟩
    · rw [if_neg c] at k
      exact iteFe (decide_eq_false c) ⟨_, rfl, k⟩
abbrev s_Range_and : Stmt := inClass (top 14) 14
theorem sc_Range_and : FnScope ["self", "other"] ["self", "other"] (defScope s_Range_and) := ⟨rfl, rfl, rfl, by decide +kernel, rfl, by decide +kernel, by decide +kernel⟩
theorem ok_and (D : MetK K C "__and__" "Range.__and__" s_Range_and) (T : Txt K mg C) (G_between : Cal P w K mg base CX0 6 "_between" (spBtw C)) (G_lesser : Cal P w K mg base CX0 1 "_lesser" spMin) (G_greater : Cal P w K mg base CX0 1 "_greater" spMax) : Met P w K mg base CX0 7 C "__and__" (spAnd C) := by
  refine D.met sc_Range_and (fun _ _ _ _ _ _ us hl => match us, hl with | [_, _], _ => rfl) (fun vs H Q E h => ?_) fun f cdv A outer s H vs Q E hr h => ?_
  · obtain ⟨p, q, r, o, rfl, _⟩ := h; rfl
  · obtain ⟨p, q, r, o, rfl, ⟨dx, hp⟩, ⟨dy, hq⟩, r1, r2, k⟩ := h
    refine ⟨_, (pss_one (ps_ret (pe_c G_between hr (by decide) rfl (pa_cons (pe_c G_greater hr (by decide) rfl (pa_cons (pe_fld (pv 0) rfl) (pa_cons (pe_fld (pv 1) rfl) pa_nil))) (pa_cons (pe_c G_lesser hr (by decide) rfl (pa_cons (pe_fld (pv 0) rfl) (pa_cons (pe_fld (pv 1) rfl) pa_nil))) pa_nil))))), ?_⟩
    refine ⟨_, rfl, p, C, dx, _, _, rfl, hp, T.cl, T.nl, get_lo _, _, rfl, q, C, dy, _, _, rfl, hq, T.cl, T.nl, get_lo _, _, _, rfl, ?_⟩
    refine ⟨_, rfl, p, C, dx, _, _, rfl, hp, T.cl, T.nh, get_hi _, _, rfl, q, C, dy, _, _, rfl, hq, T.cl, T.nh, get_hi _, _, _, rfl, ?_⟩
    refine ⟨_, _, rfl, fun hle => ?_, k⟩
    have hB := B_eq
    rcases r1 with rfl | ⟨⟨x1, x2⟩, x3, x4⟩ <;> rcases r2 with rfl | ⟨⟨y1, y2⟩, y3, y4⟩
    · split at hle <;> split at hle <;> omega
    · split at hle <;> split at hle <;> omega
    · split at hle <;> split at hle <;> omega
    · refine ⟨?_, ?_, ?_⟩
      · split
        · exact ⟨x1, x2⟩
        · exact ⟨y1, y2⟩
      · split at hle <;> split at hle <;> (split <;> omega)
      · split <;> omega
abbrev s_Range_joined : Stmt := inClass (top 14) 22
theorem sc_Range_joined : FnScope ["self", "other"] ["self", "other"] (defScope s_Range_joined) := ⟨rfl, rfl, rfl, by decide +kernel, rfl, by decide +kernel, by decide +kernel⟩
theorem ok_joined (D : MetK K C "joined" "Range.joined" s_Range_joined) (T : Txt K mg C) (G_between : Cal P w K mg base CX0 6 "_between" (spBtw C)) (G_lesser : Cal P w K mg base CX0 1 "_lesser" spMin) (G_greater : Cal P w K mg base CX0 1 "_greater" spMax) : Met P w K mg base CX0 7 C "joined" (spJoin C) := by
  refine D.met sc_Range_joined (fun _ _ _ _ _ _ us hl => match us, hl with | [_, _], _ => rfl) (fun vs H Q E h => ?_) fun f cdv A outer s H vs Q E hr h => ?_
  · obtain ⟨p, q, r, o, rfl, _⟩ := h; rfl
  · obtain ⟨p, q, r, o, rfl, ⟨dx, hp⟩, ⟨dy, hq⟩, r1, r2, k1, k2, k3, k4⟩ := h
    refine ⟨_, (pss_cons (ps_if (pt_cmpR op_gt (pe_fld (pv 0) rfl) (pe_fld (pv 0) rfl) (nomark _)) (pss_one (ps_ret (pv 1))) pss_nil)
      (pss_cons (ps_if (pt_cmpR op_gt (pe_fld (pv 1) rfl) (pe_fld (pv 1) rfl) (nomark _)) (pss_one (ps_ret (pv 0))) pss_nil)
      (pss_cons (ps_if (PW.pt (pw_or (pt_cmpR op_gt (pe_fld (pv 0) rfl) (pe_op op_add (pe_fld (pv 1) rfl) pe_int) (nomark _)) (pw_or1 (pt_cmpR op_gt (pe_fld (pv 1) rfl) (pe_op op_add (pe_fld (pv 0) rfl) pe_int) (nomark _))))) (pss_one (ps_ret pe_non)) pss_nil)
      (pss_one (ps_ret (pe_c G_between hr (by decide) rfl (pa_cons (pe_c G_lesser hr (by decide) rfl (pa_cons (pe_fld (pv 0) rfl) (pa_cons (pe_fld (pv 1) rfl) pa_nil))) (pa_cons (pe_c G_greater hr (by decide) rfl (pa_cons (pe_fld (pv 0) rfl) (pa_cons (pe_fld (pv 1) rfl) pa_nil))) pa_nil)))))))), ?_⟩
    refine ⟨_, rfl, p, C, dx, _, _, rfl, hp, T.cl, T.nl, get_lo _, _, rfl, p, C, dx, _, _, rfl, hp, T.cl, T.nh, get_hi _, _, _, rfl, rfl, _, rfl, ?_⟩
    by_cases c : r.2 < r.1
    · exact iteTe (decide_eq_true c) ⟨_, rfl, k1 c⟩
    refine iteFe (decide_eq_false c) ⟨_, rfl, q, C, dy, _, _, rfl, hq, T.cl, T.nl, get_lo _, _, rfl, q, C, dy, _, _, rfl, hq, T.cl, T.nh, get_hi _, _, _, rfl, rfl, _, rfl, ?_⟩
    by_cases c2 : o.2 < o.1
    · exact iteTe (decide_eq_true c2) ⟨_, rfl, k2 c c2⟩
    refine iteFe (decide_eq_false c2) ⟨_, rfl, p, C, dx, _, _, rfl, hp, T.cl, T.nl, get_lo _, _, rfl, q, C, dy, _, _, rfl, hq, T.cl, T.nh, get_hi _, _, _, rfl, rfl, _, _, rfl, rfl, _, rfl, ?_⟩
    by_cases c3 : o.2 + 1 < r.1
    · exact iteTe (decide_eq_true c3) (iteT (k3 c c2 (.inl c3)))
    refine iteFe (decide_eq_false c3) ⟨_, rfl, q, C, dy, _, _, rfl, hq, T.cl, T.nl, get_lo _, _, rfl, p, C, dx, _, _, rfl, hp, T.cl, T.nh, get_hi _, _, _, rfl, rfl, _, _, rfl, rfl, _, rfl, ?_⟩
    by_cases c4 : r.2 + 1 < o.1
    · exact iteTe (decide_eq_true c4) (k3 c c2 (.inr c4))
    refine iteFe (decide_eq_false c4) ?_
    refine ⟨_, rfl, p, C, dx, _, _, rfl, hp, T.cl, T.nl, get_lo _, _, rfl, q, C, dy, _, _, rfl, hq, T.cl, T.nl, get_lo _, _, _, rfl, ?_⟩
    refine ⟨_, rfl, p, C, dx, _, _, rfl, hp, T.cl, T.nh, get_hi _, _, rfl, q, C, dy, _, _, rfl, hq, T.cl, T.nh, get_hi _, _, _, rfl, ?_⟩
    refine ⟨_, _, rfl, fun hle => ?_, k4 c c2 (fun z => z.elim c3 c4)⟩
    have hB := B_eq
    rcases r1 with rfl | ⟨⟨x1, x2⟩, x3, x4⟩
    · exact absurd (by show -B - 1 < -B; omega) c
    rcases r2 with rfl | ⟨⟨y1, y2⟩, y3, y4⟩
    · exact absurd (by show -B - 1 < -B; omega) c2
    refine ⟨?_, ?_, ?_⟩
    · split
      · exact ⟨x1, x2⟩
      · exact ⟨y1, y2⟩
    · split <;> omega
    · split <;> omega
end

end K05

namespace K05
open PySem PySem.Spec PyProof.Rows L2 Jg
local macro_rules | `(tactic| walk_at "rd1") => `(tactic| (first
  | refine ⟨_, rfl, ?_⟩
  | refine ⟨_, _, rfl, rfl, ?_⟩
  | refine ⟨_, _, rfl, ?_⟩
  | refine ⟨rfl, ?_⟩
  | (refine ⟨show (0 : Int) < _ by omega, ?_⟩)
  | (refine ⟨Or.inl ⟨by omega, by omega⟩, ?_⟩)
  | (refine ⟨Or.inr ⟨by omega, by omega⟩, ?_⟩)
  | (refine ⟨(⟨by decide, by decide, by decide⟩ : CPow _ _), ?_⟩)
  | refine Or.inl ⟨_, rfl, ?_⟩
  | refine Or.inr ⟨_, rfl, ?_⟩
  | fail "rd"))
local macro_rules | `(tactic| walk_at "rd") => `(tactic| repeat' walk_at "rd1")


/-! ### the law's own reckoning -/
abbrev Ed := Int × Option Int
def ends (e : Ed) : List V := [.int e.1, oV e.2]
def mk (e : Ed) : Int × Int := mkR e.1 e.2
theorem ed0 (e : Ed) : atI (ends e) 0 = some (.int e.1) := atI_nat (j := 0) rfl
theorem ed1 (e : Ed) : atI (ends e) 1 = some (oV e.2) := atI_nat (j := 1) rfl
def upTo (o : Option Int) (m : Int) : Bool := match o with | none => true | some l => decide (m ≤ l)
def wnd (e : Ed) (far : Int) : List Int := ((win (far - 2) 24).filter fun m => decide (e.1 ≤ m)).filter (upTo e.2)
def seen (r : Int × Int) (far : Int) : List Int := (win (far - 2) 24).filter (inR r)
def flw (l : List Int) : Bool := match l with | [] => true | x :: r => decide (((x :: r).length : Int) = lastOf x r - x + 1)
/-- hands back a new list of ints -/
def NewL (H : Hp) (ms : List Int) (Q : VK) : Prop := ∀ D H', H D = none → Same H H' → H' D = some (.lst (ms.map V.int)) → Q (.ref D) H'
def spWnd (K : PySem.W.Frag) : Sp := fun vs H Q _ => ∃ q e far, vs = [.ref q, .int far] ∧ SqT K H q (ends e) ∧ NewL H (wnd e far) Q
def spSeen (C : Addr) : Sp := fun vs H Q _ => ∃ p r far, vs = [.ref p, .int far] ∧ RAt C H p r ∧ NewL H (seen r far) Q
def spFlw (K : PySem.W.Frag) : Sp := fun vs H Q _ => ∃ l ms, vs = [.ref l] ∧ SqL K H l (ms.map V.int) ∧ ms.length ≤ 900 ∧ ∀ H', Same H H' → Q (.bl (flw ms)) H'
def spDrawn : Sp := fun vs H Q _ => ∃ p a b far, vs = [.ref p, .int far] ∧ H p = some (.lst [.int a, .int b]) ∧ 0 ≤ a ∧
  ∀ (x : Int) (o : Option Int) (q : Addr) (a' b' : Int), far ≤ x → x ≤ far + 8 → (∀ i, o = some i → x - 1 ≤ i ∧ i ≤ x + 5) → 0 ≤ a' → (upd H p (.lst [.int a', .int b'])) q = none →
    Q (.ref q) (upd (upd H p (.lst [.int a', .int b'])) q (.tup (ends (x, o))))
section
variable {P : Program} {w : World} {K : PySem.W.Frag} {mg : Str → Option Value} {base : Heap} {C : Addr}
abbrev s_law_drawn : Stmt := top 19
theorem sc_law_drawn : FnScope ["stream", "far", "one", "way"] ["stream", "far"] (defScope s_law_drawn) := ⟨rfl, rfl, rfl, by decide +kernel, rfl, by decide +kernel, by decide +kernel⟩
theorem ok_drawn (D : DefK K mg "_law_drawn" s_law_drawn) (T : Txt K mg C) (G_law_draw : Cal P w K mg base CX0 1 "_law_draw" spDraw) : Cal P w K mg base CX0 2 "_law_drawn" spDrawn := by
  refine D.cal sc_law_drawn (fun _ _ _ _ _ _ us hl => match us, hl with | [_, _], _ => rfl) (fun vs H Q E h => ?_) fun f cdv A outer s H vs Q E hr h => ?_
  · obtain ⟨p, a, b, far, rfl, _⟩ := h; rfl
  · obtain ⟨p, a, b, far, rfl, hp, ha, k⟩ := h
    refine ⟨_, (pss_cons (ps_set (i := 2) sc_law_drawn.nd rfl (Or.inl rfl) (pe_op op_add (pv 1) (pe_c G_law_draw hr (by decide) rfl (pa_cons (pv 0) (pa_cons pe_int pa_nil)))))
      (pss_cons (ps_set (i := 3) sc_law_drawn.nd rfl (Or.inl rfl) (pe_c G_law_draw hr (by decide) rfl (pa_cons (pv 0) (pa_cons pe_int pa_nil))))
      (pss_one (ps_ret (pe_ifExp (pt_cmpR op_eq (pv 3) pe_int (nomark _)) (pe_tup (pa_cons (pv 2) (pa_cons pe_non pa_nil))) (pe_tup (pa_cons (pv 2) (pa_cons (pe_op op_sub (pe_op op_add (pv 2) (pe_c G_law_draw hr (by decide) rfl (pa_cons (pv 0) (pa_cons pe_int pa_nil)))) (pe_callTy call_int1 (by rfl) T.b_int (by decide +kernel) (pa_cons (pe_cmpR op_eq (pv 3) pe_int (nomark _)) pa_nil))) pa_nil)))))))), ?_⟩
    refine ⟨_, rfl, _, rfl, p, a, b, _, rfl, hp, ha, by decide, i1000 (by decide) (by decide), fun d a1 b1 d0 d1 ha1 => ?_⟩
    walk_at "rd"
    refine ⟨p, a1, b1, _, rfl, upd_same, ha1, by decide, i1000 (by decide) (by decide), fun y a2 b2 y0 y1 ha2 => ?_⟩
    rw [upd_upd]
    refine ⟨_, rfl, rfl, _, rfl, ?_⟩
    rw [ne_dec]
    by_cases c : y = 0
    · rw [decide_eq_true c]
      refine iteT ⟨_, rfl, by show 2 ≤ sizeLine; decide, fun q nq => ?_⟩
      exact k (far + d) none q a2 b2 (by omega) (by omega) (fun i h => nomatch h) ha2 nq
    · rw [decide_eq_false c]
      refine iteF ⟨_, rfl, _, rfl, ?_⟩
      refine ⟨_, rfl, p, a2, b2, _, rfl, upd_same, ha2, by decide, i1000 (by decide) (by decide), fun z a3 b3 z0 z1 ha3 => ?_⟩
      rw [upd_upd]
      refine ⟨_, _, rfl, rfl, _, rfl, rfl, .inr ⟨_, rfl, _, _, rfl, rfl, ?_⟩⟩
      rw [ne_dec]
      refine ⟨by show 2 ≤ sizeLine; decide, fun q nq => ?_⟩
      exact k (far + d) (some (far + d + z - (if decide (y = 1) = true then 1 else 0))) q a3 b3 (by omega) (by omega) (fun i h => by
        cases h
        split <;> omega) ha3 nq
abbrev s_law_window : Stmt := top 20
theorem sc_law_window : FnScope ["ends", "far", "found", "moment"] ["ends", "far"] (defScope s_law_window) := ⟨rfl, rfl, rfl, by decide +kernel, rfl, by decide +kernel, by decide +kernel⟩
theorem ok_window (D : DefK K mg "_law_window" s_law_window) (T : Txt K mg C) : Cal P w K mg base CX0 1 "_law_window" (spWnd K) := by
  refine D.cal sc_law_window (fun _ _ _ _ _ _ us hl => match us, hl with | [_, _], _ => rfl) (fun vs H Q E h => ?_) fun f cdv A outer s H vs Q E hr h => ?_
  · obtain ⟨q, e, far, rfl, _⟩ := h; rfl
  · obtain ⟨q, e, far, rfl, hq, k⟩ := h
    refine ⟨_, (pss_cons (ps_setLc (i := 2) (own := [("moment", 3)]) (g := gName 3) (by rfl) sc_law_window.nd rfl rfl (sw_true rfl rfl rfl (by decide +kernel)) (pi_range2W (by rfl) T.b_range (pa_cons (pe_op op_sub (pv 1) pe_int) (pa_cons (pe_op op_add (pv 1) pe_int) pa_nil))) (blkOk_by (own := [("moment", 3)]) (N := ["ends", "far", "found", "moment"]) (sc := defScope s_law_window) (by decide +kernel)) (fun _ _ _ _ _ => pg_name (i := 3) sc_law_window.nd rfl (Or.inl rfl)) (fun _ _ _ _ _ => (pts_one (pt_cmpR op_le (pe_ix (r := rIxT K) ix_tup (pv 0) pe_int (fun _ _ => rfl)) (pv 3) (nomark _)))) (fun _ _ _ _ _ => (pv 3)))
      (pss_one (ps_ret (pe_lc (own := [("moment", 3)]) (g := gName 3) (by rfl) sc_law_window.nd (pi_list (pv 2)) (blkOk_by (own := [("moment", 3)]) (N := ["ends", "far", "found", "moment"]) (sc := defScope s_law_window) (by decide +kernel)) (fun _ _ _ _ _ => pg_name (i := 3) sc_law_window.nd rfl (Or.inl rfl)) (fun _ _ _ _ _ => (pts_one (PW.pt (pw_or (pt_cmpR op_isN (pe_ix (r := rIxT K) ix_tup (pv 0) pe_int (fun _ _ => rfl)) pe_non (nomark _)) (pw_or1 (pt_cmpR op_le (pv 3) (pe_ix (r := rIxT K) ix_tup (pv 0) pe_int (fun _ _ => rfl)) (nomark _))))))) (fun _ _ _ _ _ => (pv 3)))))), ?_⟩
    refine ⟨_, rfl, _, _, rfl, rfl, _, rfl, _, _, rfl, rfl, _, _, rfl, fun D1 n1 => ?_⟩
    have e24 : (far + 22 - (far - 2)).toNat = 24 := by omega
    rw [e24]
    refine lcf_range (lo := far - 2) (n := 24) (fun m => decide (e.1 ≤ m)) n1 (by decide) (fun m => rfl) (fun m => rfl) (fun m H1 kk _ s1 q1 => ?_) ?_
    · exact ⟨_, rfl, q, _, 0, _, rfl, rfl, same_tup s1 hq, ed0 _, _, rfl, _, _, rfl, rfl, _, rfl, q1⟩
    · have s1 : Same H (upd H D1 (.lst (((win (far - 2) 24).filter fun m => decide (e.1 ≤ m)).map V.int))) := same_new n1
      refine ⟨_, rfl, D1, rfl, ⟨_, SqL.of upd_same⟩, fun D2 n2 => ?_⟩
      refine lcf_list (K := K) (a := D1) (ms := (win (far - 2) 24).filter fun m => decide (e.1 ≤ m)) (upTo e.2) (SqL.of upd_same) n2 ?_ (fun m => rfl) (fun m => rfl) (fun m H2 kk _ s2 q2 => ?_) ?_
      · refine Nat.le_trans (List.length_filter_le ..) ?_
        rw [win_len]; decide
      · have hq2 := same_tup s2 (same_tup s1 hq)
        refine ⟨_, rfl, q, _, 1, _, rfl, rfl, hq2, ed1 _, ?_⟩
        obtain ⟨x, o⟩ := e
        cases o with
        | none =>
          walk_at "rd"
          exact q2
        | some l =>
          walk_at "rd"
          exact ⟨q, _, 1, _, rfl, rfl, hq2, ed1 _, _, _, rfl, rfl, _, rfl, q2⟩
      · exact k D2 _ (s1.free n2) (same_new' s1 n2) upd_same
abbrev s_law_seen : Stmt := top 21
theorem sc_law_seen : FnScope ["one", "far", "moment"] ["one", "far"] (defScope s_law_seen) := ⟨rfl, rfl, rfl, by decide +kernel, rfl, by decide +kernel, by decide +kernel⟩
theorem ok_seen (D : DefK K mg "_law_seen" s_law_seen) (T : Txt K mg C) (G_contains : Met P w K mg base CX0 2 C "__contains__" (spIn K C)) : Cal P w K mg base CX0 3 "_law_seen" (spSeen C) := by
  refine D.cal sc_law_seen (fun _ _ _ _ _ _ us hl => match us, hl with | [_, _], _ => rfl) (fun vs H Q E h => ?_) fun f cdv A outer s H vs Q E hr h => ?_
  · obtain ⟨p, r, far, rfl, _⟩ := h; rfl
  · obtain ⟨p, r, far, rfl, hp, k⟩ := h
    refine ⟨_, (pss_one (ps_ret (pe_lc (own := [("moment", 2)]) (g := gName 2) (by rfl) sc_law_seen.nd (pi_range2W (by rfl) T.b_range (pa_cons (pe_op op_sub (pv 1) pe_int) (pa_cons (pe_op op_add (pv 1) pe_int) pa_nil))) (blkOk_by (own := [("moment", 2)]) (N := ["one", "far", "moment"]) (sc := defScope s_law_seen) (by decide +kernel)) (fun _ _ _ _ _ => pg_name (i := 2) sc_law_seen.nd rfl (Or.inl rfl)) (fun _ _ _ _ _ => (pts_one (pt_cmpR (op_in G_contains hr (by decide)) (pv 2) (pv 0) (by rfl)))) (fun _ _ _ _ _ => (pv 2))))), ?_⟩
    refine ⟨_, rfl, _, _, rfl, rfl, _, rfl, _, _, rfl, rfl, _, _, rfl, fun D1 n1 => ?_⟩
    have e24 : (far + 22 - (far - 2)).toNat = 24 := by omega
    rw [e24]
    refine lcf_range (lo := far - 2) (n := 24) (inR r) n1 (by decide) (fun m => rfl) (fun m => rfl) (fun m H1 kk _ s1 q1 => ?_) ?_
    · have hp1 := same_rat s1 hp
      obtain ⟨dx, hx⟩ := id hp1
      exact ⟨_, rfl, _, rfl, p, dx, _, rfl, hx, p, _, _, rfl, hp1, .inr (.inl ⟨m, rfl, _, rfl, _, rfl, q1⟩)⟩
    · exact k D1 _ n1 (same_new n1) upd_same
end

end K05

namespace K05
open PySem PySem.Spec PyProof.Rows L2 Jg
local macro_rules | `(tactic| walk_at "rd1") => `(tactic| (first
  | refine ⟨_, rfl, ?_⟩
  | refine ⟨_, _, rfl, rfl, ?_⟩
  | refine ⟨_, _, rfl, ?_⟩
  | refine ⟨rfl, ?_⟩
  | (refine ⟨show (0 : Int) < _ by omega, ?_⟩)
  | (refine ⟨Or.inl ⟨by omega, by omega⟩, ?_⟩)
  | (refine ⟨Or.inr ⟨by omega, by omega⟩, ?_⟩)
  | (refine ⟨(⟨by decide, by decide, by decide⟩ : CPow _ _), ?_⟩)
  | refine Or.inl ⟨_, rfl, ?_⟩
  | refine Or.inr ⟨_, rfl, ?_⟩
  | fail "rd"))
local macro_rules | `(tactic| walk_at "rd") => `(tactic| repeat' walk_at "rd1")


/-! ### ==, is_endless, size -/
def spEqR (K : PySem.W.Frag) (C : Addr) : Sp := fun vs H Q _ => ∃ p x r, vs = [.ref p, x] ∧ RAt C H p r ∧
  ((∃ q o, x = .ref q ∧ RAt C H q o ∧ ∀ H', Same H H' → Q (.bl (decide (r = o))) H') ∨ (∃ t, TyX K H x t ∧ PySem.W.kitOne K t (.ref C) = some false ∧ Q (.bl false) H))
def spEnd (C : Addr) : Sp := fun vs H Q _ => ∃ p r, vs = [.ref p] ∧ RAt C H p r ∧ Q (.bl (decide (r.2 = B))) H
def sizeV (r : Int × Int) : V := if r.2 = B then .non else .int (r.2 - r.1 + 1)
def spSize (C : Addr) : Sp := fun vs H Q _ => ∃ p r, vs = [.ref p] ∧ RAt C H p r ∧ Q (sizeV r) H
section
variable {P : Program} {w : World} {K : PySem.W.Frag} {mg : Str → Option Value} {base : Heap} {C : Addr}
abbrev s_Range_eq : Stmt := inClass (top 14) 9
theorem sc_Range_eq : FnScope ["self", "other"] ["self", "other"] (defScope s_Range_eq) := ⟨rfl, rfl, rfl, by decide +kernel, rfl, by decide +kernel, by decide +kernel⟩
theorem ok_eq (D : MetK K C "__eq__" "Range.__eq__" s_Range_eq) (T : Txt K mg C) : Met P w K mg base CX0 1 C "__eq__" (spEqR K C) := by
  refine D.met sc_Range_eq (fun _ _ _ _ _ _ us hl => match us, hl with | [_, _], _ => rfl) (fun vs H Q E h => ?_) fun f cdv A outer s H vs Q E hr h => ?_
  · obtain ⟨p, x, r, rfl, _⟩ := h; rfl
  · obtain ⟨p, x, r, rfl, hp0, k⟩ := h
    refine ⟨_, (pss_cons (ps_if (pt_not (pt_val (pe_callB call_isi (by rfl) T.b_isinstance (by decide +kernel) (pa_cons (pv 1) (pa_cons (pe_glob (v := .ref C) rfl T.cRange rfl) pa_nil))))) (pss_one (ps_ret pe_bl)) pss_nil)
      (pss_one (ps_ret (pe_cmpR (op_eqD hr.units) (pe_tup (pa_cons (pe_fld (pv 0) rfl) (pa_cons (pe_fld (pv 0) rfl) pa_nil))) (pe_tup (pa_cons (pe_fld (pv 1) rfl) (pa_cons (pe_fld (pv 1) rfl) pa_nil))) (nomark _))))), ?_⟩
    rcases k with ⟨q, o, rfl, hq0, k⟩ | ⟨t, ty, kt, k⟩
    · obtain ⟨dx, hp⟩ := id hp0
      obtain ⟨dy, hq⟩ := id hq0
      refine ⟨_, rfl, .ref q, .ref C, _, _, true, rfl, .own C, T.ty hq0, T.kCC, _, rfl, iteF ?_⟩
      refine ⟨_, rfl, p, C, dx, _, _, rfl, hp, T.cl, T.nl, get_lo _, _, rfl, p, C, dx, _, _, rfl, hp, T.cl, T.nh, get_hi _, by show 2 ≤ sizeLine; decide, fun t1 n1 => ?_⟩
      have s1 := same_new (o := .tup [.int r.1, .int r.2]) n1
      refine ⟨_, rfl, q, C, dy, _, _, rfl, s1 _ _ hq, T.cl, T.nl, get_lo _, _, rfl, q, C, dy, _, _, rfl, s1 _ _ hq, T.cl, T.nh, get_hi _, by show 2 ≤ sizeLine; decide, fun t2 n2 => ?_⟩
      have s2 := same_new (o := .tup [.int o.1, .int o.2]) n2
      refine ask_eqT (xs := [r.1, r.2]) (ys := [o.1, o.2]) (SqT.of (s2 _ _ upd_same)) (SqT.of upd_same) ?_
      rw [pair_dec]
      exact k _ (s1.trans s2)
    · refine ⟨_, rfl, x, .ref C, _, _, false, rfl, .own C, ty, kt, _, rfl, iteT k⟩
abbrev s_Range_is_endless : Stmt := inClass (top 14) 5
theorem sc_Range_is_endless : FnScope ["self"] ["self"] (defScope s_Range_is_endless) := ⟨rfl, rfl, rfl, by decide +kernel, rfl, by decide +kernel, by decide +kernel⟩
theorem ok_endless (D : PrpK K C "is_endless" "Range.is_endless" s_Range_is_endless) (T : Txt K mg C) : Prp P w K mg base CX0 1 C "is_endless" (spEnd C) := by
  refine D.prp sc_Range_is_endless (fun _ _ _ _ _ _ us hl => match us, hl with | [_], _ => rfl) (fun vs H Q E h => ?_) fun f cdv A outer s H vs Q E hr h => ?_
  · obtain ⟨p, r, rfl, _⟩ := h; rfl
  · obtain ⟨p, r, rfl, ⟨dx, hp⟩, k⟩ := h
    refine ⟨_, (pss_one (ps_ret (pe_cmpR op_eq (pe_fld (pv 0) rfl) (pe_gc rfl T.gBOUND) (nomark _)))), ?_⟩
    refine ⟨_, rfl, p, C, dx, _, _, rfl, hp, T.cl, T.nh, get_hi _, rfl, ?_⟩
    rw [ne_dec]
    exact k
abbrev s_Range_size : Stmt := inClass (top 14) 6
theorem sc_Range_size : FnScope ["self"] ["self"] (defScope s_Range_size) := ⟨rfl, rfl, rfl, by decide +kernel, rfl, by decide +kernel, by decide +kernel⟩
theorem ok_size (D : PrpK K C "size" "Range.size" s_Range_size) (T : Txt K mg C) : Prp P w K mg base CX0 1 C "size" (spSize C) := by
  refine D.prp sc_Range_size (fun _ _ _ _ _ _ us hl => match us, hl with | [_], _ => rfl) (fun vs H Q E h => ?_) fun f cdv A outer s H vs Q E hr h => ?_
  · obtain ⟨p, r, rfl, _⟩ := h; rfl
  · obtain ⟨p, r, rfl, ⟨dx, hp⟩, k⟩ := h
    refine ⟨_, (pss_one (ps_ret (pe_ifExp (pt_cmpR op_eq (pe_fld (pv 0) rfl) (pe_gc rfl T.gBOUND) (nomark _)) pe_non (pe_op op_add (pe_op op_sub (pe_fld (pv 0) rfl) (pe_fld (pv 0) rfl)) pe_int)))), ?_⟩
    refine ⟨_, rfl, p, C, dx, _, _, rfl, hp, T.cl, T.nh, get_hi _, rfl, _, rfl, ?_⟩
    rw [ne_dec]
    unfold sizeV at k
    by_cases c : r.2 = B
    · rw [if_pos c] at k
      exact iteTe (decide_eq_true c) k
    · rw [if_neg c] at k
      exact iteFe (decide_eq_false c) ⟨_, rfl, p, C, dx, _, _, rfl, hp, T.cl, T.nh, get_hi _, _, rfl, p, C, dx, _, _, rfl, hp, T.cl, T.nl, get_lo _, _, _, rfl, rfl, _, _, rfl, rfl, k⟩
end

theorem at_last {x : Int} {r : List Int} : atI ((x :: r).map V.int) (-1) = some (.int (lastOf x r)) := by
  have e1 : (x :: r)[r.length]? = some (lastOf x r) := lastOf_get x r
  have e2 : ((x :: r).map V.int)[r.length]? = some (V.int (lastOf x r)) := by rw [List.getElem?_map, e1]; rfl
  unfold atI
  have e3 : ixN ((x :: r).map V.int).length (-1) = some r.length := by
    unfold ixN
    have hl : ((x :: r).map V.int).length = r.length + 1 := by simp
    rw [hl, if_neg (by decide), if_pos (by omega)]
    congr 1
    omega
  rw [e3]
  exact e2
section
variable {P : Program} {w : World} {K : PySem.W.Frag} {mg : Str → Option Value} {base : Heap} {C : Addr}
abbrev s_law_follow : Stmt := top 22
theorem sc_law_follow : FnScope ["moments"] ["moments"] (defScope s_law_follow) := ⟨rfl, rfl, rfl, by decide +kernel, rfl, by decide +kernel, by decide +kernel⟩
theorem ok_follow (D : DefK K mg "_law_follow" s_law_follow) (T : Txt K mg C) : Cal P w K mg base CX0 1 "_law_follow" (spFlw K) := by
  refine D.cal sc_law_follow (fun _ _ _ _ _ _ us hl => match us, hl with | [_], _ => rfl) (fun vs H Q E h => ?_) fun f cdv A outer s H vs Q E hr h => ?_
  · obtain ⟨l, ms, rfl, _⟩ := h; rfl
  · obtain ⟨l, ms, rfl, hl, hn, k⟩ := h
    refine ⟨_, (pss_one (ps_ret (pe_or (pe_cmpR (op_eqD hr.units) (pv 0) (pe_lst pa_nil) (nomark _)) (pe_one (pe_cmpR op_eq (pe_callB call_len_seq (by rfl) T.b_len (by decide +kernel) (pa_cons (pv 0) pa_nil)) (pe_op op_add (pe_op op_sub (pe_ix (r := rIxL K) ix_list (pv 0) (pe_un un_neg pe_int) (fun _ _ => rfl)) (pe_ix (r := rIxL K) ix_list (pv 0) pe_int (fun _ _ => rfl))) pe_int) (nomark _)))))), ?_⟩
    refine ⟨_, rfl, by show 0 ≤ sizeLine; decide, fun t1 n1 => ?_⟩
    have s1 := same_new (o := .lst []) n1
    refine ask_eqL (xs := ms) (ys := []) (s1.seq hl) (SqL.of upd_same) ⟨_, rfl, ?_⟩
    cases ms with
    | nil => exact iteTe (decide_eq_true rfl) (k _ s1)
    | cons x r =>
      refine iteFe (decide_eq_false (by simp)) ?_
      refine ⟨_, rfl, l, _, rfl, .inl (s1.seq hl), ?_⟩
      refine ⟨_, rfl, _, rfl, l, _, _, _, rfl, rfl, s1.seq hl, at_last, _, rfl, l, _, 0, _, rfl, rfl, s1.seq hl, atI_nat (j := 0) rfl, _, _, rfl, rfl, _, _, rfl, rfl, rfl, ?_⟩
      rw [ne_dec, List.length_map]
      exact k _ s1
end

end K05

namespace K05
open PySem PySem.Spec PyProof.Rows L2 Jg
local macro_rules | `(tactic| walk_at "rd1") => `(tactic| (first
  | refine ⟨_, rfl, ?_⟩
  | refine ⟨_, _, rfl, rfl, ?_⟩
  | refine ⟨_, _, rfl, ?_⟩
  | refine ⟨rfl, ?_⟩
  | (refine ⟨show (0 : Int) < _ by omega, ?_⟩)
  | (refine ⟨Or.inl ⟨by omega, by omega⟩, ?_⟩)
  | (refine ⟨Or.inr ⟨by omega, by omega⟩, ?_⟩)
  | (refine ⟨(⟨by decide, by decide, by decide⟩ : CPow _ _), ?_⟩)
  | refine Or.inl ⟨_, rfl, ?_⟩
  | refine Or.inr ⟨_, rfl, ?_⟩
  | fail "rd"))
local macro_rules | `(tactic| walk_at "rd") => `(tactic| repeat' walk_at "rd1")


/-! ### the two readings agree -/
theorem rng_cases {a b : Int} (h : RngOk (a, b)) : (a = -B ∧ b = -B - 1) ∨ (-B < a ∧ a < B ∧ a ≤ b ∧ b ≤ B) := by
  rcases h with h | ⟨⟨h1, h2⟩, h3, h4⟩
  · injection h with h1 h2
    exact .inl ⟨h1, h2⟩
  · exact .inr ⟨h1, h2, h3, h4⟩
def In (r : Int × Int) (m : Int) : Prop := r.1 ≤ m ∧ m ≤ r.2
theorem inR_iff {r : Int × Int} {m : Int} (h : RngOk r) (hm : Bnd m) : inR r m = true ↔ In r m := by
  obtain ⟨a, b⟩ := r
  have c1 := hm.1
  have c2 := hm.2
  unfold inR In
  simp only
  by_cases c : m < a
  · rw [if_pos c]
    exact ⟨fun z => (nomatch z), fun z => absurd z.1 (by omega)⟩
  · rw [if_neg c, Bool.or_eq_true, decide_eq_true_eq, decide_eq_true_eq]
    omega
theorem in_and {r o : Int × Int} {m : Int} (h1 : RngOk r) (h2 : RngOk o) (hm : Bnd m) : In (andR r o) m ↔ In r m ∧ In o m := by
  obtain ⟨a, b⟩ := r
  obtain ⟨c, d⟩ := o
  have c1 := hm.1
  have c2 := hm.2
  have x1 := rng_cases h1
  have x2 := rng_cases h2
  unfold andR btw In
  simp only
  by_cases e1 : c < a <;> by_cases e2 : b < d <;> simp only [e1, e2, if_true, if_false] <;> split <;> (try simp only) <;> omega
theorem ok_andR {r o : Int × Int} (h1 : RngOk r) (h2 : RngOk o) : RngOk (andR r o) := by
  obtain ⟨a, b⟩ := r
  obtain ⟨c, d⟩ := o
  have x1 := rng_cases h1
  have x2 := rng_cases h2
  have hB := B_eq
  unfold andR btw
  simp only
  by_cases e : (if b < d then b else d) < (if c < a then a else c)
  · rw [if_pos e]; exact .inl rfl
  · rw [if_neg e]
    refine .inr ⟨⟨?_, ?_⟩, ?_, ?_⟩ <;> simp only <;> (split at e <;> split at e <;> simp_all only [if_true, if_false] <;> omega)
theorem and_comm' (r o : Int × Int) (h1 : RngOk r) (h2 : RngOk o) : andR r o = andR o r := by
  obtain ⟨a, b⟩ := r
  obtain ⟨c, d⟩ := o
  unfold andR
  simp only
  have e1 : (if c < a then a else c) = (if a < c then c else a) := by split <;> split <;> omega
  have e2 : (if b < d then b else d) = (if d < b then d else b) := by split <;> split <;> omega
  rw [e1, e2]
theorem pair_eq {a b c d : Int} : (a, b) = (c, d) ↔ a = c ∧ b = d := by
  constructor
  · intro h; injection h with h1 h2; exact ⟨h1, h2⟩
  · rintro ⟨rfl, rfl⟩; rfl
theorem cov_and {r o : Int × Int} (h1 : RngOk r) (h2 : RngOk o) : cov r o = decide (andR r o = o) := by
  obtain ⟨a, b⟩ := r
  obtain ⟨c, d⟩ := o
  have x1 := rng_cases h1
  have x2 := rng_cases h2
  have hB := B_eq
  unfold cov andR btw
  simp only
  rw [Bool.eq_iff_iff]
  by_cases e0 : d < c
  · rw [if_pos e0, decide_eq_true_eq]
    refine ⟨fun _ => ?_, fun _ => rfl⟩
    by_cases e1 : c < a <;> by_cases e2 : b < d <;> simp only [e1, e2, if_true, if_false] <;> split <;> rw [pair_eq] <;> omega
  · rw [if_neg e0, Bool.and_eq_true, decide_eq_true_eq, decide_eq_true_eq, decide_eq_true_eq]
    by_cases e1 : c < a <;> by_cases e2 : b < d <;> simp only [e1, e2, if_true, if_false] <;> split <;> rw [pair_eq] <;> omega
/-- the range that joined hands back where it hands back one -/
def joinR (r o : Int × Int) : Int × Int := if r.2 < r.1 then o else if o.2 < o.1 then r else btw (if r.1 < o.1 then r.1 else o.1) (if o.2 < r.2 then r.2 else o.2)
def Gap (r o : Int × Int) : Prop := ¬ r.2 < r.1 ∧ ¬ o.2 < o.1 ∧ (o.2 + 1 < r.1 ∨ r.2 + 1 < o.1)
theorem in_join {r o : Int × Int} {m : Int} (h1 : RngOk r) (h2 : RngOk o) (hm : Bnd m) (g : ¬ Gap r o) : In (joinR r o) m ↔ In r m ∨ In o m := by
  obtain ⟨a, b⟩ := r
  obtain ⟨c, d⟩ := o
  have c1 := hm.1
  have c2 := hm.2
  have x1 := rng_cases h1
  have x2 := rng_cases h2
  unfold Gap at g
  unfold joinR btw In
  simp only at g ⊢
  by_cases e1 : b < a
  · simp only [e1, if_true]; omega
  · by_cases e2 : d < c
    · simp only [e1, e2, if_true, if_false]; omega
    · simp only [e1, e2, if_false]
      by_cases e3 : a < c <;> by_cases e4 : d < b <;> simp only [e3, e4, if_true, if_false] <;> split <;> (try simp only) <;> omega
theorem ok_joinR {r o : Int × Int} (h1 : RngOk r) (h2 : RngOk o) : RngOk (joinR r o) := by
  obtain ⟨a, b⟩ := r
  obtain ⟨c, d⟩ := o
  have x1 := rng_cases h1
  have x2 := rng_cases h2
  unfold joinR
  simp only
  by_cases e1 : b < a
  · rw [if_pos e1]; exact h2
  · rw [if_neg e1]
    by_cases e2 : d < c
    · rw [if_pos e2]; exact h1
    · rw [if_neg e2]
      unfold btw
      by_cases e : (if d < b then b else d) < (if a < c then a else c)
      · rw [if_pos e]; exact .inl rfl
      · rw [if_neg e]
        refine .inr ⟨⟨?_, ?_⟩, ?_, ?_⟩ <;> (try simp only) <;> (by_cases e3 : a < c <;> by_cases e4 : d < b <;> simp only [e3, e4, if_true, if_false] at e ⊢ <;> omega)
theorem size_join {r o : Int × Int} (h1 : RngOk r) (h2 : RngOk o) (g : ¬ Gap r o) : (joinR r o).2 - (joinR r o).1 + 1 + ((andR r o).2 - (andR r o).1 + 1) = r.2 - r.1 + 1 + (o.2 - o.1 + 1) := by
  obtain ⟨a, b⟩ := r
  obtain ⟨c, d⟩ := o
  have x1 := rng_cases h1
  have x2 := rng_cases h2
  have hB := B_eq
  unfold Gap at g
  unfold joinR andR btw
  simp only at g ⊢
  by_cases e1 : b < a <;> by_cases e2 : d < c <;> by_cases e3 : a < c <;> by_cases e4 : d < b <;> by_cases e5 : c < a <;> by_cases e6 : b < d <;> simp only [e1, e2, e3, e4, e5, e6, if_true, if_false] <;> (repeat' split) <;> (try simp only) <;> omega
theorem end_and {r o : Int × Int} (h1 : RngOk r) (h2 : RngOk o) : (andR r o).2 = B ↔ r.2 = B ∧ o.2 = B := by
  obtain ⟨a, b⟩ := r
  obtain ⟨c, d⟩ := o
  have x1 := rng_cases h1
  have x2 := rng_cases h2
  have hB := B_eq
  unfold andR btw
  simp only
  by_cases e5 : c < a <;> by_cases e6 : b < d <;> simp only [e5, e6, if_true, if_false] <;> split <;> (try simp only) <;> omega
theorem end_join {r o : Int × Int} (h1 : RngOk r) (h2 : RngOk o) (g : ¬ Gap r o) : (joinR r o).2 = B ↔ r.2 = B ∨ o.2 = B := by
  obtain ⟨a, b⟩ := r
  obtain ⟨c, d⟩ := o
  have x1 := rng_cases h1
  have x2 := rng_cases h2
  have hB := B_eq
  unfold Gap at g
  unfold joinR btw
  simp only at g ⊢
  by_cases e1 : b < a <;> by_cases e2 : d < c <;> by_cases e3 : a < c <;> by_cases e4 : d < b <;> simp only [e1, e2, e3, e4, if_true, if_false] <;> (repeat' split) <;> (try simp only) <;> omega
/-! ### what the law draws -/
structure Eok (e : Ed) (far : Int) : Prop where
  f0 : 0 ≤ far
  f1 : far ≤ 10 ^ 51
  x0 : far ≤ e.1
  x1 : e.1 ≤ far + 8
  ho : ∀ i, e.2 = some i → e.1 - 1 ≤ i ∧ i ≤ e.1 + 5
theorem p51 : (10 : Int) ^ 51 = 1000000000000000000000000000000000000000000000000000 := by decide +kernel
theorem Eok.b1 {e : Ed} {far : Int} (h : Eok e far) : Bnd e.1 := by
  have hB := B_eq
  have := h.f0; have := h.f1; have := h.x0; have := h.x1
  rw [p51] at *
  exact ⟨by omega, by omega⟩
theorem Eok.b2 {e : Ed} {far : Int} (h : Eok e far) : BndO e.2 := by
  have hB := B_eq
  obtain ⟨x, o⟩ := e
  cases o with
  | none => trivial
  | some i =>
    have := h.f0; have h1 := h.f1; have := h.x0; have := h.x1
    obtain ⟨z1, z2⟩ := h.ho i rfl
    rw [p51] at h1
    simp only at *
    exact ⟨by omega, by omega⟩
theorem eok_rng {e : Ed} {far : Int} (h : Eok e far) : RngOk (mk e) := rng_mk h.b1 h.b2
theorem win_bnd {e : Ed} {far m : Int} (h : Eok e far) (hm : m ∈ win (far - 2) 24) : Bnd m := by
  have hB := B_eq
  have h0 := h.f0
  have h1 := h.f1
  rw [p51] at h1
  have := mem_win.mp hm
  exact ⟨by omega, by omega⟩
theorem wnd_seen {e : Ed} {far : Int} (h : Eok e far) : wnd e far = seen (mk e) far := by
  unfold wnd seen
  rw [List.filter_filter]
  refine List.filter_congr fun m hm => ?_
  have bm := win_bnd h hm
  have hB := B_eq
  obtain ⟨x, o⟩ := e
  have b1 := h.b1
  have b2 := h.b2
  have c1 := bm.1; have c2 := bm.2; have c3 : -B < x := b1.1; have c4 : x < B := b1.2
  cases o with
  | none =>
    show (true && decide (x ≤ m)) = inR (x, B) m
    unfold inR
    simp only [Bool.true_and]
    by_cases c : m < x
    · rw [if_pos c, decide_eq_false (by omega)]
    · rw [if_neg c, decide_eq_true (by omega : x ≤ m)]; simp
  | some i =>
    have c5 : -B < i := b2.1
    have c6 : i < B := b2.2
    show (decide (m ≤ i) && decide (x ≤ m)) = inR (if i < x then (-B, -B - 1) else (x, i)) m
    by_cases k : i < x
    · rw [if_pos k]
      unfold inR
      simp only
      rw [if_neg (by omega : ¬ m < -B), decide_eq_false (by omega : ¬ -B - 1 = B), decide_eq_false (by omega : ¬ m ≤ -B - 1)]
      by_cases k2 : m ≤ i
      · rw [decide_eq_true k2, decide_eq_false (by omega : ¬ x ≤ m)]; rfl
      · rw [decide_eq_false k2]; rfl
    · rw [if_neg k]
      unfold inR
      simp only
      by_cases c : m < x
      · rw [if_pos c, decide_eq_false (by omega : ¬ x ≤ m), Bool.and_false]
      · rw [if_neg c, decide_eq_true (by omega : x ≤ m), Bool.and_true, decide_eq_false (by omega : ¬ i = B), Bool.false_or]
theorem mem_seen {r : Int × Int} {far m : Int} {e : Ed} (he : Eok e far) (h : RngOk r) : m ∈ seen r far ↔ m ∈ win (far - 2) 24 ∧ In r m := by
  unfold seen
  rw [List.mem_filter]
  exact ⟨fun z => ⟨z.1, (inR_iff h (win_bnd he z.1)).mp z.2⟩, fun z => ⟨z.1, (inR_iff h (win_bnd he z.1)).mpr z.2⟩⟩
theorem seen_sorted (r : Int × Int) (far : Int) : (seen r far).Pairwise (· < ·) := (win_sorted _ _).filter _
theorem seen_and {e f : Ed} {far : Int} (he : Eok e far) (hf : Eok f far) : (wnd e far).filter (fun m => decide (m ∈ wnd f far)) = seen (andR (mk e) (mk f)) far := by
  refine sorted_ext ((by rw [wnd_seen he]; exact seen_sorted _ _ : (wnd e far).Pairwise (· < ·)).filter _) (seen_sorted _ _) fun k => ?_
  rw [List.mem_filter, decide_eq_true_eq, wnd_seen he, wnd_seen hf, mem_seen he (eok_rng he), mem_seen he (eok_rng hf), mem_seen he (ok_andR (eok_rng he) (eok_rng hf))]
  constructor
  · rintro ⟨⟨h1, h2⟩, _, h3⟩
    exact ⟨h1, (in_and (eok_rng he) (eok_rng hf) (win_bnd he h1)).mpr ⟨h2, h3⟩⟩
  · rintro ⟨h1, h2⟩
    obtain ⟨h3, h4⟩ := (in_and (eok_rng he) (eok_rng hf) (win_bnd he h1)).mp h2
    exact ⟨⟨h1, h3⟩, h1, h4⟩
theorem seen_join {e f : Ed} {far : Int} (he : Eok e far) (hf : Eok f far) (g : ¬ Gap (mk e) (mk f)) {ms : List Int} (hs : ms.Pairwise (· < ·)) (hm : ∀ k, k ∈ ms ↔ k ∈ wnd e far ∨ k ∈ wnd f far) : seen (joinR (mk e) (mk f)) far = ms := by
  refine sorted_ext (seen_sorted _ _) hs fun k => ?_
  rw [hm, wnd_seen he, wnd_seen hf, mem_seen he (eok_rng he), mem_seen he (eok_rng hf), mem_seen he (ok_joinR (eok_rng he) (eok_rng hf))]
  constructor
  · rintro ⟨h1, h2⟩
    exact ((in_join (eok_rng he) (eok_rng hf) (win_bnd he h1) g).mp h2).imp (fun z => ⟨h1, z⟩) fun z => ⟨h1, z⟩
  · rintro (⟨h1, h2⟩ | ⟨h1, h2⟩)
    · exact ⟨h1, (in_join (eok_rng he) (eok_rng hf) (win_bnd he h1) g).mpr (.inl h2)⟩
    · exact ⟨h1, (in_join (eok_rng he) (eok_rng hf) (win_bnd he h1) g).mpr (.inr h2)⟩
theorem last_mem : ∀ (x : Int) (l : List Int), lastOf x l ∈ x :: l
  | x, [] => List.mem_cons_self
  | x, y :: r => List.mem_cons_of_mem _ (last_mem y r)
theorem mem_bounds : ∀ {x : Int} {l : List Int}, (x :: l).Pairwise (· < ·) → ∀ k ∈ x :: l, x ≤ k ∧ k ≤ lastOf x l
  | x, [], _, k, hk => by
    have e : k = x := by simpa using hk
    rw [e]; exact ⟨Int.le_refl _, Int.le_refl _⟩
  | x, y :: r, h, k, hk => by
    obtain ⟨a1, a2⟩ := List.pairwise_cons.mp h
    have ih := mem_bounds a2
    rcases List.mem_cons.mp hk with e | hk
    · rw [e]
      have := (ih y List.mem_cons_self).2
      have := a1 y List.mem_cons_self
      exact ⟨Int.le_refl _, by show x ≤ lastOf y r; omega⟩
    · have := ih k hk
      have := a1 k hk
      exact ⟨by omega, (ih k hk).2⟩
theorem flw_join {e f : Ed} {far : Int} (he : Eok e far) (hf : Eok f far) (g : ¬ Gap (mk e) (mk f)) {ms : List Int} (hs : ms.Pairwise (· < ·)) (hm : ∀ k, k ∈ ms ↔ k ∈ wnd e far ∨ k ∈ wnd f far) : flw ms = true := by
  have es := seen_join he hf g hs hm
  have ok := ok_joinR (eok_rng he) (eok_rng hf)
  cases ms with
  | nil => rfl
  | cons x l =>
    show decide _ = true
    rw [decide_eq_true_eq]
    refine (tight x l hs).2.2.mpr fun m m1 m2 => ?_
    rw [← es]
    have hx : x ∈ seen (joinR (mk e) (mk f)) far := by rw [es]; exact List.mem_cons_self
    have hl : lastOf x l ∈ seen (joinR (mk e) (mk f)) far := by rw [es]; exact last_mem x l
    obtain ⟨w1, i1⟩ := (mem_seen he ok).mp hx
    obtain ⟨w2, i2⟩ := (mem_seen he ok).mp hl
    have v1 := mem_win.mp w1
    have v2 := mem_win.mp w2
    exact (mem_seen he ok).mpr ⟨mem_win.mpr ⟨by omega, by omega⟩, Int.le_trans i1.1 m1, Int.le_trans m2 i2.2⟩
theorem first_seen {e : Ed} {far : Int} (h : Eok e far) (n : ¬ (mk e).2 < (mk e).1) : (mk e).1 ∈ wnd e far ∧ (mk e).1 = e.1 := by
  have e1 : (mk e).1 = e.1 := by
    obtain ⟨x, o⟩ := e
    cases o with
    | none => rfl
    | some i =>
      by_cases c : i < x
      · exact absurd (by rw [show mk (x, some i) = (-B, -B - 1) from if_pos c]; show -B - 1 < -B; omega) n
      · rw [show mk (x, some i) = (x, i) from if_neg c]
  refine ⟨?_, e1⟩
  rw [wnd_seen h, mem_seen h (eok_rng h)]
  have := h.x0; have := h.x1
  refine ⟨mem_win.mpr ?_, Int.le_refl _, by omega⟩
  rw [e1]
  omega
theorem flw_gap {e f : Ed} {far : Int} (he : Eok e far) (hf : Eok f far) (g : Gap (mk e) (mk f)) {ms : List Int} (hs : ms.Pairwise (· < ·)) (hm : ∀ k, k ∈ ms ↔ k ∈ wnd e far ∨ k ∈ wnd f far) : flw ms = false := by
  obtain ⟨n1, n2, g⟩ := g
  obtain ⟨m1, q1⟩ := first_seen he n1
  obtain ⟨m2, q2⟩ := first_seen hf n2
  have z1 := (hm _).mpr (.inl m1)
  have z2 := (hm _).mpr (.inr m2)
  cases ms with
  | nil => cases z1
  | cons x l =>
    show decide _ = false
    refine decide_eq_false fun q => ?_
    have all := (tight x l hs).2.2.mp q
    have b1 := mem_bounds hs _ z1
    have b2 := mem_bounds hs _ z2
    have no : ∀ k, ¬ In (mk e) k → ¬ In (mk f) k → k ∈ x :: l → False := fun k a1 a2 hk => by
      rcases (hm k).mp hk with h | h
      · rw [wnd_seen he, mem_seen he (eok_rng he)] at h; exact a1 h.2
      · rw [wnd_seen hf, mem_seen he (eok_rng hf)] at h; exact a2 h.2
    rcases g with g | g
    · refine no ((mk f).2 + 1) (fun z => ?_) (fun z => ?_) (all _ (by omega) (by omega))
      · have := z.1; omega
      · have := z.2; omega
    · refine no ((mk e).2 + 1) (fun z => ?_) (fun z => ?_) (all _ (by omega) (by omega))
      · have := z.2; omega
      · have := z.1; omega
theorem mk_end {e : Ed} {far : Int} (h : Eok e far) : (mk e).2 = B ↔ oV e.2 = V.non := by
  obtain ⟨x, o⟩ := e
  have b2 := h.b2
  have hB := B_eq
  cases o with
  | none => exact ⟨fun _ => rfl, fun _ => rfl⟩
  | some i =>
    refine ⟨fun z => ?_, fun z => nomatch z⟩
    have c6 : i < B := b2.2
    by_cases c : i < x
    · rw [show mk (x, some i) = (-B, -B - 1) from if_pos c] at z
      simp only at z
      omega
    · rw [show mk (x, some i) = (x, i) from if_neg c] at z
      simp only at z
      omega

end K05

namespace K05
open PySem PySem.Spec PyProof.Rows L2 Jg
local macro_rules | `(tactic| walk_at "rd1") => `(tactic| (first
  | refine ⟨_, rfl, ?_⟩
  | refine ⟨_, _, rfl, rfl, ?_⟩
  | refine ⟨_, _, rfl, ?_⟩
  | refine ⟨rfl, ?_⟩
  | (refine ⟨show (0 : Int) < _ by omega, ?_⟩)
  | (refine ⟨Or.inl ⟨by omega, by omega⟩, ?_⟩)
  | (refine ⟨Or.inr ⟨by omega, by omega⟩, ?_⟩)
  | (refine ⟨(⟨by decide, by decide, by decide⟩ : CPow _ _), ?_⟩)
  | refine Or.inl ⟨_, rfl, ?_⟩
  | refine Or.inr ⟨_, rfl, ?_⟩
  | fail "rd"))
local macro_rules | `(tactic| walk_at "rd") => `(tactic| repeat' walk_at "rd1")


def spPair (K : PySem.W.Frag) : Sp := fun vs H Q _ => ∃ q r e f far, vs = [.ref q, .ref r, .int far] ∧ SqT K H q (ends e) ∧ SqT K H r (ends f) ∧ Eok e far ∧ Eok f far ∧ ∀ H', Same H H' → Q (.bl true) H'
section
variable {P : Program} {w : World} {K : PySem.W.Frag} {mg : Str → Option Value} {base : Heap} {C : Addr}
abbrev s_law_pair_right : Stmt := top 23
theorem sc_law_pair_right : FnScope ["ends", "others", "far", "one", "other", "mine", "theirs", "common", "whole", "both", "joined", "moment"] ["ends", "others", "far"] (defScope s_law_pair_right) := ⟨rfl, rfl, rfl, by decide +kernel, rfl, by decide +kernel, by decide +kernel⟩
theorem ok_pair (D : DefK K mg "_law_pair_right" s_law_pair_right) (T : Txt K mg C) (M_Range : Mak P w K mg base CX0 3 "Range" C (spInit C)) (G_covers : Met P w K mg base CX0 1 C "covers" (sp2 C cov)) (G_and : Met P w K mg base CX0 7 C "__and__" (spAnd C)) (G_joined : Met P w K mg base CX0 7 C "joined" (spJoin C))
    (G_eq : Met P w K mg base CX0 1 C "__eq__" (spEqR K C)) (G_endless : Prp P w K mg base CX0 1 C "is_endless" (spEnd C)) (G_size : Prp P w K mg base CX0 1 C "size" (spSize C))
    (G_law_window : Cal P w K mg base CX0 1 "_law_window" (spWnd K)) (G_law_seen : Cal P w K mg base CX0 3 "_law_seen" (spSeen C)) (G_law_follow : Cal P w K mg base CX0 1 "_law_follow" (spFlw K)) : Cal P w K mg base CX0 8 "_law_pair_right" (spPair K) := by
  refine D.cal sc_law_pair_right (fun _ _ _ _ _ _ us hl => match us, hl with | [_, _, _], _ => rfl) (fun vs H Q E h => ?_) fun ff cdv A outer s H vs Q E hr h => ?_
  · obtain ⟨q, r, e, f, far, rfl, _⟩ := h; rfl
  · obtain ⟨q, r, e, f, far, rfl, hq, hr', he, hf, k⟩ := h
    have e1 := ed0 e
    have e2 := ed1 e
    have f1 := ed0 f
    have f2 := ed1 f
    refine ⟨_, (pss_cons (ps_par (i := 3) (j := 4) (by rfl) sc_law_pair_right.nd rfl rfl (by decide) rfl rfl (pa_cons (pe_mk M_Range hr (by decide) rfl (pa_cons (pe_ix (r := rIxT K) ix_tup (pv 0) pe_int (fun _ _ => rfl)) (pa_cons (pe_ix (r := rIxT K) ix_tup (pv 0) pe_int (fun _ _ => rfl)) pa_nil))) (pa_cons (pe_mk M_Range hr (by decide) rfl (pa_cons (pe_ix (r := rIxT K) ix_tup (pv 1) pe_int (fun _ _ => rfl)) (pa_cons (pe_ix (r := rIxT K) ix_tup (pv 1) pe_int (fun _ _ => rfl)) pa_nil))) pa_nil)) (by rfl))
      (pss_cons (ps_asg (pe_tup (pa_cons (pe_c G_law_window hr (by decide) rfl (pa_cons (pv 0) (pa_cons (pv 2) pa_nil))) (pa_cons (pe_c G_law_window hr (by decide) rfl (pa_cons (pv 1) (pa_cons (pv 2) pa_nil))) pa_nil))) (pg_tup rfl (pgs_cons (pg_name (i := 5) sc_law_pair_right.nd rfl (Or.inl rfl)) (pgs_cons (pg_name (i := 6) sc_law_pair_right.nd rfl (Or.inr rfl)) pgs_nil))))
      (C8.pss_cut (ps_par (i := 7) (j := 8) (by rfl) sc_law_pair_right.nd rfl rfl (by decide) rfl rfl (pa_cons (pe_lc (own := [("moment", 11)]) (g := gName 11) (by rfl) sc_law_pair_right.nd (pi_list (pv 5)) (blkOk_by (own := [("moment", 11)]) (N := ["ends", "others", "far", "one", "other", "mine", "theirs", "common", "whole", "both", "joined", "moment"]) (sc := defScope s_law_pair_right) (by decide +kernel)) (fun _ _ _ _ _ => pg_name (i := 11) sc_law_pair_right.nd rfl (Or.inl rfl)) (fun _ _ _ _ _ => (pts_one (pt_cmpR (r := rIn K false) op_in_seq (pv 11) (pv 6) rfl))) (fun _ _ _ _ _ => (pv 11))) (pa_cons (pe_callB (cr_sortedSet rfl) (by rfl) T.b_sorted (by decide +kernel) (pa_cons (pe_callTy (cr_setL rfl) (by rfl) T.b_set (by decide +kernel) (pa_cons (pe_op op_cat (pv 5) (pv 6)) pa_nil)) pa_nil)) pa_nil)) (by rfl))
      (C8.pss_cut (ps_par (i := 9) (j := 10) (by rfl) sc_law_pair_right.nd rfl rfl (by decide) rfl rfl (pa_cons (pe_op (op_b G_and T.sf hr (by decide)) (pv 3) (pv 4)) (pa_cons (pe_m G_joined T.cl hr (by decide) (pv 3) (pa_cons (pv 4) pa_nil)) pa_nil)) (by rfl))
      (C8.pss_cut (ps_if (PW.pt (pw_or (pt_cmpR (op_neD hr.units) (pe_c G_law_seen hr (by decide) rfl (pa_cons (pv 9) (pa_cons (pv 2) pa_nil))) (pv 7) (nomark _)) (pw_or1 (pt_cmpR op_ne (pe_p G_endless T.cl hr (by decide) (pv 9)) (pe_and (pe_cmpR op_isN (pe_ix (r := rIxT K) ix_tup (pv 0) pe_int (fun _ _ => rfl)) pe_non (nomark _)) (pe_one (pe_cmpR op_isN (pe_ix (r := rIxT K) ix_tup (pv 1) pe_int (fun _ _ => rfl)) pe_non (nomark _)))) (nomark _))))) (pss_one (ps_ret pe_bl)) pss_nil)
      (C8.pss_cut (ps_if (pt_cmpR op_ne (pe_cmpR op_isN (pv 10) pe_non (nomark _)) (pe_not (pe_c G_law_follow hr (by decide) rfl (pa_cons (pv 8) pa_nil))) (nomark _)) (pss_one (ps_ret pe_bl)) pss_nil)
      (C8.pss_cut (ps_if (pt_cmpR op_notN (pv 10) pe_non (nomark _)) (C8.pss_cut (ps_if (PW.pt (pw_or (pt_cmpR (op_neD hr.units) (pe_c G_law_seen hr (by decide) rfl (pa_cons (pv 10) (pa_cons (pv 2) pa_nil))) (pv 8) (nomark _)) (pw_or1 (pt_cmpR op_ne (pe_p G_endless T.cl hr (by decide) (pv 10)) (pe_or (pe_cmpR op_isN (pe_ix (r := rIxT K) ix_tup (pv 0) pe_int (fun _ _ => rfl)) pe_non (nomark _)) (pe_one (pe_cmpR op_isN (pe_ix (r := rIxT K) ix_tup (pv 1) pe_int (fun _ _ => rfl)) pe_non (nomark _)))) (nomark _))))) (pss_one (ps_ret pe_bl)) pss_nil)
      (pss_one (ps_if (PW.pt (pw_and (pt_not (pt_val (pe_p G_endless T.cl hr (by decide) (pv 10)))) (pw_and1 (pt_cmpR op_ne (pe_op op_add (pe_p G_size T.cl hr (by decide) (pv 10)) (pe_p G_size T.cl hr (by decide) (pv 9))) (pe_op op_add (pe_p G_size T.cl hr (by decide) (pv 3)) (pe_p G_size T.cl hr (by decide) (pv 4))) (nomark _))))) (pss_one (ps_ret pe_bl)) pss_nil))) pss_nil)
      (pss_cons (ps_if (PW.pt (pw_or (pt_cmpR op_ne (pe_m G_covers T.cl hr (by decide) (pv 3) (pa_cons (pv 4) pa_nil)) (pe_cmpR (op_c G_eq hr (by decide)) (pv 9) (pv 4) (nomark _)) (nomark _)) (pw_or1 (pt_cmpR op_ne (pe_cmpR (op_c G_eq hr (by decide)) (pv 9) (pv 3) (nomark _)) (pe_m G_covers T.cl hr (by decide) (pv 4) (pa_cons (pv 3) pa_nil)) (nomark _))))) (pss_one (ps_ret pe_bl)) pss_nil)
      (pss_one (ps_ret (pe_and (pe_cmpR (op_c G_eq hr (by decide)) (pv 3) (pe_mk M_Range hr (by decide) rfl (pa_cons (pe_ix (r := rIxT K) ix_tup (pv 0) pe_int (fun _ _ => rfl)) (pa_cons (pe_ix (r := rIxT K) ix_tup (pv 0) pe_int (fun _ _ => rfl)) pa_nil))) (nomark _)) (pe_and (pe_cmpR (op_c G_eq hr (by decide)) (pv 4) (pe_mk M_Range hr (by decide) rfl (pa_cons (pe_ix (r := rIxT K) ix_tup (pv 1) pe_int (fun _ _ => rfl)) (pa_cons (pe_ix (r := rIxT K) ix_tup (pv 1) pe_int (fun _ _ => rfl)) pa_nil))) (nomark _)) (pe_one (pe_cmpR (op_c G_eq hr (by decide)) (pv 9) (pe_op (op_b G_and T.sf hr (by decide)) (pv 4) (pv 3)) (nomark _))))))))))))))), ?_⟩
    -- one, other
    refine ⟨_, rfl, q, _, 0, _, rfl, rfl, hq, e1, _, rfl, q, _, 1, _, rfl, rfl, hq, e2, fun x dx nx ndx nex => ⟨x, dx, e.1, e.2, rfl, upd_same, he.b1, he.b2, fun H1 R1 kp1 => ⟨rfl, ?_⟩⟩⟩
    have s1 : Same H H1 := Same.made nx ndx kp1
    refine ⟨_, rfl, r, _, 0, _, rfl, rfl, same_tup s1 hr', f1, _, rfl, r, _, 1, _, rfl, rfl, same_tup s1 hr', f2, fun y dy ny ndy ney => ⟨y, dy, f.1, f.2, rfl, upd_same, hf.b1, hf.b2, fun H2 R2 kp2 => ⟨rfl, ?_⟩⟩⟩
    have s2 : Same H1 H2 := Same.made ny ndy kp2
    have s02 := s1.trans s2
    have X2 : RAt C H2 x (mk e) := same_rat s2 R1
    have Y2 : RAt C H2 y (mk f) := R2
    refine ⟨_, _, rfl, ?_⟩
    -- mine, theirs
    refine ⟨_, rfl, _, rfl, q, e, far, rfl, same_tup s02 hq, fun m1 H3 _ s23 d1 => ?_⟩
    refine ⟨_, rfl, _, rfl, r, f, far, rfl, same_tup (s02.trans s23) hr', fun m2 H4 _ s34 d2 => ?_⟩
    refine ⟨by show 2 ≤ sizeLine; decide, fun tp ntp => ⟨tp, _, rfl, SqT.of upd_same, rfl, _, _, rfl, _, _, rfl, rfl, ?_⟩⟩
    have s45 := same_new (o := .tup [.ref m1, .ref m2]) ntp
    have D1 := s45 _ _ (s34 _ _ d1)
    have D2 := s45 _ _ d2
    have s05 := (s02.trans s23).trans (s34.trans s45)
    have s25 := s23.trans (s34.trans s45)
    have l1 : (wnd e far).length ≤ 24 := Nat.le_trans (List.length_filter_le ..) (Nat.le_trans (List.length_filter_le ..) (by rw [win_len]; exact Nat.le_refl _))
    have l2 : (wnd f far).length ≤ 24 := Nat.le_trans (List.length_filter_le ..) (Nat.le_trans (List.length_filter_le ..) (by rw [win_len]; exact Nat.le_refl _))
    revert D1 D2 s05 s25
    generalize upd H4 tp (.tup [.ref m1, .ref m2]) = H5
    intro D1 D2 s05 s25
    -- common, whole
    refine ⟨fun sg H' => ∃ (cm wl : Addr) (ms : List Int), sg = [some (.ref q), some (.ref r), some (.int far), some (.ref x), some (.ref y), some (.ref m1), some (.ref m2), some (.ref cm), some (.ref wl), none, none, none] ∧ Same H5 H' ∧
      H' cm = some (.lst ((seen (andR (mk e) (mk f)) far).map V.int)) ∧ H' wl = some (.lst (ms.map V.int)) ∧ ms.Pairwise (· < ·) ∧ (∀ k, k ∈ ms ↔ k ∈ wnd e far ∨ k ∈ wnd f far) ∧ ms.length ≤ 64, ?_, ?_⟩
    · refine ⟨_, rfl, m1, rfl, ⟨_, SqL.of D1⟩, fun cm ncm => ?_⟩
      refine lcf_list (K := K) (a := m1) (ms := wnd e far) (fun m => decide (m ∈ wnd f far)) (SqL.of D1) ncm (by omega) (fun m => rfl) (fun m => rfl) (fun m Hm kk _ sm qq => ?_) ?_
      · exact ⟨_, rfl, _, rfl, ask_in (SqL.of (sm _ _ D2)) ⟨_, rfl, qq⟩⟩
      rw [seen_and he hf]
      have s56 := same_new (o := .lst ((seen (andR (mk e) (mk f)) far).map V.int)) ncm
      refine ⟨_, rfl, _, rfl, m1, m2, _, _, rfl, rfl, s56 _ _ D1, s56 _ _ D2, ?_, fun ct nct => ?_⟩
      · rw [List.length_map, List.length_map]
        exact Nat.le_of_lt (small1000 (by omega))
      have s6a := same_new (o := .lst ((wnd e far).map V.int ++ (wnd f far).map V.int)) nct
      refine ⟨ct, wnd e far ++ wnd f far, rfl, map_cat (SqL.of upd_same), ?_, fun st c nst hc => ?_⟩
      · rw [List.length_append]
        exact Nat.lt_of_le_of_lt (by omega : _ ≤ 49) (by decide)
      have s7a := same_new (o := SetO w st (fun j => decide (j ∈ wnd e far ++ wnd f far)) c) nst
      rw [List.length_append] at hc
      refine ⟨st, _, c, rfl, upd_same, by omega, fun ms wl hs hm hlen nwl => ⟨_, _, rfl, ?_⟩⟩
      have s8a := same_new (o := .lst (ms.map V.int)) nwl
      have sAll := s6a.trans (s7a.trans s8a)
      exact ⟨cm, wl, ms, rfl, s56.trans sAll, sAll _ _ upd_same, upd_same, hs, fun k => by rw [hm, decide_eq_true_eq, List.mem_append], by omega⟩
    rintro sg H9 ⟨cm, wl, ms, rfl, s59, DC, DW, hs, hm', hml⟩
    have s09 := s05.trans s59
    have s29 := s25.trans s59
    have X9 : RAt C H9 x (mk e) := same_rat s29 X2
    have Y9 : RAt C H9 y (mk f) := same_rat s29 Y2
    obtain ⟨dx9, hx9⟩ := id X9
    obtain ⟨dy9, hy9⟩ := id Y9
    -- both, joined
    refine ⟨fun sg H' => ∃ b jv, sg = [some (.ref q), some (.ref r), some (.int far), some (.ref x), some (.ref y), some (.ref m1), some (.ref m2), some (.ref cm), some (.ref wl), some (.ref b), some jv, none] ∧ Same H9 H' ∧ RAt C H' b (andR (mk e) (mk f)) ∧
      ((jv = .non ∧ Gap (mk e) (mk f)) ∨ (∃ j, jv = .ref j ∧ RAt C H' j (joinR (mk e) (mk f)) ∧ ¬ Gap (mk e) (mk f))), ?_, ?_⟩
    · refine ⟨_, rfl, _, rfl, x, y, dx9, _, dy9, _, rfl, rfl, hx9, hy9, x, y, _, _, rfl, X9, Y9, eok_rng he, eok_rng hf, fun b Hb _ sb Rb => ?_⟩
      refine ⟨_, rfl, x, dx9, _, rfl, sb _ _ hx9, get_no _ (by decide +kernel) (by decide +kernel), _, rfl, x, y, _, _, rfl, same_rat sb X9, same_rat sb Y9, eok_rng he, eok_rng hf, ?_, ?_, ?_, ?_⟩
      · intro c
        exact ⟨_, _, rfl, b, _, rfl, sb, Rb, .inr ⟨y, rfl, by unfold joinR; rw [if_pos c]; exact same_rat sb Y9, fun z => z.1 c⟩⟩
      · intro c c2
        exact ⟨_, _, rfl, b, _, rfl, sb, Rb, .inr ⟨x, rfl, by unfold joinR; rw [if_neg c, if_pos c2]; exact same_rat sb X9, fun z => z.2.1 c2⟩⟩
      · intro c c2 c3
        exact ⟨_, _, rfl, b, _, rfl, sb, Rb, .inl ⟨rfl, c, c2, c3⟩⟩
      · intro c c2 c3 j Hj _ sj Rj
        exact ⟨_, _, rfl, b, _, rfl, sb.trans sj, same_rat sj Rb, .inr ⟨j, rfl, by unfold joinR; rw [if_neg c, if_neg c2]; exact Rj, fun z => c3 z.2.2⟩⟩
    rintro sg Ha ⟨b, jv, rfl, sa, RB, hj⟩
    have XA : RAt C Ha x (mk e) := same_rat sa X9
    have YA : RAt C Ha y (mk f) := same_rat sa Y9
    have CA := sa _ _ DC
    have WA := sa _ _ DW
    have qA := same_tup (s09.trans sa) hq
    have rA := same_tup (s09.trans sa) hr'
    have re := eok_rng he
    have rf := eok_rng hf
    have ea := end_and re rf
    have o1 : decide (oV e.2 = V.non) = decide ((mk e).2 = B) := by
      by_cases c : (mk e).2 = B
      · rw [decide_eq_true c, decide_eq_true ((mk_end he).mp c)]
      · rw [decide_eq_false c, decide_eq_false fun z => c ((mk_end he).mpr z)]
    have o2 : decide (oV f.2 = V.non) = decide ((mk f).2 = B) := by
      by_cases c : (mk f).2 = B
      · rw [decide_eq_true c, decide_eq_true ((mk_end hf).mp c)]
      · rw [decide_eq_false c, decide_eq_false fun z => c ((mk_end hf).mpr z)]
    -- what both tells
    refine ⟨fun sg H' => sg = [some (.ref q), some (.ref r), some (.int far), some (.ref x), some (.ref y), some (.ref m1), some (.ref m2), some (.ref cm), some (.ref wl), some (.ref b), some jv, none] ∧ Same Ha H', ?_, ?_⟩
    · refine ⟨_, rfl, _, rfl, b, _, far, rfl, RB, fun n1 Hb _ sb dn1 => ⟨_, rfl, ask_neL (SqL.of dn1) (SqL.of (sb _ _ CA)) ⟨_, rfl, iteFe (by rw [decide_eq_true rfl]; rfl) ?_⟩⟩⟩
      obtain ⟨dxb, hbb⟩ := id (same_rat sb RB)
      refine ⟨_, rfl, b, dxb, _, rfl, hbb, b, _, rfl, same_rat sb RB, ?_⟩
      refine ⟨_, rfl, q, _, 1, _, rfl, rfl, same_tup sb qA, e2, rfl, _, rfl, ?_⟩
      rw [o1]
      by_cases c1 : (mk e).2 = B
      · refine iteTe (decide_eq_true c1) ⟨_, rfl, r, _, 1, _, rfl, rfl, same_tup sb rA, f2, rfl, rfl, _, rfl, iteFe ?_ ⟨rfl, sb⟩⟩
        rw [o2]
        have z : decide ((mk f).2 = B) = decide ((andR (mk e) (mk f)).2 = B) := by
          by_cases c2 : (mk f).2 = B
          · rw [decide_eq_true c2, decide_eq_true (ea.mpr ⟨c1, c2⟩)]
          · rw [decide_eq_false c2, decide_eq_false fun z => c2 (ea.mp z).2]
        rw [z, decide_eq_true rfl]; rfl
      · refine iteFe (decide_eq_false c1) ⟨rfl, _, rfl, iteFe ?_ ⟨rfl, sb⟩⟩
        rw [decide_eq_false fun z => c1 (ea.mp z).1, decide_eq_true rfl]; rfl
    rintro sg Hb ⟨rfl, sb⟩
    -- joined or none
    refine ⟨fun sg H' => sg = [some (.ref q), some (.ref r), some (.int far), some (.ref x), some (.ref y), some (.ref m1), some (.ref m2), some (.ref cm), some (.ref wl), some (.ref b), some jv, none] ∧ Same Ha H', ?_, ?_⟩
    · refine ⟨_, rfl, rfl, _, rfl, wl, ms, rfl, SqL.of (sb _ _ WA), by omega, fun He se => ?_⟩
      rcases hj with ⟨rfl, g⟩ | ⟨j, rfl, RJ, g⟩
      · refine ⟨_, rfl, rfl, _, rfl, iteFe ?_ ⟨rfl, sb.trans se⟩⟩
        rw [flw_gap he hf g hs hm']; rfl
      · refine ⟨_, rfl, rfl, _, rfl, iteFe ?_ ⟨rfl, sb.trans se⟩⟩
        rw [flw_join he hf g hs hm']; rfl
    rintro sg Hc ⟨rfl, sc⟩
    refine ⟨fun sg H' => sg = [some (.ref q), some (.ref r), some (.int far), some (.ref x), some (.ref y), some (.ref m1), some (.ref m2), some (.ref cm), some (.ref wl), some (.ref b), some jv, none] ∧ Same Ha H', ?_, ?_⟩
    · rcases hj with ⟨rfl, g⟩ | ⟨j, rfl, RJ, g⟩
      · exact ⟨_, rfl, rfl, _, rfl, iteFe rfl ⟨rfl, sc⟩⟩
      · refine ⟨_, rfl, rfl, _, rfl, iteTe rfl ?_⟩
        have ej := end_join re rf g
        refine ⟨fun sg H' => sg = [some (.ref q), some (.ref r), some (.int far), some (.ref x), some (.ref y), some (.ref m1), some (.ref m2), some (.ref cm), some (.ref wl), some (.ref b), some (.ref j), none] ∧ Same Ha H', ?_, ?_⟩
        · refine ⟨_, rfl, _, rfl, j, _, far, rfl, same_rat sc RJ, fun n1 He _ se dn1 => ⟨_, rfl, ask_neL (SqL.of dn1) (SqL.of ((sc.trans se) _ _ WA)) ⟨_, rfl, iteFe (by rw [seen_join he hf g hs hm', decide_eq_true rfl]; rfl) ?_⟩⟩⟩
          have sce := sc.trans se
          obtain ⟨dxj, hjj⟩ := id (same_rat sce RJ)
          refine ⟨_, rfl, j, dxj, _, rfl, hjj, j, _, rfl, same_rat sce RJ, ?_⟩
          refine ⟨_, rfl, q, _, 1, _, rfl, rfl, same_tup sce qA, e2, rfl, _, rfl, ?_⟩
          rw [o1]
          by_cases c1 : (mk e).2 = B
          · refine iteTe (decide_eq_true c1) ⟨rfl, _, rfl, iteFe ?_ ⟨rfl, sce⟩⟩
            rw [decide_eq_true (ej.mpr (.inl c1)), decide_eq_true rfl]; rfl
          · refine iteFe (decide_eq_false c1) ⟨_, rfl, r, _, 1, _, rfl, rfl, same_tup sce rA, f2, rfl, rfl, _, rfl, iteFe ?_ ⟨rfl, sce⟩⟩
            rw [o2]
            have z : decide ((joinR (mk e) (mk f)).2 = B) = decide ((mk f).2 = B) := by
              by_cases c2 : (mk f).2 = B
              · rw [decide_eq_true c2, decide_eq_true (ej.mpr (.inr c2))]
              · rw [decide_eq_false c2, decide_eq_false fun z => (ej.mp z).elim c1 c2]
            rw [z, decide_eq_true rfl]; rfl
        rintro sg He ⟨rfl, se⟩
        obtain ⟨dxj, hjj⟩ := id (same_rat se RJ)
        obtain ⟨dxb, hbb⟩ := id (same_rat se RB)
        obtain ⟨dxx, hxx⟩ := id (same_rat se XA)
        obtain ⟨dxy, hyy⟩ := id (same_rat se YA)
        refine ⟨_, rfl, j, dxj, _, rfl, hjj, j, _, rfl, same_rat se RJ, _, rfl, ?_⟩
        by_cases cj : (joinR (mk e) (mk f)).2 = B
        · refine iteFe (by rw [decide_eq_true cj]; rfl) ⟨rfl, se⟩
        · have ce : (mk e).2 ≠ B := fun z => cj (ej.mpr (.inl z))
          have cf : (mk f).2 ≠ B := fun z => cj (ej.mpr (.inr z))
          have cb : (andR (mk e) (mk f)).2 ≠ B := fun z => ce (ea.mp z).1
          have zj : sizeV (joinR (mk e) (mk f)) = .int ((joinR (mk e) (mk f)).2 - (joinR (mk e) (mk f)).1 + 1) := if_neg cj
          have zb : sizeV (andR (mk e) (mk f)) = .int ((andR (mk e) (mk f)).2 - (andR (mk e) (mk f)).1 + 1) := if_neg cb
          have ze : sizeV (mk e) = .int ((mk e).2 - (mk e).1 + 1) := if_neg ce
          have zf : sizeV (mk f) = .int ((mk f).2 - (mk f).1 + 1) := if_neg cf
          refine iteTe (by rw [decide_eq_false cj]; rfl) ?_
          refine ⟨_, rfl, j, dxj, _, rfl, hjj, j, _, rfl, same_rat se RJ, ?_⟩
          refine ⟨_, rfl, b, dxb, _, rfl, hbb, b, _, rfl, same_rat se RB, _, _, zj, zb, ?_⟩
          refine ⟨_, rfl, x, dxx, _, rfl, hxx, x, _, rfl, same_rat se XA, ?_⟩
          refine ⟨_, rfl, y, dxy, _, rfl, hyy, y, _, rfl, same_rat se YA, _, _, ze, zf, rfl, _, rfl, iteFe ?_ ⟨rfl, se⟩⟩
          show (!decide (V.int _ = V.int _)) = false
          rw [size_join re rf g, decide_eq_true rfl]; rfl
    rintro sg Hd ⟨rfl, sd⟩
    obtain ⟨dxb, hbb⟩ := id (same_rat sd RB)
    obtain ⟨dxx, hxx⟩ := id (same_rat sd XA)
    obtain ⟨dxy, hyy⟩ := id (same_rat sd YA)
    have XD := same_rat sd XA
    have YD := same_rat sd YA
    have BD := same_rat sd RB
    refine ⟨_, rfl, x, dxx, _, rfl, hxx, get_no _ (by decide +kernel) (by decide +kernel), _, rfl, x, y, _, _, rfl, XD, YD, ?_⟩
    refine ⟨_, rfl, _, rfl, b, dxb, _, .ref C, rfl, hbb, T.ty YD, T.oCC, b, _, _, rfl, BD, .inl ⟨y, _, rfl, YD, fun He se => ⟨rfl, _, rfl, iteFe ?_ ?_⟩⟩⟩
    · rw [cov_and re rf, decide_eq_true rfl]; rfl
    have XE := same_rat se XD
    have YE := same_rat se YD
    obtain ⟨dxb, hbb⟩ := id (same_rat se BD)
    obtain ⟨dxx, hxx⟩ := id XE
    obtain ⟨dxy, hyy⟩ := id YE
    refine ⟨_, rfl, _, rfl, b, dxb, _, .ref C, rfl, hbb, T.ty XE, T.oCC, b, _, _, rfl, same_rat se BD, .inl ⟨x, _, rfl, XE, fun Hf sf => ?_⟩⟩
    refine ⟨_, rfl, y, dxy, _, rfl, sf _ _ hyy, get_no _ (by decide +kernel) (by decide +kernel), _, rfl, y, x, _, _, rfl, same_rat sf YE, same_rat sf XE, rfl, _, rfl, iteFe ?_ ?_⟩
    · rw [cov_and rf re, and_comm' _ _ rf re, decide_eq_true rfl]; rfl
    have sF := (sd.trans se).trans sf
    have XF := same_rat sf XE
    have YF := same_rat sf YE
    have BF := same_rat sf (same_rat se BD)
    have sHF := (s09.trans sa).trans sF
    obtain ⟨dxx, hxx⟩ := id XF
    refine ⟨_, rfl, _, rfl, q, _, 0, _, rfl, rfl, same_tup sHF hq, e1, _, rfl, q, _, 1, _, rfl, rfl, same_tup sHF hq, e2, fun x1 dx1 nx1 ndx1 nex1 => ⟨x1, dx1, e.1, e.2, rfl, upd_same, he.b1, he.b2, fun Hg Rg kpg => ⟨rfl, ?_⟩⟩⟩
    have sg : Same Hf Hg := Same.made nx1 ndx1 kpg
    refine ⟨x, dxx, _, .ref C, rfl, sg _ _ hxx, T.ty Rg, T.oCC, x, _, _, rfl, same_rat sg XF, .inl ⟨x1, _, rfl, Rg, fun Hh sh => ?_⟩⟩
    refine ⟨_, rfl, iteTe (decide_eq_true rfl) ?_⟩
    have sFh := sg.trans sh
    have sHh := sHF.trans sFh
    have YH := same_rat sFh YF
    obtain ⟨dxy, hyy⟩ := id YH
    refine ⟨_, rfl, _, rfl, r, _, 0, _, rfl, rfl, same_tup sHh hr', f1, _, rfl, r, _, 1, _, rfl, rfl, same_tup sHh hr', f2, fun y1 dy1 ny1 ndy1 ney1 => ⟨y1, dy1, f.1, f.2, rfl, upd_same, hf.b1, hf.b2, fun Hi Ri kpi => ⟨rfl, ?_⟩⟩⟩
    have si : Same Hh Hi := Same.made ny1 ndy1 kpi
    refine ⟨y, dxy, _, .ref C, rfl, si _ _ hyy, T.ty Ri, T.oCC, y, _, _, rfl, same_rat si YH, .inl ⟨y1, _, rfl, Ri, fun Hj sj => ?_⟩⟩
    refine ⟨_, rfl, iteTe (decide_eq_true rfl) ?_⟩
    have sij := si.trans sj
    have sFj := sFh.trans sij
    have XJ := same_rat sFj XF
    have YJ := same_rat sFj YF
    obtain ⟨dxb, hbb⟩ := id (same_rat sFj BF)
    obtain ⟨dxx, hxx⟩ := id XJ
    obtain ⟨dxy, hyy⟩ := id YJ
    refine ⟨_, rfl, _, rfl, _, rfl, y, x, dxy, _, dxx, _, rfl, rfl, hyy, hxx, y, x, _, _, rfl, YJ, XJ, rf, re, fun z Hk _ sk Rz => ?_⟩
    refine ⟨b, dxb, _, .ref C, rfl, sk _ _ hbb, T.ty Rz, T.oCC, b, _, _, rfl, ⟨dxb, sk _ _ hbb⟩, .inl ⟨z, _, rfl, Rz, fun Hl sl => ?_⟩⟩
    have fin : decide (andR (mk e) (mk f) = andR (mk f) (mk e)) = true := decide_eq_true (and_comm' _ _ re rf)
    rw [fin]
    exact k _ ((sHF.trans sFj).trans (sk.trans sl))
end

end K05

namespace K05
open PySem PySem.Spec PyProof.Rows L2 Jg
local macro_rules | `(tactic| walk_at "rd1") => `(tactic| (first
  | refine ⟨_, rfl, ?_⟩
  | refine ⟨_, _, rfl, rfl, ?_⟩
  | refine ⟨_, _, rfl, ?_⟩
  | refine ⟨rfl, ?_⟩
  | (refine ⟨show (0 : Int) < _ by omega, ?_⟩)
  | (refine ⟨Or.inl ⟨by omega, by omega⟩, ?_⟩)
  | (refine ⟨Or.inr ⟨by omega, by omega⟩, ?_⟩)
  | (refine ⟨(⟨by decide, by decide, by decide⟩ : CPow _ _), ?_⟩)
  | refine Or.inl ⟨_, rfl, ?_⟩
  | refine Or.inr ⟨_, rfl, ?_⟩
  | fail "rd"))
local macro_rules | `(tactic| walk_at "rd") => `(tactic| repeat' walk_at "rd1")


/-- a stream stands at p -/
def StA (H : Hp) (p : Addr) : Prop := ∃ a b, H p = some (.lst [.int a, .int b]) ∧ 0 ≤ a
def spLaw (K : PySem.W.Frag) : Sp := fun vs H Q _ => ∃ (a : Addr) (ns : List Int), vs = [.ref a] ∧ SqL K H a (ns.map V.int) ∧ ns.length ≤ 63 ∧ ∀ H', Q (.bl true) H'
theorem p50 : (10 : Int) ^ (50 : Int).toNat = 100000000000000000000000000000000000000000000000000 := by decide +kernel
theorem far_eq {c v1 v2 : Int} (c0 : 0 ≤ c) (c1 : c ≤ 5) (h0 : 0 ≤ v1) (h1 : v1 < 10 ^ (50 : Int).toNat) (g0 : 0 ≤ v2) (g1 : v2 < 2) : 0 ≤ c + v1 * v2 ∧ c + v1 * v2 ≤ 10 ^ 51 := by
  rw [p50] at h1
  rw [p51]
  have : v2 = 0 ∨ v2 = 1 := by omega
  rcases this with rfl | rfl
  · rw [Int.mul_zero]; omega
  · rw [Int.mul_one]; omega
section
variable {P : Program} {w : World} {K : PySem.W.Frag} {mg : Str → Option Value} {base : Heap} {C : Addr}
abbrev s_law : Stmt := top 24
theorem sc_law : FnScope ["script", "k", "stream", "far", "turn", "ends", "others"] ["script"] (defScope s_law) := ⟨rfl, rfl, rfl, by decide +kernel, rfl, by decide +kernel, by decide +kernel⟩
theorem body_law (T : Txt K mg C) (G_law_stream : Cal P w K mg base CX0 1 "_law_stream" (spStream K)) (G_law_choose : Cal P w K mg base CX0 2 "_law_choose" (spChoose K)) (G_law_draw : Cal P w K mg base CX0 1 "_law_draw" spDraw)
    (G_law_drawn : Cal P w K mg base CX0 2 "_law_drawn" spDrawn) (G_law_pair_right : Cal P w K mg base CX0 8 "_law_pair_right" (spPair K))
    (ff : Addr) (cdv : Value) (A : Around) (outer : List Env) (s : Shared) (H : Hp) (vs : List V) (Q : VK) (E : XK) (hr : Room 8 (A.deeper (envOfC "law" (defScope s_law) s.heap.objs.size ff cdv))) (h : spLaw K vs H Q E) :
    ∃ t, PSs (cxOf CX0 P w K mg base ["script", "k", "stream", "far", "turn", "ends", "others"] "law" (defScope s_law) ff cdv A outer s H E).nox (defBody s_law) t ∧ t { nx := fun _ H' => Q .non H', rt := Q } (start ["script", "k", "stream", "far", "turn", "ends", "others"] vs) H := by
  obtain ⟨a, ns, rfl, hS, hl, k⟩ := h
  refine ⟨_, (pss_cons (ps_for PassesOwn.never rfl (pi_range1 (by rfl) T.b_range (pa_cons (pe_callB (call_max2 rfl) (by rfl) T.b_max (by decide +kernel) (pa_cons pe_int (pa_cons (pe_callB (call_min2 rfl) (by rfl) T.b_min (by decide +kernel) (pa_cons pe_int (pa_cons (pe_callB call_len_seq (by rfl) T.b_len (by decide +kernel) (pa_cons (pv 0) pa_nil)) pa_nil))) pa_nil))) pa_nil)) (pg_name (i := 1) sc_law.nd rfl (Or.inl rfl)) (pss_cons (ps_set (i := 2) sc_law.nd rfl (Or.inl rfl) (pe_c G_law_stream hr (by decide) rfl (pa_cons (pv 0) (pa_cons (pv 1) pa_nil))))
      (pss_cons (ps_set (i := 3) sc_law.nd rfl (Or.inl rfl) (pe_op op_add (pe_c G_law_choose hr (by decide) rfl (pa_cons (pv 2) (pa_cons (pe_lst (pa_cons pe_int (pa_cons pe_int (pa_cons pe_int pa_nil)))) pa_nil))) (pe_op op_mul (pe_c G_law_draw hr (by decide) rfl (pa_cons (pv 2) (pa_cons (pe_op op_pow pe_int pe_int) pa_nil))) (pe_c G_law_draw hr (by decide) rfl (pa_cons (pv 2) (pa_cons pe_int pa_nil))))))
      (pss_one (ps_for PassesOwn.never rfl (pi_range1 (by rfl) T.b_range (pa_cons pe_int pa_nil)) (pg_name (i := 4) sc_law.nd rfl (Or.inl rfl)) (pss_cons (ps_par (i := 5) (j := 6) (by rfl) sc_law.nd rfl rfl (by decide) rfl rfl (pa_cons (pe_c G_law_drawn hr (by decide) rfl (pa_cons (pv 2) (pa_cons (pv 3) pa_nil))) (pa_cons (pe_c G_law_drawn hr (by decide) rfl (pa_cons (pv 2) (pa_cons (pv 3) pa_nil))) pa_nil)) (by rfl))
      (pss_one (ps_if (PW.pt (pw_or (pt_not (pt_val (pe_c G_law_pair_right hr (by decide) rfl (pa_cons (pv 5) (pa_cons (pv 6) (pa_cons (pv 3) pa_nil)))))) (pw_or1 (pt_not (pt_val (pe_c G_law_pair_right hr (by decide) rfl (pa_cons (pv 6) (pa_cons (pv 5) (pa_cons (pv 3) pa_nil))))))))) (pss_one (ps_ret pe_bl)) pss_nil))))))))
      (pss_one (ps_ret pe_bl))), ?_⟩
  refine ⟨_, rfl, a, _, rfl, .inl hS, _, _, rfl, _, _, rfl, _, rfl, by split <;> split <;> omega, by rw [List.length_map]; split <;> split <;> omega, ?_⟩
  have tn : ∀ i : Nat, i < (if (if ((ns.map V.int).length : Int) < 8 then ((ns.map V.int).length : Int) else 8) > 1 then (if ((ns.map V.int).length : Int) < 8 then ((ns.map V.int).length : Int) else 8) else 1).toNat → i ≤ 1000 := by
    intro i hi
    rw [List.length_map] at hi
    split at hi <;> split at hi <;> omega
  refine for_range (lo := 0) (fun i sg H' => ∃ v1 v2 v3 v4 v5 v6 : Option V, sg = [some (.ref a), v1, v2, v3, v4, v5, v6] ∧ Same H H') ⟨_, _, _, _, _, _, rfl, .refl H⟩ ?_ ?_
  · rintro i sg H1 hi ⟨v1, v2, v3, v4, v5, v6, rfl, s1⟩
    have hk := tn i hi
    clear tn hi
    have ei : (0 : Int) + (i : Nat) = ((i : Nat) : Int) := by omega
    rw [ei]
    -- stream = _law_stream(script, k)
    refine ⟨_, rfl, _, rfl, a, ns, i, rfl, s1.seq hS, hk, fun p x y np hx => ?_⟩
    have npH : H p = none := s1.free np
    -- far
    refine ⟨_, rfl, by show 3 ≤ sizeLine; decide, fun l nl => ?_⟩
    have hl1 : l ≠ p := fun z => by rw [z, upd_same] at nl; cases nl
    refine ⟨p, l, x, y, _, rfl, by rw [upd_ne hl1.symm, upd_same], hx, SqL.of upd_same, hl1, by show 0 < 3; decide, by show 3 < 1000; decide, fun j v a1 b1 hv ha1 => ?_⟩
    have hc : ∃ c, v = V.int c ∧ 0 ≤ c ∧ c ≤ 5 := by
      match j, hv with
      | 0, hv => cases hv; exact ⟨0, rfl, by decide, by decide⟩
      | 1, hv => cases hv; exact ⟨0, rfl, by decide, by decide⟩
      | 2, hv => cases hv; exact ⟨_, rfl, by decide, by decide⟩
      | j + 3, hv => cases hv
    obtain ⟨c, rfl, c0, c1⟩ := hc
    refine ⟨_, rfl, _, _, rfl, rfl, ⟨by decide, by decide, by decide⟩, p, a1, b1, _, rfl, upd_same, ha1, by decide +kernel, by decide +kernel, fun w1 a2 b2 h0 h1 ha2 => ?_⟩
    refine ⟨_, rfl, p, a2, b2, 2, rfl, upd_same, ha2, by decide, by decide +kernel, fun w2 a3 b3 g0 g1 ha3 => ?_⟩
    refine ⟨_, _, rfl, rfl, .inr ⟨by omega, by omega⟩, _, _, rfl, rfl, ?_⟩
    obtain ⟨f0, f1⟩ := far_eq c0 c1 h0 h1 g0 g1
    obtain ⟨far, hfar⟩ : ∃ far : Int, far = c + w1 * w2 := ⟨_, rfl⟩
    rw [← hfar] at f0 f1
    rw [upd_upd, upd_upd]
    have sA : Same H (upd (upd (upd H1 p (.lst [.int x, .int y])) l (.lst [.int 0, .int 0, .int 5])) p (.lst [.int a3, .int b3])) :=
      same_mut (same_new' (same_new' s1 np) nl) npH
    -- for turn in range(8)
    refine ⟨8, rfl, by decide, by decide, ?_⟩
    refine for_range (lo := 0) (n := 8) (fun _ sg H' => ∃ v4 v5 v6 : Option V, sg = [some (.ref a), some (.int i), some (.ref p), some (.int far), v4, v5, v6] ∧ Same H H' ∧ StA H' p) ⟨_, _, _, by rw [hfar]; rfl, sA, _, _, upd_same, ha3⟩ ?_ ?_
    · rintro t sg H2 _ ⟨v4, v5, v6, rfl, s2, a2, b2, hp2, ha2⟩
      clear sA
      refine ⟨_, rfl, _, rfl, p, a2, b2, far, rfl, hp2, ha2, fun x1 o1 q a3 b3 x10 x11 ho1 ha3 nq => ?_⟩
      have hqp : q ≠ p := fun z => by rw [z, upd_same] at nq; cases nq
      refine ⟨_, rfl, _, rfl, p, a3, b3, far, rfl, by rw [upd_ne hqp.symm, upd_same], ha3, fun x2 o2 q2 a5 b5 x20 x21 ho2 ha5 nq2 => ?_⟩
      have hq2p : q2 ≠ p := fun z => by rw [z, upd_same] at nq2; cases nq2
      have hq2q : q2 ≠ q := fun z => by rw [z, upd_ne hqp, upd_same] at nq2; cases nq2
      refine ⟨_, _, rfl, ?_⟩
      have sC := same_new' (o := .tup (ends (x2, o2))) (same_mut (o := .lst [.int a5, .int b5]) (same_new' (o := .tup (ends (x1, o1))) (same_mut (o := .lst [.int a3, .int b3]) s2 npH) nq) npH) nq2
      revert sC
      generalize hHc : upd (upd (upd (upd H2 p (.lst [.int a3, .int b3])) q (.tup (ends (x1, o1)))) p (.lst [.int a5, .int b5])) q2 (.tup (ends (x2, o2))) = Hc
      intro sC
      have cq : Hc q = some (.tup (ends (x1, o1))) := by rw [← hHc, upd_ne hq2q.symm, upd_ne hqp, upd_same]
      have cq2 : Hc q2 = some (.tup (ends (x2, o2))) := by rw [← hHc, upd_same]
      have cp : Hc p = some (.lst [.int a5, .int b5]) := by rw [← hHc, upd_ne hq2p.symm, upd_same]
      have e1 : Eok (x1, o1) far := ⟨f0, f1, x10, x11, ho1⟩
      have e2 : Eok (x2, o2) far := ⟨f0, f1, x20, x21, ho2⟩
      have tq := SqT.of (K := K) cq
      have tq2 := SqT.of (K := K) cq2
      refine ⟨_, rfl, _, rfl, _, rfl, q, q2, _, _, far, rfl, tq, tq2, e1, e2, fun H5 s5 => ⟨_, rfl, iteFe rfl ?_⟩⟩
      refine ⟨_, rfl, _, rfl, _, rfl, q2, q, _, _, far, rfl, same_tup s5 tq2, same_tup s5 tq, e2, e1, fun H6 s6 => ⟨_, rfl, iteFe rfl ?_⟩⟩
      have s56 := s5.trans s6
      exact ⟨_, _, _, rfl, sC.trans s56, _, _, s56 _ _ cp, ha5⟩
    · rintro sg H2 ⟨v4, v5, v6, rfl, s2, _⟩
      exact ⟨_, _, _, _, _, _, rfl, s2⟩
  · rintro sg H1 ⟨v1, v2, v3, v4, v5, v6, rfl, s1⟩
    exact k H1
end

end K05

namespace K05
open PySem PySem.Spec PyProof.Rows L2 Jg
local macro_rules | `(tactic| walk_at "rd1") => `(tactic| (first
  | refine ⟨_, rfl, ?_⟩
  | refine ⟨_, _, rfl, rfl, ?_⟩
  | refine ⟨_, _, rfl, ?_⟩
  | refine ⟨rfl, ?_⟩
  | (refine ⟨show (0 : Int) < _ by omega, ?_⟩)
  | (refine ⟨Or.inl ⟨by omega, by omega⟩, ?_⟩)
  | (refine ⟨Or.inr ⟨by omega, by omega⟩, ?_⟩)
  | (refine ⟨(⟨by decide, by decide, by decide⟩ : CPow _ _), ?_⟩)
  | refine Or.inl ⟨_, rfl, ?_⟩
  | refine Or.inr ⟨_, rfl, ?_⟩
  | fail "rd"))
local macro_rules | `(tactic| walk_at "rd") => `(tactic| repeat' walk_at "rd1")


theorem Txt.of {K : PySem.W.Frag} {h : Heap} {mg : Str → Option Value} {C : Addr} (X : K.In h) (G : h.Ns mainGlobals mg)
    (aC : PySem.W.nsIn K mainGlobals "Range" = some (some (.ref C)))
    (pg : PySem.W.plainGet K C Str.empty = true) (hd : PySem.W.hasDictIn K C = true) (po : PySem.W.plainOver K C = true) (sa : PySem.W.findIn K (.ref C) "__setattr__" = some (some (.builtin "object.__setattr__")))
    (nl : PySem.W.findIn K (.ref C) "_low" = some none) (nh : PySem.W.findIn K (.ref C) "_high" = some none) (sf : PySem.W.selfFirst K C = true)
    (aB : ∃ u, mg "BOUND" = some u ∧ L2.RelV (.int 1000000000000000000000000000000000000000000000000000000000000) u)
    (b1 : PySem.W.nsIn K mainGlobals "isinstance" = some none) (b2 : PySem.W.nsIn K mainGlobals "int" = some none) (b3 : PySem.W.nsIn K mainGlobals "bool" = some none) (b4 : PySem.W.nsIn K mainGlobals "str" = some none)
    (b5 : PySem.W.nsIn K mainGlobals "len" = some none) (b6 : PySem.W.nsIn K mainGlobals "max" = some none) (b7 : PySem.W.nsIn K mainGlobals "min" = some none) (b8 : PySem.W.nsIn K mainGlobals "range" = some none)
    (b9 : PySem.W.nsIn K mainGlobals "repr" = some none) (b10 : PySem.W.nsIn K mainGlobals "sorted" = some none) (b11 : PySem.W.nsIn K mainGlobals "set" = some none)
    (c1 : PySem.W.findIn K (.ref C) "__class__" = some (some (.builtin "object.__class__"))) (c2 : PySem.W.specialIn K (.builtin "object.__class__") "__get__" = some (some (.builtin "getset_descriptor.__get__"))) (c3 : PySem.W.takesIn K (.builtin "object.__class__") = some true)
    (c4 : PySem.W.mroIn K C (.type "object") = some true)
    (k1 : PySem.W.kitOne K (.ref C) (.ref C) = some true) (k2 : PySem.W.kitOne K (.type "NoneType") (.ref C) = some false) (k3 : PySem.W.kitOne K (.type "bool") (.ref C) = some false) (k4 : PySem.W.kitOne K (.type "int") (.ref C) = some false)
    (k5 : PySem.W.kitOne K (.type "str") (.ref C) = some false) (k6 : PySem.W.kitOne K (.type "list") (.ref C) = some false) (k7 : PySem.W.kitOne K (.type "tuple") (.ref C) = some false) (k8 : PySem.W.kitOne K (.type "dict") (.ref C) = some false)
    (k9 : PySem.W.kitOne K (.ref C) (.type "int") = some false) (k10 : PySem.W.notFirst K C (.ref C) = true) : Txt K mg C :=
  have n {x : Str} (z : PySem.W.nsIn K mainGlobals x = some none) : mg x = none := PySem.W.mg_none_of X G z
  ⟨⟨pg, hd, po, sa⟩, nl, nh, sf, PySem.W.mg_of X G aC, by rw [B_eq]; exact aB, n b1, n b2, n b3, n b4, n b5, n b6, n b7, n b8, n b9, n b10, n b11, c1, c2, c3, c4, k1, k2, k3, k4, k5, k6, k7, k8, k9, k10⟩
theorem odds {K : PySem.W.Frag} {mg : Str → Option Value} {C : Addr} (T : Txt K mg C) : OddTy K C (.type "NoneType") ∧ OddTy K C (.type "bool") ∧ OddTy K C (.type "str") ∧ OddTy K C (.type "tuple") ∧ OddTy K C (.type "list") ∧ OddTy K C (.type "dict") :=
  ⟨⟨T.kN, false, false, kit_ty (by decide +kernel), kit_ty (by decide +kernel), rfl⟩, ⟨T.kB, true, true, kit_ty (by decide +kernel), kit_ty (by decide +kernel), rfl⟩, ⟨T.kS, false, false, kit_ty (by decide +kernel), kit_ty (by decide +kernel), rfl⟩,
    ⟨T.kT, false, false, kit_ty (by decide +kernel), kit_ty (by decide +kernel), rfl⟩, ⟨T.kL, false, false, kit_ty (by decide +kernel), kit_ty (by decide +kernel), rfl⟩, ⟨T.kD, false, false, kit_ty (by decide +kernel), kit_ty (by decide +kernel), rfl⟩⟩

theorem fin {P : Program} {w : World} {K : PySem.W.Frag} {mg : Str → Option Value} {fa C : Addr} (hfa : mg "law" = some (.ref fa)) (T : Txt K mg C) (mk1 : PySem.W.makesIn K C = true) (mk2 : PySem.W.keepIn K (.ref C) = true)
    (d1 : DefK K mg "is_integer" s_is_integer) (d2 : DefK K mg "is_bounded" s_is_bounded) (d3 : MetK K C "__init__" "Range.__init__" s_Range_init) (d4 : MetK K C "covers" "Range.covers" s_Range_covers) (d5 : MetK K C "__contains__" "Range.__contains__" s_Range_contains)
    (d6 : CmtK K C (.type "type") "empty" "Range.empty" s_Range_empty) (d7 : DefK K mg "_between" s_between) (d8 : DefK K mg "_lesser" s_lesser) (d9 : DefK K mg "_greater" s_greater) (d10 : MetK K C "__and__" "Range.__and__" s_Range_and) (d11 : MetK K C "joined" "Range.joined" s_Range_joined)
    (d12 : MetK K C "__eq__" "Range.__eq__" s_Range_eq) (d13 : PrpK K C "is_endless" "Range.is_endless" s_Range_is_endless) (d14 : PrpK K C "size" "Range.size" s_Range_size)
    (d15 : DefK K mg "_law_stream" s_law_stream) (d16 : DefK K mg "_law_draw" s_law_draw) (d17 : DefK K mg "_law_choose" s_law_choose) (d18 : DefK K mg "_law_drawn" s_law_drawn)
    (d19 : DefK K mg "_law_window" s_law_window) (d20 : DefK K mg "_law_seen" s_law_seen) (d21 : DefK K mg "_law_follow" s_law_follow) (d22 : DefK K mg "_law_pair_right" s_law_pair_right) (d23 : DefK K mg "law" s_law) :
    ∃ fd : FuncData, (∀ (s : Shared) (v : Value), BindsTo s fd ⟨[v], []⟩ [("script", v)]) ∧ ∀ base : Heap, K.In base → base.Ns mainGlobals mg → FnG P w K mg base CX0 9 fa fd ["script"] (spLaw K) := by
  obtain ⟨f, fd, F, m⟩ := d23.ex
  rw [hfa] at m
  cases m
  refine ⟨fd, ?_, fun base _ _ => ?_⟩
  · obtain ⟨_, _, _, _, _, _, _, _, _, rfl, _, _⟩ := F.ex
    exact fun s v => .of_eq rfl
  · have g1 := ok_is_integer (P := P) (w := w) (base := base) d1 T
    have g2 := ok_is_bounded (P := P) (w := w) (base := base) d2 T g1
    have g3 := ok_init (P := P) (w := w) (base := base) d3 T g2
    have g4 := ok_covers (P := P) (w := w) (base := base) d4 T
    have g5 := ok_contains (P := P) (w := w) (base := base) d5 T g4 g1
    have M : Mak P w K mg base CX0 3 "Range" C (spInit C) := ⟨T.cRange, mk1, mk2, g3⟩
    have g6 := ok_empty (P := P) (w := w) (base := base) d6 M
    have g7 := ok_between (P := P) (w := w) (base := base) d7 T M g6
    have g8 := ok_lesser (P := P) (w := w) (base := base) d8
    have g9 := ok_greater (P := P) (w := w) (base := base) d9
    have g10 := ok_and (P := P) (w := w) (base := base) d10 T g7 g8 g9
    have g11 := ok_joined (P := P) (w := w) (base := base) d11 T g7 g8 g9
    have g12 := ok_eq (P := P) (w := w) (base := base) d12 T
    have g13 := ok_endless (P := P) (w := w) (base := base) d13 T
    have g14 := ok_size (P := P) (w := w) (base := base) d14 T
    have g15 := ok_stream (P := P) (w := w) (base := base) d15 T
    have g16 := ok_draw (P := P) (w := w) (base := base) d16
    have g17 := ok_choose (P := P) (w := w) (base := base) d17 T g16
    have g18 := ok_drawn (P := P) (w := w) (base := base) d18 T g16
    have g19 := ok_window (P := P) (w := w) (base := base) d19 T
    have g20 := ok_seen (P := P) (w := w) (base := base) d20 T g5
    have g21 := ok_follow (P := P) (w := w) (base := base) d21 T
    have g22 := ok_pair (P := P) (w := w) (base := base) d22 T M g4 g10 g11 g12 g13 g14 g19 g20 g21
    exact fnG_of F sc_law (fun vs H Q E h => by obtain ⟨a, ns, rfl, _⟩ := h; rfl) fun cdv A outer s H vs Q E g hr h =>
      let ⟨t, a, q⟩ := body_law T g15 g17 g16 g18 g22 fa cdv A outer s H vs Q E hr h
      ⟨t, a.nox, q⟩
theorem walk {l : PySem.W.OpenLaw} {q : Program} {loose : List Str} {XP : (Str → Option Value) → Heap → Prop} {YP : World → Heap → Prop} {d : DefRec} {K : Params → PySem.W.Frag} (hn : l.most = some 63) (hdf : d.params.defaults = [])
    (hY : ∀ (w : World) (h : Heap), YP w h → (K w.params).In h)
    (F : ∀ (w : World) (mg : Str → Option Value) (fa : Addr) (h : Heap), (K w.params).In h → h.Ns mainGlobals mg → mg d.name = some (.ref fa) → XP mg h →
      ∃ fd : FuncData, (∀ (s : Shared) (u : Value), BindsTo s fd ⟨[u], []⟩ [("script", u)]) ∧ ∀ base : Heap, (K w.params).In base → base.Ns mainGlobals mg → FnG l.prog w (K w.params) mg base CX0 9 fa fd ["script"] (spLaw (K w.params))) :
    PySem.W.WalkO q loose XP YP l.row.toRowW d [] (fun f vs => PySem.call f vs) :=
  walk_ofG (n := 63) (k := 9) (x := "script") (CX := fun _ => CX0) (sp := fun w => spLaw (K w.params)) hn (by decide) hdf ⟨rfl, by decide, by decide⟩ hY F (fun _ _ a ns hl _ hS => ⟨a, ns, rfl, hS, hl, fun _ => rfl⟩) fun _ _ _ _ _ z => z
end K05
open PySem PySem.W PyProof.Rows
local macro_rules | `(tactic| walk_at "dk") => `(tactic| (refine' Jg.DefK.of (by assumption) (by assumption) ?a ?l ?c ?k; (case a => k_is); (case l => k_is); (case c => k_is); (case k => k_is)))
local macro_rules | `(tactic| walk_at "mk") => `(tactic| (refine' Jg.MetK.of ?a ?i ?l ?c ?k; (case a => k_is); (case i => k_is); (case l => k_is); (case c => k_is); (case k => k_is)))
local macro_rules | `(tactic| walk_at "pk") => `(tactic| (refine' Jg.PrpK.of ?a ?g ?tk ?rc ?l ?c ?k; (case a => k_is); (case g => k_is); (case tk => k_is); (case rc => k_is); (case l => k_is); (case c => k_is); (case k => k_is)))
local macro_rules | `(tactic| walk_at "ck") => `(tactic| (refine' Jg.CmtK.of ?rd ?ga ?a ?rc ?fi ?l ?c ?k; (case rd => k_is); (case ga => k_is); (case a => k_is); (case rc => k_is); (case fi => k_is); (case l => k_is); (case c => k_is); (case k => k_is)))
set_option maxRecDepth 100000 in
set_option maxHeartbeats 0 in
theorem PySem.Challenge.cw_gaplesskeys_k05_whole_ranges_as_sets_holds : PySem.Challenge.rw_gaplesskeys_k05_whole_ranges_as_sets.Holds := by
  w_on; o_law; k_head; (case hw => w_witness2)
  k_fill
  refine K05.walk (l := PySem.Challenge.rw_gaplesskeys_k05_whole_ranges_as_sets) rfl rfl (fun w h Y => PySem.W.kIn_of Y) ?F
  case F =>
    intro w mg fa h KX G hmg XP
    refine' K05.fin hmg ?T ?mk1 ?mk2 ?d1 ?d2 ?d3 ?d4 ?d5 ?d6 ?d7 ?d8 ?d9 ?d10 ?d11 ?d12 ?d13 ?d14 ?d15 ?d16 ?d17 ?d18 ?d19 ?d20 ?d21 ?d22 ?d23
    case T =>
      refine' K05.Txt.of KX G ?aC ?pg ?hd ?po ?sa ?nl ?nh ?sf ?aB ?b1 ?b2 ?b3 ?b4 ?b5 ?b6 ?b7 ?b8 ?b9 ?b10 ?b11 ?c1 ?c2 ?c3 ?c4 ?k1 ?k2 ?k3 ?k4 ?k5 ?k6 ?k7 ?k8 ?k9 ?k10
      case aC => k_is
      case aB => exact Jg.loose_int XP (List.Mem.head _)
      all_goals (first | k_is | kit_is)
    (case mk1 => k_is); (case mk2 => k_is)
    (case d1 => walk_at "dk")
    (case d2 => walk_at "dk")
    (case d3 => walk_at "mk")
    (case d4 => walk_at "mk")
    (case d5 => walk_at "mk")
    (case d6 => walk_at "ck")
    (case d7 => walk_at "dk")
    (case d8 => walk_at "dk")
    (case d9 => walk_at "dk")
    (case d10 => walk_at "mk")
    (case d11 => walk_at "mk")
    (case d12 => walk_at "mk")
    (case d13 => walk_at "pk")
    (case d14 => walk_at "pk")
    (case d15 => walk_at "dk")
    (case d16 => walk_at "dk")
    (case d17 => walk_at "dk")
    (case d18 => walk_at "dk")
    (case d19 => walk_at "dk")
    (case d20 => walk_at "dk")
    (case d21 => walk_at "dk")
    (case d22 => walk_at "dk")
    (case d23 => walk_at "dk")
#print axioms PySem.Challenge.cw_gaplesskeys_k05_whole_ranges_as_sets_holds
