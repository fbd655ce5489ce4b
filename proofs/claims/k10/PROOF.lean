import PyProof.Rows.All
import Wide.All
import OpenK.AllK
import Wide.FinOn
import HandS.ForMost
import HandS.StrMore
import HandS.IsInst
import HandS.Zip
import HandS.TupAny
import HandS.Style
import HandS.NoneIn
import HandS.More
import HandS.Flow
import PyProof.StrOps2
import HandS.Star
import HandS.RaiseMore
import HandS.Text
import HandS.Steps
import HandS.Codes
import HandS.ClsMeth
import HandS.Evl
import HandS.Rev
import HandS.CallLocal
import HandS.DictTup
import PyProof.EqKinds
import HandS.Walk
import PySem.Challenge.RW_ziggurat_k10_runs_of_towers
set_option Elab.async false
set_option linter.all false
set_option maxRecDepth 100000
set_option maxHeartbeats 4000000
namespace Zg
open PySem L2 PySem.Spec PyProof.Rows

/-! ### the text by places -/
def top (i : Nat) : Stmt := PySem.Challenge.pw_ziggurat_k10_runs_of_towers.main.body.getD i (.Pass ⟨0, 0, 0, 0⟩)

/-! ### a def that stands, a def that keeps its promise -/
/-- the def st stands under its name x -/
def DefX (K : PySem.W.Frag) (mg : Str → Option Value) (x : Str) (st : Stmt) (ps : List Str) : Prop :=
  ∃ f fd, Fun K x x st f fd ∧ Binds K fd ps [] ∧ mg x = some (.ref f)
/-- the def under the name x keeps its promise -/
def FnX (P : Program) (w : World) (K : PySem.W.Frag) (mg : Str → Option Value) (base : Heap) (k : Nat) (x : Str) (ps : List Str) (sp : Sp) : Prop :=
  ∃ f fd, FnOk P w K mg base CX0 k f fd ps sp ∧ PySem.W.keepIn K (.ref f) = true ∧ Binds K fd ps [] ∧ mg x = some (.ref f)
section
variable {P : Program} {w : World} {K : PySem.W.Frag} {mg : Str → Option Value} {base : Heap} {X : Cx}
theorem FnX.mono {j k : Nat} {x : Str} {ps : List Str} {sp : Sp} (G : FnX P w K mg base j x ps sp) (h : j ≤ k) : FnX P w K mg base k x ps sp := by
  obtain ⟨f, fd, F, a, b, c⟩ := G
  exact ⟨f, fd, F.mono h, a, b, c⟩
theorem FnX.imp {k : Nat} {x : Str} {ps : List Str} {sp sp' : Sp} (G : FnX P w K mg base k x ps sp) (h : ∀ vs H Q E, sp' vs H Q E → sp vs H Q E) : FnX P w K mg base k x ps sp' := by
  obtain ⟨f, fd, F, a, b, c⟩ := G
  exact ⟨f, fd, F.imp h, a, b, c⟩
theorem DefX.ok {x : Str} {st : Stmt} {N ps : List Str} {k : Nat} {sp : Sp} (D : DefX K mg x st ps) (S : FnScope N ps (defScope st)) (len : ∀ vs H Q E, sp vs H Q E → vs.length = ps.length)
    (hbody : ∀ (f : Addr) (cdv : Value) (A : Around) (outer : List Env) (s : Shared) (H : Hp) (vs : List V) (Q : VK) (E : XK), Room k (A.deeper (envOfC x (defScope st) s.heap.objs.size f cdv)) → sp vs H Q E →
      ∃ t, PSs (cxOf CX0 P w K mg base N x (defScope st) f cdv A outer s H E).nox (defBody st) t ∧ t { nx := fun _ H' => Q .non H', rt := Q } (start N vs) H) : FnX P w K mg base (k + 1) x ps sp := by
  obtain ⟨f, fd, F, b, m⟩ := D
  exact ⟨f, fd, F.ok S len (fun cdv A outer s H vs Q E hr h => hbody f cdv A outer s H vs Q E hr h), F.kp, b, m⟩
theorem pe_fn {x : Str} {ps : List Str} {sp : Sp} {k : Nat} {e : Expr} {es : List Expr} {p pos : Pos} {t : TA} (G : FnX X.prog X.w X.K X.mg X.base k x ps sp) (hr : Room k X.A) (hg : Gl X x)
    (ha : PA X (e :: es) t) (hdb : (x == ("__debug__" : Str)) = false := by decide) (he : starEach (e :: es) X.env = (false, eval e X.env) :: starEach es X.env := by rfl) (hpl : (backTo pos (starEach es X.env)).any (·.1) = false := by rfl) :
    PE X (.Call (.Name x p) (e :: es) [] pos) (tCall sp [] E0 t) := by
  obtain ⟨f, fd, F, hk, hb, hm⟩ := G
  exact pe_call F hr hg hm hk hb .nil pass0 ha hdb he hpl
theorem pe_fn0 {x : Str} {ps : List Str} {sp : Sp} {k : Nat} {p pos : Pos} (G : FnX X.prog X.w X.K X.mg X.base k x ps sp) (hr : Room k X.A) (hg : Gl X x)
    (hdb : (x == ("__debug__" : Str)) = false := by decide) : PE X (.Call (.Name x p) [] [] pos) (tCall sp [] E0 tNil) := by
  obtain ⟨f, fd, F, hk, hb, hm⟩ := G
  exact pe_call0 F hr hg hm hk hb .nil pass0 hdb

/-- two names as a target -/
theorem pg_two {x y : Str} {i j : Nat} {p1 p2 pos : Pos} {k : Nat} (hc : X.calm = true) (hN : X.N.Nodup) (hi : X.N[i]? = some x) (hx : Loc X.env.scope x) (hj : X.N[j]? = some y) (hy : Loc X.env.scope y)
    (fx : X.fn x = true ∨ X.env.scope.names.lookup x = some .local) (fy : X.fn y = true ∨ X.env.scope.names.lookup y = some .local) :
    PG X (.Tuple [.Name x p1, .Name y p2] k pos) (gTup X.K 2 (gCons (gName i) (gCons (gName j) gNil))) :=
  pg_tup hc (pgs_cons (pg_name hN hi hx fx) (pgs_cons (pg_name hN hj hy fy) pgs_nil (by rfl)) (by rfl)) (by rfl) (by rfl)

/-! ### in, not in of a dict of the module -/
/-- the written dict at a holds x (b) or not -/
def KHas (K : PySem.W.Frag) (w : World) (a : Addr) (x : Str) (b : Bool) : Prop :=
  ∃ es n r, K.lookup a = some ⟨.type "dict", none, .dict es n, #[]⟩ ∧ PySem.W.KeysLit w.params es.toList ∧ (a == sysModules) = false ∧ PySem.W.nsIn K a x = some r ∧ r.isSome = b
def rInKd (K : PySem.W.Frag) (w : World) (neg : Bool) : R2 := fun x y H Q => ∃ p z b, y = .ref p ∧ x = .str z ∧ KHas K w p z b ∧ Q (.bl (if neg then !b else b)) H
theorem op_in_kd : OpR X (compareOp .In) (rInKd X.K X.w false) := by
  intro pins s σ H x y v u Q I rx ry h
  obtain ⟨p, z, b, rfl, rfl, ⟨es, n, r, hl, hk, low, e, eb⟩, q⟩ := h
  obtain rfl : u = Value.ref p := ry
  obtain ⟨t, rfl⟩ := (show ∃ t, v = Value.str z t from rx)
  have hm := PySem.W.mapOf_K (prog := X.prog) (w := X.w) I.kIn hl hk
  refine wpAny_in_of (strKind_is X.prog X.w z t) low hm ?_
  rw [PySem.W.find_K hl e, eb]
  exact ⟨.bl b, H, I.tok _, rfl, q⟩
theorem op_notIn_kd : OpR X (compareOp .NotIn) (rInKd X.K X.w true) := by
  intro pins s σ H x y v u Q I rx ry h
  obtain ⟨p, z, b, rfl, rfl, ⟨es, n, r, hl, hk, low, e, eb⟩, q⟩ := h
  obtain rfl : u = Value.ref p := ry
  obtain ⟨t, rfl⟩ := (show ∃ t, v = Value.str z t from rx)
  have hm := PySem.W.mapOf_K (prog := X.prog) (w := X.w) I.kIn hl hk
  refine wpAny_notIn_of (strKind_is X.prog X.w z t) low hm ?_
  rw [PySem.W.find_K hl e, eb]
  exact ⟨.bl (!b), H, I.tok _, rfl, q⟩
/-- text * int -/
theorem op_mul_str : OpR X (binaryOp .Mult) (fun x y H Q => ∃ (z : Str) (k : Int), x = .str z ∧ y = .int k ∧ 1 ≤ z.length ∧ z.length ≤ 1000 ∧ 2 ≤ k ∧ k ≤ 1000 ∧ (⟨(List.replicate k.toNat z.cps).foldl (· ++ ·) #[]⟩ : Str).length ≤ sizeLine ∧ Q (.str ⟨(List.replicate k.toNat z.cps).foldl (· ++ ·) #[]⟩) H) := by
  intro pins s σ H x y v u Q I rx ry h
  obtain ⟨z, k, rfl, rfl, h1, h2, h3, h4, h5, q⟩ := h
  obtain ⟨t, rfl⟩ := (show ∃ t, v = Value.str z t from rx)
  obtain ⟨t', rfl⟩ := (show ∃ t, u = Value.int k t from ry)
  have e1 : (k == 1 || z.length == 0) = false := by
    have a : ¬ k = 1 := by omega
    have b : ¬ z.length = 0 := by omega
    simp [a, b]
  have hn : ¬ k < 1 := by omega
  refine PySem.P.mul_str ?_ (fun _ _ => ?_) (fun _ _ => ?_) ?_
  · rw [decide_eq_false (by omega), decide_eq_false (by omega)] <;> rfl
  · have hz : (z.length : Int) ≤ 1000 := by omega
    have : (1000 : Int) ≤ (2 ^ 63 - 1) / k := by
      rw [Int.le_ediv_iff_mul_le (by omega)]
      omega
    omega
  · have h6 : z.length * k.toNat ≤ 1000 * 1000 := Nat.mul_le_mul h2 (by omega)
    have h7 : (1000 * 1000 : Nat) ≤ sizeLine := by decide
    unfold Builtin.Str.tooLong
    exact decide_eq_false (by omega)
  · rw [if_neg hn, e1, if_neg Bool.false_ne_true]
    exact ⟨h5, .str _, H, I.tok _, ⟨_, rfl⟩, q⟩
end
end Zg

set_option Elab.async false
set_option linter.all false
set_option maxRecDepth 100000
set_option maxHeartbeats 4000000
namespace Zg
open PySem L2 PySem.Spec PyProof.Rows
/-! ### methods of the program's own classes -/
def DefM (K : PySem.W.Frag) (C : Addr) (m qual : Str) (st : Stmt) (ps : List Str) : Prop := ∃ f fd, Fun K m qual st f fd ∧ Binds K fd ps [] ∧ Meth K C m f
def DefI (K : PySem.W.Frag) (C : Addr) (m qual : Str) (st : Stmt) (ps : List Str) : Prop := ∃ f fd, Fun K m qual st f fd ∧ Binds K fd ps [] ∧ Mk K C f
def MtX (P : Program) (w : World) (K : PySem.W.Frag) (mg : Str → Option Value) (base : Heap) (k : Nat) (C : Addr) (m : Str) (ps : List Str) (sp : Sp) : Prop :=
  ∃ f fd, FnOk P w K mg base CX0 k f fd ps sp ∧ Binds K fd ps [] ∧ Meth K C m f
def MkX (P : Program) (w : World) (K : PySem.W.Frag) (mg : Str → Option Value) (base : Heap) (k : Nat) (C : Addr) (ps : List Str) (sp : Sp) : Prop :=
  ∃ f fd, FnOk P w K mg base CX0 k f fd ps sp ∧ Binds K fd ps [] ∧ Mk K C f
section
variable {P : Program} {w : World} {K : PySem.W.Frag} {mg : Str → Option Value} {base : Heap} {X : Cx}
theorem MtX.mono {j k : Nat} {C : Addr} {m : Str} {ps : List Str} {sp : Sp} (G : MtX P w K mg base j C m ps sp) (h : j ≤ k) : MtX P w K mg base k C m ps sp := by
  obtain ⟨f, fd, F, a, b⟩ := G
  exact ⟨f, fd, F.mono h, a, b⟩
theorem MtX.imp {k : Nat} {C : Addr} {m : Str} {ps : List Str} {sp sp' : Sp} (G : MtX P w K mg base k C m ps sp) (h : ∀ vs H Q E, sp' vs H Q E → sp vs H Q E) : MtX P w K mg base k C m ps sp' := by
  obtain ⟨f, fd, F, a, b⟩ := G
  exact ⟨f, fd, F.imp h, a, b⟩
theorem MkX.mono {j k : Nat} {C : Addr} {ps : List Str} {sp : Sp} (G : MkX P w K mg base j C ps sp) (h : j ≤ k) : MkX P w K mg base k C ps sp := by
  obtain ⟨f, fd, F, a, b⟩ := G
  exact ⟨f, fd, F.mono h, a, b⟩
theorem DefM.ok {C : Addr} {m qual : Str} {st : Stmt} {N ps : List Str} {k : Nat} {sp : Sp} (D : DefM K C m qual st ps) (S : FnScope N ps (defScope st)) (len : ∀ vs H Q E, sp vs H Q E → vs.length = ps.length)
    (hbody : ∀ (f : Addr) (cdv : Value) (A : Around) (outer : List Env) (s : Shared) (H : Hp) (vs : List V) (Q : VK) (E : XK), Room k (A.deeper (envOfC qual (defScope st) s.heap.objs.size f cdv)) → sp vs H Q E →
      ∃ t, PSs (cxOf CX0 P w K mg base N qual (defScope st) f cdv A outer s H E).nox (defBody st) t ∧ t { nx := fun _ H' => Q .non H', rt := Q } (start N vs) H) : MtX P w K mg base (k + 1) C m ps sp := by
  obtain ⟨f, fd, F, b, mm⟩ := D
  exact ⟨f, fd, F.ok S len (fun cdv A outer s H vs Q E hr h => hbody f cdv A outer s H vs Q E hr h), b, mm⟩
theorem DefI.ok {C : Addr} {m qual : Str} {st : Stmt} {N ps : List Str} {k : Nat} {sp : Sp} (D : DefI K C m qual st ps) (S : FnScope N ps (defScope st)) (len : ∀ vs H Q E, sp vs H Q E → vs.length = ps.length)
    (hbody : ∀ (f : Addr) (cdv : Value) (A : Around) (outer : List Env) (s : Shared) (H : Hp) (vs : List V) (Q : VK) (E : XK), Room k (A.deeper (envOfC qual (defScope st) s.heap.objs.size f cdv)) → sp vs H Q E →
      ∃ t, PSs (cxOf CX0 P w K mg base N qual (defScope st) f cdv A outer s H E).nox (defBody st) t ∧ t { nx := fun _ H' => Q .non H', rt := Q } (start N vs) H) : MkX P w K mg base (k + 1) C ps sp := by
  obtain ⟨f, fd, F, b, mm⟩ := D
  exact ⟨f, fd, F.ok S len (fun cdv A outer s H vs Q E hr h => hbody f cdv A outer s H vs Q E hr h), b, mm⟩
theorem pe_mt {C : Addr} {m : Str} {ps : List Str} {sp : Sp} {k : Nat} {o e : Expr} {es : List Expr} {apos pos : Pos} {ta : TE} {t : TA} {pl : Sem Bool} (c : Cls X.K C) (G : MtX X.prog X.w X.K X.mg X.base k C m ps sp) (hr : Room k X.A) (he : PE X o ta) (ha : PA X (e :: es) t)
    (hst : starEach (e :: es) X.env = (false, eval e X.env) :: starEach es X.env := by rfl) (hpl : (backTo pos (starEach es X.env)).any (·.1) = false := by rfl)
    (ht : eval (.Call (.Attribute o m apos) (e :: es) [] pos) X.env = (do
      let ov ← eval o X.env
      standAt apos.atName
      let (f, first) ← holding [ov] (getMethod ov m pl)
      callWith pos f first (backTo pos (starEach (e :: es) X.env)) (backToKw pos (keywordEach [] X.env))) := by rfl) :
    PE X (.Call (.Attribute o m apos) (e :: es) [] pos) (tMeth C m sp [] E0 ta t) := by
  obtain ⟨f, fd, F, hb, hm⟩ := G
  exact pe_meth he c hm F hr hb .nil pass0 ha hst hpl ht
theorem pe_mt0 {C : Addr} {m : Str} {ps : List Str} {sp : Sp} {k : Nat} {o : Expr} {apos pos : Pos} {ta : TE} {pl : Sem Bool} (c : Cls X.K C) (G : MtX X.prog X.w X.K X.mg X.base k C m ps sp) (hr : Room k X.A) (he : PE X o ta)
    (ht : eval (.Call (.Attribute o m apos) [] [] pos) X.env = (do
      let ov ← eval o X.env
      standAt apos.atName
      let (f, first) ← holding [ov] (getMethod ov m pl)
      callWith pos f first (backTo pos (starEach [] X.env)) (backToKw pos (keywordEach [] X.env))) := by rfl) :
    PE X (.Call (.Attribute o m apos) [] [] pos) (tMeth C m sp [] E0 ta tNil) := by
  obtain ⟨f, fd, F, hb, hm⟩ := G
  exact pe_meth0 he c hm F hr hb .nil pass0 ht
theorem pe_mk {C : Addr} {x : Str} {ps : List Str} {sp : Sp} {k : Nat} {e : Expr} {es : List Expr} {p pos : Pos} {t : TA} (G : MkX X.prog X.w X.K X.mg X.base k C ps sp) (hr : Room (k + 1) X.A) (hg : Gl X x) (hm : X.mg x = some (.ref C))
    (ha : PA X (e :: es) t) (hdb : (x == ("__debug__" : Str)) = false := by decide) (he : starEach (e :: es) X.env = (false, eval e X.env) :: starEach es X.env := by rfl) (hpl : (backTo pos (starEach es X.env)).any (·.1) = false := by rfl) :
    PE X (.Call (.Name x p) (e :: es) [] pos) (tMake C sp [] E0 t) := by
  obtain ⟨f, fd, F, hb, M⟩ := G
  exact pe_make M F hr hg hm hb .nil pass0 ha hdb he hpl
/-- text += text -/
theorem ip_addS : PIp X .Add rAddS := fun pins s σ H x y v u Q I rx ry h => iop_add_str pins s σ H x y v u Q I rx ry h
end
/-! ### a method called by its class: C.m(o, ..) -/
def DefB (K : PySem.W.Frag) (mg : Str → Option Value) (C : Addr) (m qual : Str) (st : Stmt) (ps : List Str) : Prop := ∃ f fd, Fun K m qual st f fd ∧ Binds K fd ps [] ∧ ClX.CRead K C (.type "type") ∧ PySem.W.findCls K (.ref C) (.type "type") m = some (.val (.ref f)) ∧ PySem.W.keepIn K (.ref f) = true
def BsX (P : Program) (w : World) (K : PySem.W.Frag) (mg : Str → Option Value) (base : Heap) (k : Nat) (C : Addr) (m : Str) (ps : List Str) (sp : Sp) : Prop :=
  ∃ f fd, FnOk P w K mg base CX0 k f fd ps sp ∧ Binds K fd ps [] ∧ ClX.CRead K C (.type "type") ∧ PySem.W.findCls K (.ref C) (.type "type") m = some (.val (.ref f)) ∧ PySem.W.keepIn K (.ref f) = true
section
variable {P : Program} {w : World} {K : PySem.W.Frag} {mg : Str → Option Value} {base : Heap} {X : Cx}
theorem BsX.mono {j k : Nat} {C : Addr} {m : Str} {ps : List Str} {sp : Sp} (G : BsX P w K mg base j C m ps sp) (h : j ≤ k) : BsX P w K mg base k C m ps sp := by
  obtain ⟨f, fd, F, a⟩ := G
  exact ⟨f, fd, F.mono h, a⟩
theorem DefB.ok {C : Addr} {m qual : Str} {st : Stmt} {N ps : List Str} {k : Nat} {sp : Sp} (D : DefB K mg C m qual st ps) (S : FnScope N ps (defScope st)) (len : ∀ vs H Q E, sp vs H Q E → vs.length = ps.length)
    (hbody : ∀ (f : Addr) (cdv : Value) (A : Around) (outer : List Env) (s : Shared) (H : Hp) (vs : List V) (Q : VK) (E : XK), Room k (A.deeper (envOfC qual (defScope st) s.heap.objs.size f cdv)) → sp vs H Q E →
      ∃ t, PSs (cxOf CX0 P w K mg base N qual (defScope st) f cdv A outer s H E).nox (defBody st) t ∧ t { nx := fun _ H' => Q .non H', rt := Q } (start N vs) H) : BsX P w K mg base (k + 1) C m ps sp := by
  obtain ⟨f, fd, F, b, a⟩ := D
  exact ⟨f, fd, F.ok S len (fun cdv A outer s H vs Q E hr h => hbody f cdv A outer s H vs Q E hr h), b, a⟩
theorem pe_binit {C : Addr} {x m : Str} {ps : List Str} {sp : Sp} {k : Nat} {e : Expr} {es : List Expr} {p apos pos : Pos} {t : TA} {pl : Sem Bool} (G : BsX X.prog X.w X.K X.mg X.base k C m ps sp) (hr : Room k X.A) (hg : Gl X x) (hm : X.mg x = some (.ref C))
    (ha : PA X (e :: es) t) (hdb : (x == ("__debug__" : Str)) = false := by decide) (hst : starEach (e :: es) X.env = (false, eval e X.env) :: starEach es X.env := by rfl) (hpl : (backTo pos (starEach es X.env)).any (·.1) = false := by rfl)
    (ht : eval (.Call (.Attribute (.Name x p) m apos) (e :: es) [] pos) X.env = (do
      let ov ← eval (.Name x p) X.env
      standAt apos.atName
      let (f, first) ← holding [ov] (getMethod ov m pl)
      callWith pos f first (backTo pos (starEach (e :: es) X.env)) (backToKw pos (keywordEach [] X.env))) := by rfl) :
    PE X (.Call (.Attribute (.Name x p) m apos) (e :: es) [] pos) (tCall sp [] E0 t) := by
  obtain ⟨f, fd, F, hb, hc, hf, hk⟩ := G
  refine ⟨fun pins s σ H Q I h => ?_⟩
  refine PySem.W.methodCall_KW (pl := pl) (ld_glob I hg hm ?_ hdb) ht
  refine PySem.W.method_cls I.kIn hc.ga (ClX.getcval_ok (v := .ref f) I hc ⟨hf, rfl⟩ fun s2 I2 => ?_)
  refine PySem.W.callWith_K (first := []) (h₀ := X.base) I2.ok.mod.kin hk (thn (ha.run pos pins s2 σ H _ I2 h) fun us s3 ⟨vs, H2, I3, r, q⟩ => ⟨I3.kIn, ?_⟩) hst hpl
  exact run_fn F hr hb .nil pass0 I3 r q
end
end Zg

set_option Elab.async false
set_option linter.all false
set_option maxRecDepth 100000
set_option maxHeartbeats 4000000
namespace Zg
open PySem L2 PySem.Spec PyProof.Rows

/-! ### the words -/
def kindsL : List Str := ["num", "name", "fn", "call", "sum", "less", "if", "let", "say"]
def shapeOf (x : Str) : Option (List Str) :=
  if x = "num" then some ["number"] else if x = "name" then some ["name"] else if x = "fn" then some ["name", "body"] else if x = "call" then some ["expr", "expr"]
  else if x = "sum" then some ["expr", "expr"] else if x = "less" then some ["expr", "expr"] else if x = "if" then some ["expr", "expr", "expr"] else if x = "let" then some ["name", "expr", "body"]
  else if x = "say" then some ["expr"] else if x = "rule" then some ["kind", "rule", "expr"] else if x = "keep" then some ["kind", "rule"] else if x = "part" then some ["number"]
  else if x = "with" then some ["expr"] else if x = "usual" then some [] else if x = "do" then some ["parts"] else none
def partsOf (x : Str) : Option Int :=
  if x = "num" then some 0 else if x = "name" then some 0 else if x = "fn" then some 0 else if x = "call" then some 2 else if x = "sum" then some 2 else if x = "less" then some 2
  else if x = "if" then some 3 else if x = "let" then some 1 else if x = "say" then some 1 else none
def doOf (x : Str) : Option Int := if x = "call" then some 2 else if x = "sum" then some 2 else if x = "less" then some 2 else if x = "say" then some 1 else none
/-- a tuple of texts of the module -/
def KTup (K : PySem.W.Frag) (a : Addr) (xs : List Str) : Prop := ∀ H, SqT K H a (xs.map V.str)
def formsL : List (Str × Str) := [("num", "_num"), ("name", "_name"), ("fn", "_fn"), ("call", "_operation"), ("sum", "_operation"), ("less", "_operation"), ("if", "_if"), ("let", "_let"), ("say", "_operation"), ("rule", "_rule"), ("keep", "_keep"), ("part", "_part"), ("with", "_with"), ("usual", "_usual"), ("do", "_do")]
def actionsL : List (Str × Str) := [("visit", "_visit"), ("operate", "_operate"), ("choose", "_choose"), ("bind", "_bind"), ("restore", "_restore"), ("bind below", "_bind_below"), ("operate below", "_operate_below")]
def opsL : List (Str × Str) := [("call", "_call"), ("sum", "_sum"), ("less", "_less"), ("say", "_say")]
/-- isinstance of an own class, asked of its objects and of numbers -/
structure IsF (K : PySem.W.Frag) (C : Addr) : Prop where
  ha : PySem.W.findIn K (.ref C) "__class__" = some (some (.builtin "object.__class__"))
  hn : PySem.W.specialIn K (.builtin "object.__class__") "__get__" = some (some (.builtin "getset_descriptor.__get__"))
  htk : PySem.W.takesIn K (.builtin "object.__class__") = some true
  hm : PySem.W.mroIn K C (.type "object") = some true
  me : PySem.W.kitOne K (.ref C) (.ref C) = some true
  ne : PySem.W.kitOne K (.type "int") (.ref C) = some false
abbrev s_Function___init__ : Stmt := inClass (top 1) 0
theorem sc_Function___init__ : FnScope ["self", "level", "body", "scope"] ["self", "level", "body", "scope"] (defScope s_Function___init__) := ⟨rfl, rfl, rfl, by decide +kernel, rfl, by decide +kernel, by decide +kernel⟩
abbrev s_Run___init__ : Stmt := inClass (top 2) 0
theorem sc_Run___init__ : FnScope ["self", "fuel"] ["self", "fuel"] (defScope s_Run___init__) := ⟨rfl, rfl, rfl, by decide +kernel, rfl, by decide +kernel, by decide +kernel⟩
abbrev s_Run_result : Stmt := inClass (top 2) 1
theorem sc_Run_result : FnScope ["self"] ["self"] (defScope s_Run_result) := ⟨rfl, rfl, rfl, by decide +kernel, rfl, by decide +kernel, by decide +kernel⟩
abbrev s_Run_finish : Stmt := inClass (top 2) 2
theorem sc_Run_finish : FnScope ["self"] ["self"] (defScope s_Run_finish) := ⟨rfl, rfl, rfl, by decide +kernel, rfl, by decide +kernel, by decide +kernel⟩
abbrev s_Run_get_stuck : Stmt := inClass (top 2) 3
theorem sc_Run_get_stuck : FnScope ["self", "level"] ["self", "level"] (defScope s_Run_get_stuck) := ⟨rfl, rfl, rfl, by decide +kernel, rfl, by decide +kernel, by decide +kernel⟩
abbrev s_Run_step : Stmt := inClass (top 2) 4
theorem sc_Run_step : FnScope ["self"] ["self"] (defScope s_Run_step) := ⟨rfl, rfl, rfl, by decide +kernel, rfl, by decide +kernel, by decide +kernel⟩
abbrev s_Run_operate : Stmt := inClass (top 2) 5
theorem sc_Run_operate : FnScope ["self", "word", "level", "operation"] ["self", "word", "level"] (defScope s_Run_operate) := ⟨rfl, rfl, rfl, by decide +kernel, rfl, by decide +kernel, by decide +kernel⟩
abbrev s_Run_decide : Stmt := inClass (top 2) 6
theorem sc_Run_decide : FnScope ["self", "level", "condition"] ["self", "level"] (defScope s_Run_decide) := ⟨rfl, rfl, rfl, by decide +kernel, rfl, by decide +kernel, by decide +kernel⟩
abbrev s_Run_set_on : Stmt := inClass (top 2) 7
theorem sc_Run_set_on : FnScope ["self", "key", "setting"] ["self", "key", "setting"] (defScope s_Run_set_on) := ⟨rfl, rfl, rfl, by decide +kernel, rfl, by decide +kernel, by decide +kernel⟩
abbrev s_Walk___init__ : Stmt := inClass (top 3) 0
theorem sc_Walk___init__ : FnScope ["self", "fuel"] ["self", "fuel"] (defScope s_Walk___init__) := ⟨rfl, rfl, rfl, by decide +kernel, rfl, by decide +kernel, by decide +kernel⟩
abbrev s_Walk_is_going : Stmt := inClass (top 3) 1
theorem sc_Walk_is_going : FnScope ["self"] ["self"] (defScope s_Walk_is_going) := ⟨rfl, rfl, rfl, by decide +kernel, rfl, by decide +kernel, by decide +kernel⟩
abbrev s_Walk_visit : Stmt := inClass (top 3) 2
theorem sc_Walk_visit : FnScope ["self", "expression", "scope"] ["self", "expression", "scope"] (defScope s_Walk_visit) := ⟨rfl, rfl, rfl, by decide +kernel, rfl, by decide +kernel, by decide +kernel⟩
abbrev s_Walk_visit_all : Stmt := inClass (top 3) 3
theorem sc_Walk_visit_all : FnScope ["self", "expressions", "scope", "expression"] ["self", "expressions", "scope"] (defScope s_Walk_visit_all) := ⟨rfl, rfl, rfl, by decide +kernel, rfl, by decide +kernel, by decide +kernel⟩
abbrev s_Walk_apply : Stmt := inClass (top 3) 4
theorem sc_Walk_apply : FnScope ["self", "function", "value", "name", "body"] ["self", "function", "value"] (defScope s_Walk_apply) := ⟨rfl, rfl, rfl, by decide +kernel, rfl, by decide +kernel, by decide +kernel⟩
abbrev s_Walk_choose : Stmt := inClass (top 3) 5
theorem sc_Walk_choose : FnScope ["self", "level", "branches", "scope", "decision"] ["self", "level", "branches", "scope"] (defScope s_Walk_choose) := ⟨rfl, rfl, rfl, by decide +kernel, rfl, by decide +kernel, by decide +kernel⟩
abbrev s_Walk_set_for : Stmt := inClass (top 3) 6
theorem sc_Walk_set_for : FnScope ["self", "key", "setting", "body", "scope"] ["self", "key", "setting", "body", "scope"] (defScope s_Walk_set_for) := ⟨rfl, rfl, rfl, by decide +kernel, rfl, by decide +kernel, by decide +kernel⟩
abbrev s_Walk_restore : Stmt := inClass (top 3) 7
theorem sc_Walk_restore : FnScope ["self", "change", "key", "before"] ["self", "change"] (defScope s_Walk_restore) := ⟨rfl, rfl, rfl, by decide +kernel, rfl, by decide +kernel, by decide +kernel⟩
abbrev s_look_up : Stmt := top 4
theorem sc_look_up : FnScope ["names", "name"] ["names", "name"] (defScope s_look_up) := ⟨rfl, rfl, rfl, by decide +kernel, rfl, by decide +kernel, by decide +kernel⟩
abbrev s__shown : Stmt := top 5
theorem sc__shown : FnScope ["value"] ["value"] (defScope s__shown) := ⟨rfl, rfl, rfl, by decide +kernel, rfl, by decide +kernel, by decide +kernel⟩
abbrev s__call : Stmt := top 6
theorem sc__call : FnScope ["run", "level", "value", "function"] ["run", "level"] (defScope s__call) := ⟨rfl, rfl, rfl, by decide +kernel, rfl, by decide +kernel, by decide +kernel⟩
abbrev s__sum : Stmt := top 7
theorem sc__sum : FnScope ["run", "level", "second", "first"] ["run", "level"] (defScope s__sum) := ⟨rfl, rfl, rfl, by decide +kernel, rfl, by decide +kernel, by decide +kernel⟩
abbrev s__less : Stmt := top 8
theorem sc__less : FnScope ["run", "level", "second", "first"] ["run", "level"] (defScope s__less) := ⟨rfl, rfl, rfl, by decide +kernel, rfl, by decide +kernel, by decide +kernel⟩
abbrev s__say : Stmt := top 9
theorem sc__say : FnScope ["run", "level"] ["run", "level"] (defScope s__say) := ⟨rfl, rfl, rfl, by decide +kernel, rfl, by decide +kernel, by decide +kernel⟩
abbrev s_part_of : Stmt := top 12
theorem sc_part_of : FnScope ["node", "number"] ["node", "number"] (defScope s_part_of) := ⟨rfl, rfl, rfl, by decide +kernel, rfl, by decide +kernel, by decide +kernel⟩
abbrev s_Place___init__ : Stmt := inClass (top 14) 0
theorem sc_Place___init__ : FnScope ["self", "level", "names", "about"] ["self", "level", "names", "about"] (defScope s_Place___init__) := ⟨rfl, rfl, rfl, by decide +kernel, rfl, by decide +kernel, by decide +kernel⟩
abbrev s_Place_bind : Stmt := inClass (top 14) 1
theorem sc_Place_bind : FnScope ["self", "name", "value"] ["self", "name", "value"] (defScope s_Place_bind) := ⟨rfl, rfl, rfl, by decide +kernel, rfl, by decide +kernel, by decide +kernel⟩
abbrev s_run : Stmt := top 15
theorem sc_run : FnScope ["program", "fuel", "going", "word", "thing", "place", "action"] ["program", "fuel"] (defScope s_run) := ⟨rfl, rfl, rfl, by decide +kernel, rfl, by decide +kernel, by decide +kernel⟩
abbrev s__visit : Stmt := top 16
theorem sc__visit : FnScope ["going", "node", "place", "rule"] ["going", "node", "place"] (defScope s__visit) := ⟨rfl, rfl, rfl, by decide +kernel, rfl, by decide +kernel, by decide +kernel⟩
abbrev s__visit_built_in : Stmt := top 17
theorem sc__visit_built_in : FnScope ["going", "node", "place", "action"] ["going", "node", "place"] (defScope s__visit_built_in) := ⟨rfl, rfl, rfl, by decide +kernel, rfl, by decide +kernel, by decide +kernel⟩
abbrev s__num : Stmt := top 18
theorem sc__num : FnScope ["going", "node", "_"] ["going", "node", "_"] (defScope s__num) := ⟨rfl, rfl, rfl, by decide +kernel, rfl, by decide +kernel, by decide +kernel⟩
abbrev s__name : Stmt := top 19
theorem sc__name : FnScope ["going", "node", "place"] ["going", "node", "place"] (defScope s__name) := ⟨rfl, rfl, rfl, by decide +kernel, rfl, by decide +kernel, by decide +kernel⟩
abbrev s__fn : Stmt := top 20
theorem sc__fn : FnScope ["going", "node", "place"] ["going", "node", "place"] (defScope s__fn) := ⟨rfl, rfl, rfl, by decide +kernel, rfl, by decide +kernel, by decide +kernel⟩
abbrev s__operation : Stmt := top 21
theorem sc__operation : FnScope ["going", "node", "place"] ["going", "node", "place"] (defScope s__operation) := ⟨rfl, rfl, rfl, by decide +kernel, rfl, by decide +kernel, by decide +kernel⟩
abbrev s__operate : Stmt := top 22
theorem sc__operate : FnScope ["going", "word", "place"] ["going", "word", "place"] (defScope s__operate) := ⟨rfl, rfl, rfl, by decide +kernel, rfl, by decide +kernel, by decide +kernel⟩
abbrev s__if : Stmt := top 23
theorem sc__if : FnScope ["going", "node", "place"] ["going", "node", "place"] (defScope s__if) := ⟨rfl, rfl, rfl, by decide +kernel, rfl, by decide +kernel, by decide +kernel⟩
abbrev s__choose : Stmt := top 24
theorem sc__choose : FnScope ["going", "branches", "place"] ["going", "branches", "place"] (defScope s__choose) := ⟨rfl, rfl, rfl, by decide +kernel, rfl, by decide +kernel, by decide +kernel⟩
abbrev s__let : Stmt := top 25
theorem sc__let : FnScope ["going", "node", "place"] ["going", "node", "place"] (defScope s__let) := ⟨rfl, rfl, rfl, by decide +kernel, rfl, by decide +kernel, by decide +kernel⟩
abbrev s__bind : Stmt := top 26
theorem sc__bind : FnScope ["going", "node", "place"] ["going", "node", "place"] (defScope s__bind) := ⟨rfl, rfl, rfl, by decide +kernel, rfl, by decide +kernel, by decide +kernel⟩
abbrev s__rule : Stmt := top 27
theorem sc__rule : FnScope ["going", "node", "place"] ["going", "node", "place"] (defScope s__rule) := ⟨rfl, rfl, rfl, by decide +kernel, rfl, by decide +kernel, by decide +kernel⟩
abbrev s__keep : Stmt := top 28
theorem sc__keep : FnScope ["going", "node", "place"] ["going", "node", "place"] (defScope s__keep) := ⟨rfl, rfl, rfl, by decide +kernel, rfl, by decide +kernel, by decide +kernel⟩
abbrev s__restore : Stmt := top 29
theorem sc__restore : FnScope ["going", "change", "_"] ["going", "change", "_"] (defScope s__restore) := ⟨rfl, rfl, rfl, by decide +kernel, rfl, by decide +kernel, by decide +kernel⟩
abbrev s__part : Stmt := top 30
theorem sc__part : FnScope ["going", "node", "place", "below", "place_below"] ["going", "node", "place"] (defScope s__part) := ⟨rfl, rfl, rfl, by decide +kernel, rfl, by decide +kernel, by decide +kernel⟩
abbrev s__usual : Stmt := top 31
theorem sc__usual : FnScope ["going", "_", "place", "below", "place_below"] ["going", "_", "place"] (defScope s__usual) := ⟨rfl, rfl, rfl, by decide +kernel, rfl, by decide +kernel, by decide +kernel⟩
abbrev s__with : Stmt := top 32
theorem sc__with : FnScope ["going", "node", "place"] ["going", "node", "place"] (defScope s__with) := ⟨rfl, rfl, rfl, by decide +kernel, rfl, by decide +kernel, by decide +kernel⟩
abbrev s__bind_below : Stmt := top 33
theorem sc__bind_below : FnScope ["going", "_", "place", "below", "place_below"] ["going", "_", "place"] (defScope s__bind_below) := ⟨rfl, rfl, rfl, by decide +kernel, rfl, by decide +kernel, by decide +kernel⟩
abbrev s__do : Stmt := top 34
theorem sc__do : FnScope ["going", "node", "place"] ["going", "node", "place"] (defScope s__do) := ⟨rfl, rfl, rfl, by decide +kernel, rfl, by decide +kernel, by decide +kernel⟩
abbrev s__operate_below : Stmt := top 35
theorem sc__operate_below : FnScope ["going", "_", "place", "below", "place_below"] ["going", "_", "place"] (defScope s__operate_below) := ⟨rfl, rfl, rfl, by decide +kernel, rfl, by decide +kernel, by decide +kernel⟩
abbrev s__law_start : Stmt := top 39
theorem sc__law_start : FnScope ["script", "cell"] ["script"] (defScope s__law_start) := ⟨rfl, rfl, rfl, by decide +kernel, rfl, by decide +kernel, by decide +kernel⟩
abbrev s__law_fill : Stmt := top 40
theorem sc__law_fill : FnScope ["c", "number"] ["c"] (defScope s__law_fill) := ⟨rfl, rfl, rfl, by decide +kernel, rfl, by decide +kernel, by decide +kernel⟩
abbrev s__law_take : Stmt := top 41
theorem sc__law_take : FnScope ["c", "many", "digit"] ["c", "many"] (defScope s__law_take) := ⟨rfl, rfl, rfl, by decide +kernel, rfl, by decide +kernel, by decide +kernel⟩
abbrev s__law_kinds : Stmt := top 42
theorem sc__law_kinds : FnScope ([] : List Str) ([] : List Str) (defScope s__law_kinds) := ⟨rfl, rfl, rfl, by decide +kernel, rfl, by decide +kernel, by decide +kernel⟩
abbrev s__law_parts : Stmt := top 43
theorem sc__law_parts : FnScope ["kind"] ["kind"] (defScope s__law_parts) := ⟨rfl, rfl, rfl, by decide +kernel, rfl, by decide +kernel, by decide +kernel⟩
abbrev s__law_names : Stmt := top 44
theorem sc__law_names : FnScope ["c", "signs", "stem", "k", "start", "step", "found", "name"] ["c"] (defScope s__law_names) := ⟨rfl, rfl, rfl, by decide +kernel, rfl, by decide +kernel, by decide +kernel⟩
abbrev s__law_free : Stmt := top 45
theorem sc__law_free : FnScope ["name"] ["name"] (defScope s__law_free) := ⟨rfl, rfl, rfl, by decide +kernel, rfl, by decide +kernel, by decide +kernel⟩
abbrev s__law_integer : Stmt := top 46
theorem sc__law_integer : FnScope ["c"] ["c"] (defScope s__law_integer) := ⟨rfl, rfl, rfl, by decide +kernel, rfl, by decide +kernel, by decide +kernel⟩
abbrev s__law_leaf : Stmt := top 47
theorem sc__law_leaf : FnScope ["c", "names", "about", "k"] ["c", "names", "about"] (defScope s__law_leaf) := ⟨rfl, rfl, rfl, by decide +kernel, rfl, by decide +kernel, by decide +kernel⟩
abbrev s__law_rule : Stmt := top 48
theorem sc__law_rule : FnScope ["c", "level", "kind", "depth", "k", "v", "w"] ["c", "level", "kind", "depth"] (defScope s__law_rule) := ⟨rfl, rfl, rfl, by decide +kernel, rfl, by decide +kernel, by decide +kernel⟩
abbrev s__law_ask : Stmt := top 49
theorem sc__law_ask : FnScope ["c", "level", "names", "about", "depth"] ["c", "level", "names", "about", "depth"] (defScope s__law_ask) := ⟨rfl, rfl, rfl, by decide +kernel, rfl, by decide +kernel, by decide +kernel⟩
abbrev s__law_binding : Stmt := top 50
theorem sc__law_binding : FnScope ["c", "k", "level", "names", "about", "depth", "x", "body", "f", "use"] ["c", "k", "level", "names", "about", "depth"] (defScope s__law_binding) := ⟨rfl, rfl, rfl, by decide +kernel, rfl, by decide +kernel, by decide +kernel⟩
abbrev s__law_change : Stmt := top 51
theorem sc__law_change : FnScope ["c", "k", "level", "names", "about", "depth", "kind", "rule"] ["c", "k", "level", "names", "about", "depth"] (defScope s__law_change) := ⟨rfl, rfl, rfl, by decide +kernel, rfl, by decide +kernel, by decide +kernel⟩
abbrev s__law_expression : Stmt := top 52
theorem sc__law_expression : FnScope ["c", "level", "names", "about", "depth", "k", "a", "b", "x"] ["c", "level", "names", "about", "depth"] (defScope s__law_expression) := ⟨rfl, rfl, rfl, by decide +kernel, rfl, by decide +kernel, by decide +kernel⟩
abbrev s__law_inner : Stmt := top 53
theorem sc__law_inner : FnScope ["e", "part"] ["e"] (defScope s__law_inner) := ⟨rfl, rfl, rfl, by decide +kernel, rfl, by decide +kernel, by decide +kernel⟩
abbrev s__law_depth : Stmt := top 54
theorem sc__law_depth : FnScope ["e", "part"] ["e"] (defScope s__law_depth) := ⟨rfl, rfl, rfl, by decide +kernel, rfl, by decide +kernel, by decide +kernel⟩
abbrev s__law_size : Stmt := top 55
theorem sc__law_size : FnScope ["e", "part"] ["e"] (defScope s__law_size) := ⟨rfl, rfl, rfl, by decide +kernel, rfl, by decide +kernel, by decide +kernel⟩
abbrev s__law_program : Stmt := top 56
theorem sc__law_program : FnScope ["c", "program"] ["c"] (defScope s__law_program) := ⟨rfl, rfl, rfl, by decide +kernel, rfl, by decide +kernel, by decide +kernel⟩
abbrev s__law_bad : Stmt := top 57
theorem sc__law_bad : FnScope ["value"] ["value"] (defScope s__law_bad) := ⟨rfl, rfl, rfl, by decide +kernel, rfl, by decide +kernel, by decide +kernel⟩
abbrev s__law_shown : Stmt := top 58
theorem sc__law_shown : FnScope ["value"] ["value"] (defScope s__law_shown) := ⟨rfl, rfl, rfl, by decide +kernel, rfl, by decide +kernel, by decide +kernel⟩
abbrev s__law_with : Stmt := top 59
theorem sc__law_with : FnScope ["env", "x", "value", "made"] ["env", "x", "value"] (defScope s__law_with) := ⟨rfl, rfl, rfl, by decide +kernel, rfl, by decide +kernel, by decide +kernel⟩
abbrev s__law_step : Stmt := top 60
theorem sc__law_step : FnScope ["st"] ["st"] (defScope s__law_step) := ⟨rfl, rfl, rfl, by decide +kernel, rfl, by decide +kernel, by decide +kernel⟩
abbrev s__law_applied : Stmt := top 61
theorem sc__law_applied : FnScope ["f", "a", "k", "st"] ["f", "a", "k", "st"] (defScope s__law_applied) := ⟨rfl, rfl, rfl, by decide +kernel, rfl, by decide +kernel, by decide +kernel⟩
abbrev s__law_done : Stmt := top 62
theorem sc__law_done : FnScope ["kind", "values", "k", "st"] ["kind", "values", "k", "st"] (defScope s__law_done) := ⟨rfl, rfl, rfl, by decide +kernel, rfl, by decide +kernel, by decide +kernel⟩
abbrev s__law_several : Stmt := top 63
theorem sc__law_several : FnScope ["parts", "env", "about", "k", "st", "values", "part"] ["parts", "env", "about", "k", "st"] (defScope s__law_several) := ⟨rfl, rfl, rfl, by decide +kernel, rfl, by decide +kernel, by decide +kernel⟩
abbrev s__law_eval : Stmt := top 64
theorem sc__law_eval : FnScope ["e", "env", "about", "k", "st", "rule", "table", "before", "value", "one", "names", "outer", "values", "at"] ["e", "env", "about", "k", "st"] (defScope s__law_eval) := ⟨rfl, rfl, rfl, by decide +kernel, rfl, by decide +kernel, by decide +kernel⟩
abbrev s__law_given : Stmt := top 65
theorem sc__law_given : FnScope ["e", "env", "about", "k", "st", "value", "values"] ["e", "env", "about", "k", "st"] (defScope s__law_given) := ⟨rfl, rfl, rfl, by decide +kernel, rfl, by decide +kernel, by decide +kernel⟩
abbrev s__law_run : Stmt := top 66
theorem sc__law_run : FnScope ["program", "fuel", "st", "value", "end"] ["program", "fuel"] (defScope s__law_run) := ⟨rfl, rfl, rfl, by decide +kernel, rfl, by decide +kernel, by decide +kernel⟩
abbrev s__law_whole : Stmt := top 67
theorem sc__law_whole : FnScope ["n"] ["n"] (defScope s__law_whole) := ⟨rfl, rfl, rfl, by decide +kernel, rfl, by decide +kernel, by decide +kernel⟩
abbrev s__law_is_shown : Stmt := top 68
theorem sc__law_is_shown : FnScope ["x"] ["x"] (defScope s__law_is_shown) := ⟨rfl, rfl, rfl, by decide +kernel, rfl, by decide +kernel, by decide +kernel⟩
abbrev s__law_is_run : Stmt := top 69
theorem sc__law_is_run : FnScope ["told", "one"] ["told"] (defScope s__law_is_run) := ⟨rfl, rfl, rfl, by decide +kernel, rfl, by decide +kernel, by decide +kernel⟩
abbrev s_law : Stmt := top 70
theorem sc_law : FnScope ["script", "c", "program", "fuel", "told"] ["script"] (defScope s_law) := ⟨rfl, rfl, rfl, by decide +kernel, rfl, by decide +kernel, by decide +kernel⟩
/-- what the top has left -/
structure Tx (w : World) (K : PySem.W.Frag) (mg : Str → Option Value) (aFunction aRun aRunB aPlace aForms aActions aOps : Addr) : Prop where
  d_Function___init__ : DefI K aFunction "__init__" "Function.__init__" s_Function___init__ ["self", "level", "body", "scope"]
  b_Run : DefB K mg aRunB "__init__" "Run.__init__" s_Run___init__ ["self", "fuel"]
  d_Run_result : DefM K aRun "result" "Run.result" s_Run_result ["self"]
  d_Run_finish : DefM K aRun "finish" "Run.finish" s_Run_finish ["self"]
  d_Run_get_stuck : DefM K aRun "get_stuck" "Run.get_stuck" s_Run_get_stuck ["self", "level"]
  d_Run_step : DefM K aRun "step" "Run.step" s_Run_step ["self"]
  d_Run_operate : DefM K aRun "operate" "Run.operate" s_Run_operate ["self", "word", "level"]
  d_Run_decide : DefM K aRun "decide" "Run.decide" s_Run_decide ["self", "level"]
  d_Run_set_on : DefM K aRun "set_on" "Run.set_on" s_Run_set_on ["self", "key", "setting"]
  d_Walk___init__ : DefI K aRun "__init__" "Walk.__init__" s_Walk___init__ ["self", "fuel"]
  d_Walk_is_going : DefM K aRun "is_going" "Walk.is_going" s_Walk_is_going ["self"]
  d_Walk_visit : DefM K aRun "visit" "Walk.visit" s_Walk_visit ["self", "expression", "scope"]
  d_Walk_visit_all : DefM K aRun "visit_all" "Walk.visit_all" s_Walk_visit_all ["self", "expressions", "scope"]
  d_Walk_apply : DefM K aRun "apply" "Walk.apply" s_Walk_apply ["self", "function", "value"]
  d_Walk_choose : DefM K aRun "choose" "Walk.choose" s_Walk_choose ["self", "level", "branches", "scope"]
  d_Walk_set_for : DefM K aRun "set_for" "Walk.set_for" s_Walk_set_for ["self", "key", "setting", "body", "scope"]
  d_Walk_restore : DefM K aRun "restore" "Walk.restore" s_Walk_restore ["self", "change"]
  d_look_up : DefX K mg "look_up" s_look_up ["names", "name"]
  d__shown : DefX K mg "_shown" s__shown ["value"]
  d__call : DefX K mg "_call" s__call ["run", "level"]
  d__sum : DefX K mg "_sum" s__sum ["run", "level"]
  d__less : DefX K mg "_less" s__less ["run", "level"]
  d__say : DefX K mg "_say" s__say ["run", "level"]
  d_part_of : DefX K mg "part_of" s_part_of ["node", "number"]
  d_Place___init__ : DefI K aPlace "__init__" "Place.__init__" s_Place___init__ ["self", "level", "names", "about"]
  d_Place_bind : DefM K aPlace "bind" "Place.bind" s_Place_bind ["self", "name", "value"]
  d_run : DefX K mg "run" s_run ["program", "fuel"]
  d__visit : DefX K mg "_visit" s__visit ["going", "node", "place"]
  d__visit_built_in : DefX K mg "_visit_built_in" s__visit_built_in ["going", "node", "place"]
  d__num : DefX K mg "_num" s__num ["going", "node", "_"]
  d__name : DefX K mg "_name" s__name ["going", "node", "place"]
  d__fn : DefX K mg "_fn" s__fn ["going", "node", "place"]
  d__operation : DefX K mg "_operation" s__operation ["going", "node", "place"]
  d__operate : DefX K mg "_operate" s__operate ["going", "word", "place"]
  d__if : DefX K mg "_if" s__if ["going", "node", "place"]
  d__choose : DefX K mg "_choose" s__choose ["going", "branches", "place"]
  d__let : DefX K mg "_let" s__let ["going", "node", "place"]
  d__bind : DefX K mg "_bind" s__bind ["going", "node", "place"]
  d__rule : DefX K mg "_rule" s__rule ["going", "node", "place"]
  d__keep : DefX K mg "_keep" s__keep ["going", "node", "place"]
  d__restore : DefX K mg "_restore" s__restore ["going", "change", "_"]
  d__part : DefX K mg "_part" s__part ["going", "node", "place"]
  d__usual : DefX K mg "_usual" s__usual ["going", "_", "place"]
  d__with : DefX K mg "_with" s__with ["going", "node", "place"]
  d__bind_below : DefX K mg "_bind_below" s__bind_below ["going", "_", "place"]
  d__do : DefX K mg "_do" s__do ["going", "node", "place"]
  d__operate_below : DefX K mg "_operate_below" s__operate_below ["going", "_", "place"]
  d__law_start : DefX K mg "_law_start" s__law_start ["script"]
  d__law_fill : DefX K mg "_law_fill" s__law_fill ["c"]
  d__law_take : DefX K mg "_law_take" s__law_take ["c", "many"]
  d__law_kinds : DefX K mg "_law_kinds" s__law_kinds []
  d__law_parts : DefX K mg "_law_parts" s__law_parts ["kind"]
  d__law_names : DefX K mg "_law_names" s__law_names ["c"]
  d__law_free : DefX K mg "_law_free" s__law_free ["name"]
  d__law_integer : DefX K mg "_law_integer" s__law_integer ["c"]
  d__law_leaf : DefX K mg "_law_leaf" s__law_leaf ["c", "names", "about"]
  d__law_rule : DefX K mg "_law_rule" s__law_rule ["c", "level", "kind", "depth"]
  d__law_ask : DefX K mg "_law_ask" s__law_ask ["c", "level", "names", "about", "depth"]
  d__law_binding : DefX K mg "_law_binding" s__law_binding ["c", "k", "level", "names", "about", "depth"]
  d__law_change : DefX K mg "_law_change" s__law_change ["c", "k", "level", "names", "about", "depth"]
  d__law_expression : DefX K mg "_law_expression" s__law_expression ["c", "level", "names", "about", "depth"]
  d__law_inner : DefX K mg "_law_inner" s__law_inner ["e"]
  d__law_depth : DefX K mg "_law_depth" s__law_depth ["e"]
  d__law_size : DefX K mg "_law_size" s__law_size ["e"]
  d__law_program : DefX K mg "_law_program" s__law_program ["c"]
  d__law_bad : DefX K mg "_law_bad" s__law_bad ["value"]
  d__law_shown : DefX K mg "_law_shown" s__law_shown ["value"]
  d__law_with : DefX K mg "_law_with" s__law_with ["env", "x", "value"]
  d__law_step : DefX K mg "_law_step" s__law_step ["st"]
  d__law_applied : DefX K mg "_law_applied" s__law_applied ["f", "a", "k", "st"]
  d__law_done : DefX K mg "_law_done" s__law_done ["kind", "values", "k", "st"]
  d__law_several : DefX K mg "_law_several" s__law_several ["parts", "env", "about", "k", "st"]
  d__law_eval : DefX K mg "_law_eval" s__law_eval ["e", "env", "about", "k", "st"]
  d__law_given : DefX K mg "_law_given" s__law_given ["e", "env", "about", "k", "st"]
  d__law_run : DefX K mg "_law_run" s__law_run ["program", "fuel"]
  d__law_whole : DefX K mg "_law_whole" s__law_whole ["n"]
  d__law_is_shown : DefX K mg "_law_is_shown" s__law_is_shown ["x"]
  d__law_is_run : DefX K mg "_law_is_run" s__law_is_run ["told"]
  d_law : DefX K mg "law" s_law ["script"]
  cl_Function : Cls K aFunction
  mg_Function : mg "Function" = some (.ref aFunction)
  n_Function_level : NoAttr K aFunction "level"
  n_Function_body : NoAttr K aFunction "body"
  n_Function_scope : NoAttr K aFunction "scope"
  cl_Run : Cls K aRun
  mgb_Run : mg "Run" = some (.ref aRunB)
  n_Run_fuel : NoAttr K aRun "fuel"
  n_Run_outputs : NoAttr K aRun "outputs"
  n_Run_end : NoAttr K aRun "end"
  n_Run_stack : NoAttr K aRun "stack"
  n_Run_settings : NoAttr K aRun "settings"
  cl_Walk : Cls K aRun
  mg_Walk : mg "Walk" = some (.ref aRun)
  n_Walk_todo : NoAttr K aRun "todo"
  cl_Place : Cls K aPlace
  mg_Place : mg "Place" = some (.ref aPlace)
  n_Place_level : NoAttr K aPlace "level"
  n_Place_names : NoAttr K aPlace "names"
  n_Place_about : NoAttr K aPlace "about"
  z_len : mg "len" = none
  z_max : mg "max" = none
  z_sum : mg "sum" = none
  z_isinstance : mg "isinstance" = none
  z_range : mg "range" = none
  z_int : mg "int" = none
  z_tuple : mg "tuple" = none
  z_bool : mg "bool" = none
  z_dict : mg "dict" = none
  z_reversed : mg "reversed" = none
  m_BUILT_IN : mg "BUILT_IN" = some (.ref aForms)
  m_ACTIONS : mg "ACTIONS" = some (.ref aActions)
  m_OPERATIONS : mg "OPERATIONS" = some (.ref aOps)
  f_FORMS : ∀ x n : Str, (x, n) ∈ formsL → ∃ f, mg n = some (.ref f) ∧ KDct K w aForms x (.ref f)
  f_ACTIONS : ∀ x n : Str, (x, n) ∈ actionsL → ∃ f, mg n = some (.ref f) ∧ KDct K w aActions x (.ref f)
  i_F : IsF K aFunction
  f_OPS : ∀ x n : Str, (x, n) ∈ opsL → ∃ f, mg n = some (.ref f) ∧ KDct K w aOps x (.ref f)


/-! ### data -/
inductive D where
  | non | bl (b : Bool) | int (i : Int) | str (x : Str) | tup (ds : List D)
/-- v stands for the data d, at most n deep -/
def Rep : Nat → Hp → D → V → Prop
  | 0, _, _, _ => False
  | _ + 1, _, .non, v => v = .non
  | _ + 1, _, .bl b, v => v = .bl b
  | _ + 1, _, .int i, v => v = .int i
  | _ + 1, _, .str x, v => v = .str x ∧ x.length ≤ 100
  | n + 1, H, .tup ds, v => ∃ a xs, v = .ref a ∧ H a = some (.tup xs) ∧ Paired (fun d x => Rep n H d x) ds xs

/-! ### heaps -/
/-- all but c is as it was -/
def Oth (c : Addr) (H H' : Hp) : Prop := ∀ b o, b ≠ c → H b = some o → H' b = some o
theorem Oth.refl (c : Addr) (H : Hp) : Oth c H H := fun _ _ _ h => h
theorem Oth.trans {c : Addr} {H H1 H2 : Hp} (a : Oth c H H1) (b : Oth c H1 H2) : Oth c H H2 := fun x o n h => b x o n (a x o n h)
theorem Oth.new {c p : Addr} {H : Hp} {o : HO} (h : H p = none) : Oth c H (upd H p o) := fun b u _ e => by
  rw [upd_ne (ne_of_none e h)]
  exact e
theorem Oth.put {c : Addr} {H : Hp} {o : HO} : Oth c H (upd H c o) := fun b u n e => by
  rw [upd_ne n]
  exact e
theorem Same.new {p : Addr} {H : Hp} {o : HO} (h : H p = none) : Same H (upd H p o) := fun b u e => by
  rw [upd_ne (ne_of_none e h)]
  exact e
theorem Same.oth {c : Addr} {H H' : Hp} (h : Same H H') : Oth c H H' := fun b o _ e => h b o e
/-- the tuples are kept -/
def Tups (H H' : Hp) : Prop := ∀ a xs, H a = some (.tup xs) → H' a = some (.tup xs)
theorem Tups.refl (H : Hp) : Tups H H := fun _ _ h => h
theorem Tups.trans {H H1 H2 : Hp} (a : Tups H H1) (b : Tups H1 H2) : Tups H H2 := fun x o h => b x o (a x o h)
theorem Same.tups {H H' : Hp} (h : Same H H') : Tups H H' := fun a xs e => h a _ e
theorem Oth.tups {c : Addr} {H H' : Hp} {l : List V} (hc : H c = some (.lst l)) (h : Oth c H H') : Tups H H' := fun a xs e => h a _ (ne_of e hc (by intro q; cases q)) e
theorem Paired.imp' {α β : Type} {F G : α → β → Prop} : ∀ {l₁ : List α} {l₂ : List β}, Paired F l₁ l₂ → (∀ a b, F a b → G a b) → Paired G l₁ l₂
  | _, _, .nil, _ => .nil
  | _, _, .cons r t, f => .cons (f _ _ r) (Paired.imp' t f)
theorem Rep.tups {H H' : Hp} (h : Tups H H') : ∀ {n : Nat} {d : D} {v : V}, Rep n H d v → Rep n H' d v
  | 0, _, _, r => r
  | _ + 1, .non, _, r => r
  | _ + 1, .bl _, _, r => r
  | _ + 1, .int _, _, r => r
  | _ + 1, .str _, _, r => r
  | n + 1, .tup ds, v, ⟨a, xs, e, q, p⟩ => ⟨a, xs, e, h a xs q, Paired.imp' p fun _ _ r => Rep.tups h r⟩
theorem Rep.up {H : Hp} : ∀ {n : Nat} {d : D} {v : V}, Rep n H d v → Rep (n + 1) H d v
  | 0, _, _, r => r.elim
  | _ + 1, .non, _, r => r
  | _ + 1, .bl _, _, r => r
  | _ + 1, .int _, _, r => r
  | _ + 1, .str _, _, r => r
  | n + 1, .tup ds, v, ⟨a, xs, e, q, p⟩ => ⟨a, xs, e, q, Paired.imp' p fun _ _ r => Rep.up r⟩
theorem Rep.mono {H : Hp} {d : D} {v : V} : ∀ {n m : Nat}, n ≤ m → Rep n H d v → Rep m H d v := fun {n m} h r => by
  induction h with
  | refl => exact r
  | step _ ih => exact ih.up

/-! ### the law's drawing state -/
/-- c is a drawing state with the names nms -/
def CSt (H : Hp) (c : Addr) (nms : List Str) : Prop := ∃ (s nm : Addr) (ns : List Int) (i a k b : Int), H c = some (.lst [.ref s, .int i, .int a, .int k, .int b, .ref nm]) ∧
  H s = some (.lst (ns.map V.int)) ∧ ns.length ≤ 63 ∧ 0 ≤ i ∧ H nm = some (.lst (nms.map V.str)) ∧ s ≠ c ∧ nm ≠ c
theorem CSt.lst {H : Hp} {c : Addr} {nms : List Str} (h : CSt H c nms) : ∃ l, H c = some (.lst l) := by
  obtain ⟨s, nm, ns, i, a, k, b, h, _⟩ := h
  exact ⟨_, h⟩
/-- other objects change or come -/
theorem CSt.same {H H' : Hp} {c : Addr} {nms : List Str} (h : CSt H c nms) (e : Same H H') : CSt H' c nms := by
  obtain ⟨s, nm, ns, i, a, k, b, h1, h2, h3, h4, h5, h6⟩ := h
  exact ⟨s, nm, ns, i, a, k, b, e _ _ h1, e _ _ h2, h3, h4, e _ _ h5, h6⟩

inductive spFill : List V → Hp → VK → XK → Prop
  | mk {H : Hp} {c : Addr} {nms : List Str} {Q : VK} {E : XK} (hC : CSt H c nms) (q : ∀ n H', CSt H' c nms → Oth c H H' → Q (.int n) H') : spFill [.ref c] H Q E
inductive spTake : List V → Hp → VK → XK → Prop
  | mk {H : Hp} {c : Addr} {nms : List Str} {m : Int} {Q : VK} {E : XK} (hC : CSt H c nms) (h1 : 0 < m) (h2 : m < 1073741824)
    (q : ∀ d H', 0 ≤ d → d < m → CSt H' c nms → Oth c H H' → Q (.int d) H') : spTake [.ref c, .int m] H Q E

section
variable {P : Program} {w : World} {K : PySem.W.Frag} {mg : Str → Option Value} {base : Heap} {aFunction aRun aRunB aPlace aForms aActions aOps : Addr} {k : Nat}

theorem iteD {b : Bool} {A B : Prop} (h1 : b = true → A) (h2 : b = false → B) : if b = true then A else B := by
  cases b
  · rw [if_neg Bool.false_ne_true]; exact h2 rfl
  · rw [if_pos rfl]; exact h1 rfl
theorem iteTr {b : Bool} {A B : Prop} (h : b = true) (q : A) : if b = true then A else B := by rw [if_pos h]; exact q
theorem iteFr {b : Bool} {A B : Prop} (h : b = false) (q : B) : if b = true then A else B := by subst h; rw [if_neg Bool.false_ne_true]; exact q
theorem small100 {n : Nat} (h : n ≤ 100000) : n ≤ sizeLine := Nat.le_trans h (by decide)
theorem cst_mk {H : Hp} {c s nm : Addr} {nms : List Str} {ns : List Int} {i a k b : Int} (hs : H s = some (.lst (ns.map V.int))) (h63 : ns.length ≤ 63) (hi : 0 ≤ i) (hnm : H nm = some (.lst (nms.map V.str))) (n1 : s ≠ c) (n2 : nm ≠ c) :
    CSt (upd H c (.lst [.ref s, .int i, .int a, .int k, .int b, .ref nm])) c nms :=
  ⟨s, nm, ns, i, a, k, b, upd_same, by rw [upd_ne n1]; exact hs, h63, hi, by rw [upd_ne n2]; exact hnm, n1, n2⟩
theorem seq_i {t u : TS} {D : Ends} {σ : L2.St} {H : Hp} (h : ∀ N : L2.St → Hp → Prop, (∀ σ' H', u D σ' H' → N σ' H') → t { D with nx := N } σ H) : tSeq t u D σ H := h (u D) fun _ _ q => q
theorem cut_i {t u : TS} {D : Ends} {σ : L2.St} {H : Hp} (Mid : L2.St → Hp → Prop) (h : ∀ N : L2.St → Hp → Prop, (∀ σ' H', Mid σ' H' → N σ' H') → t { D with nx := N } σ H) (h2 : ∀ σ' H', Mid σ' H' → u D σ' H') : Evl.tCut t u D σ H := ⟨Mid, h Mid fun _ _ q => q, h2⟩
theorem tNext_i {D : Ends} {σ : L2.St} {H : Hp} (h : D.nx σ H) : tNext D σ H := h
theorem e1 {α : Sort _} {A B : α → Prop} {x : α} (a : A x) (b : B x) : ∃ x, A x ∧ B x := ⟨x, a, b⟩
theorem e2 {α β : Sort _} {A B C : α → β → Prop} {x : α} {y : β} (a : A x y) (b : B x y) (c : C x y) : ∃ x y, A x y ∧ B x y ∧ C x y := ⟨x, y, a, b, c⟩
theorem e4 {α β γ δ : Sort _} {A B C D E : α → β → γ → δ → Prop} {x : α} {y : β} {z : γ} {u : δ} (a : A x y z u) (b : B x y z u) (c : C x y z u) (d : D x y z u) (e : E x y z u) :
    ∃ x y z u, A x y z u ∧ B x y z u ∧ C x y z u ∧ D x y z u ∧ E x y z u := ⟨x, y, z, u, a, b, c, d, e⟩
theorem eOr {α : Sort _} {A B : α → Prop} {C : Prop} {x : α} (a : A x) (b : B x) : (∃ x, A x ∧ B x) ∨ C := .inl ⟨x, a, b⟩
theorem eOrR {α : Sort _} {A B : α → Prop} {C : Prop} {x : α} (a : A x) (b : B x) : C ∨ (∃ x, A x ∧ B x) := .inr ⟨x, a, b⟩
theorem eTru {K : PySem.W.Frag} {H : Hp} {p : Addr} {xs : List V} {Q : Bool → Prop} (h : SqL K H p xs) (q : Q (!xs.isEmpty)) : ∃ k, TruV K (.ref p) H k ∧ Q k := ⟨_, .inl ⟨_, h, rfl⟩, q⟩
/-! ### new objects -/
theorem tup_i {H : Hp} {xs : List V} {Q : VK} (hl : xs.length ≤ 100000) (q : ∀ p H', Same H H' → H p = none → H' p = some (.tup xs) → Q (.ref p) H') : xs.length ≤ sizeLine ∧ ∀ p, H p = none → Q (.ref p) (upd H p (.tup xs)) :=
  ⟨small100 hl, fun p hp => q p _ (Same.new hp) hp upd_same⟩
theorem lst_i {H : Hp} {xs : List V} {Q : VK} (hl : xs.length ≤ 100000) (q : ∀ p H', Same H H' → H p = none → H' p = some (.lst xs) → Q (.ref p) H') : xs.length ≤ sizeLine ∧ ∀ p, H p = none → Q (.ref p) (upd H p (.lst xs)) :=
  ⟨small100 hl, fun p hp => q p _ (Same.new hp) hp upd_same⟩
theorem cat_i {H : Hp} {a b : Addr} {xs ys : List V} {Q : VK} (ha : H a = some (.lst xs)) (hb : H b = some (.lst ys)) (hl : xs.length + ys.length ≤ 100000) (q : ∀ p H', Same H H' → H p = none → H' p = some (.lst (xs ++ ys)) → Q (.ref p) H') : rCat (.ref a) (.ref b) H Q :=
  ⟨a, b, xs, ys, rfl, rfl, ha, hb, small100 hl, fun p hp => q p _ (Same.new hp) hp upd_same⟩
theorem eTruT {K : PySem.W.Frag} {H : Hp} {p : Addr} {xs : List V} {Q : Bool → Prop} (h : SqT K H p xs) (q : Q (!xs.isEmpty)) : ∃ k, TruV K (.ref p) H k ∧ Q k := ⟨_, .inr (.inl ⟨_, h, rfl⟩), q⟩
theorem new_facts {H H1 : Hp} {p : Addr} {o : HO} (hp : H p = none) (h : upd H p o = H1) : Same H H1 ∧ H1 p = some o := by
  subst h
  exact ⟨Same.new hp, upd_same⟩
local macro_rules | `(tactic| walk_at "sq") => `(tactic| first | exact SqL.of (by assumption) | exact .inl (SqL.of (by assumption)) | assumption | exact SqT.of (by assumption) | exact .inr (SqT.of (by assumption)) | exact SqL.of upd_same | exact .inl (SqL.of upd_same))
local macro_rules | `(tactic| walk_at "hp") => `(tactic| first | assumption | exact upd_same)
local macro_rules | `(tactic| walk_at "cond") => `(tactic| first | assumption | rfl | (apply And.intro <;> assumption) | decide | (show (0 : Int) < _; decide) | (apply And.intro <;> decide) | (apply Or.inr; apply And.intro <;> decide) | (apply Or.inl; apply And.intro <;> decide))
local macro_rules | `(tactic| walk_at "s") => `(tactic| first
  | (with_reducible apply iteF)
  | (with_reducible apply iteT)
  | (apply e1; rfl)
  | (apply e2; rfl; rfl)
  | (apply e4; rfl; rfl; walk_at "sq"; rfl)
  | (apply e4; rfl; rfl; walk_at "hp"; rfl)
  | (apply e2; rfl; walk_at "sq")
  | (apply eOr; rfl)
  | (apply eOrR; rfl)
  | (apply eTru; walk_at "sq")
  | (apply eTruT; walk_at "sq")
  | (apply And.intro; (walk_at "cond"))
  | (apply iteTr; rfl)
  | (apply iteFr; rfl)
  | (apply iteD; all_goals intro _)
  | (with_reducible apply tNext_i))
local macro_rules | `(tactic| walk_at "g") => `(tactic| repeat' ((fail_if_success (with_reducible apply seq_i)); (fail_if_success (with_reducible apply cut_i)); (walk_at "s")))
local macro_rules | `(tactic| walk_at "size") => `(tactic| first | (simp only [List.length_cons, List.length_nil]; decide) | decide)
local macro_rules | `(tactic| walk_at "newp") => `(tactic| (intro p hp; generalize hH : upd _ _ _ = H1; have st := new_facts hp hH; clear hH; obtain ⟨s, t⟩ := st))
local macro_rules | `(tactic| walk_at "new") => `(tactic| walk_at "g"; first | (apply And.intro; (focus (apply small100; walk_at "size")); walk_at "newp") | (walk_at "newp"))

theorem ok_take (T : Tx w K mg aFunction aRun aRunB aPlace aForms aActions aOps) (G__law_fill : FnX P w K mg base k "_law_fill" ["c"] spFill) : FnX P w K mg base (k + 1) "_law_take" ["c", "many"] spTake := by
  refine T.d__law_take.ok sc__law_take (fun vs H Q E h => by cases h; rfl) (fun f cdv A outer s H vs Q E hr h => ?_)
  rcases h with ⟨hC, h1, h2, q⟩
  rename_i c nms m
  refine ⟨_, (Evl.pss_cut (ps_if (pt_cmpR op_lt (pe_ix ix_list (pv 0) (pe_int) (fun _ _ => rfl)) (pv 1) (nomark _)) (pss_one (ps_asg (pe_fn G__law_fill hr rfl (pa_cons (pv 0) pa_nil)) (pg_sub (pv 0) (pe_int) set_list))) pss_nil)
    (pss_cons (ps_set (i := 2) sc__law_take.nd rfl (.inl rfl) (pe_op op_mod (pe_callTy call_int1 rfl T.z_int (by decide +kernel) (pa_cons (pe_ix ix_list (pv 0) (pe_int) (fun _ _ => rfl)) pa_nil)) (pv 1)))
    (pss_cons (ps_asg (pe_op op_fdiv (pe_ix ix_list (pv 0) (pe_int) (fun _ _ => rfl)) (pv 1)) (pg_sub (pv 0) (pe_int) set_list))
    (pss_one (ps_ret (pv 2)))))), ?_⟩
  show Evl.tCut _ _ _ [some (.ref c), some (.int m), none] _
  refine cut_i (fun σ' H' => σ' = [some (.ref c), some (.int m), none] ∧ CSt H' c nms ∧ Oth c H H') (fun N hN => ?_) ?_
  · have hC' := hC
    obtain ⟨s0, nm, ns, i, a, kk, b, hc, hs, h63, hi, hnm, n1, n2⟩ := hC'
    walk_at "g"
    · refine spFill.mk hC fun n H' hC' ho => ?_
      obtain ⟨s0, nm, ns, i, a, kk, b, hc, hs, h63, hi, hnm, n1, n2⟩ := hC'
      walk_at "g"
      exact hN _ _ ⟨rfl, cst_mk hs h63 hi hnm n1 n2, ho.trans Oth.put⟩
    · exact hN _ _ ⟨rfl, hC, Oth.refl _ _⟩
  · rintro σ' H' ⟨rfl, hC, ho⟩
    obtain ⟨s0, nm, ns, i, a, kk, b, hc, hs, h63, hi, hnm, n1, n2⟩ := hC
    refine seq_i fun N hN => ?_
    walk_at "g"
    refine hN _ _ ?_
    refine seq_i fun N hN => ?_
    walk_at "g"
    refine hN _ _ ?_
    walk_at "g"
    exact q _ _ (Int.emod_nonneg _ (by omega)) (Int.emod_lt_of_pos _ h1) (cst_mk hs h63 hi hnm n1 n2) (ho.trans Oth.put)

theorem at_ex {α : Type} {xs : List α} {i : Int} (h0 : 0 ≤ i) (h : i < xs.length) : ∃ v, xs[i.toNat]? = some v ∧ atI xs i = some v := by
  have hj : i.toNat < xs.length := by omega
  refine ⟨xs[i.toNat], List.getElem?_eq_getElem hj, ?_⟩
  have q := atI_nat (List.getElem?_eq_getElem hj)
  rw [show ((i.toNat : Nat) : Int) = i by omega] at q
  exact q
theorem at_int {ns : List Int} {i : Int} (h0 : 0 ≤ i) (h : i < ns.length) : ∃ n, atI (ns.map V.int) i = some (.int n) := by
  obtain ⟨v, e, h⟩ := at_ex (xs := ns.map V.int) h0 (by rw [List.length_map]; exact h)
  rw [List.getElem?_map] at e
  obtain ⟨n, _, rfl⟩ := Option.map_eq_some_iff.mp e
  exact ⟨n, h⟩
theorem at_last {ns : List Int} (h : ns ≠ []) : ∃ n, atI (ns.map V.int) (-1) = some (.int n) := by
  have hl : 0 < ns.length := List.length_pos_iff.mpr h
  obtain ⟨n, e⟩ := at_int (ns := ns) (i := ns.length - 1) (by omega) (by omega)
  refine ⟨n, ?_⟩
  rw [← e]
  unfold atI ixN
  rw [List.length_map, if_neg (by omega), if_pos (by omega), if_pos (by omega), if_pos (by omega)]
  have : (-1 + (ns.length : Int)).toNat = ((ns.length : Int) - 1).toNat := by omega
  rw [this]

theorem ok_fill (T : Tx w K mg aFunction aRun aRunB aPlace aForms aActions aOps) : FnX P w K mg base (k + 1) "_law_fill" ["c"] spFill := by
  refine T.d__law_fill.ok sc__law_fill (fun vs H Q E h => by cases h; rfl) (fun f cdv A outer s H vs Q E hr h => ?_)
  rcases h with ⟨hC, q⟩
  rename_i c nms
  refine ⟨_, (pss_cons (ps_asg (pe_op op_add (pe_ix ix_list (pv 0) (pe_int) (fun _ _ => rfl)) (pe_int)) (pg_sub (pv 0) (pe_int) set_list))
    (pss_cons (ps_set (i := 1) sc__law_fill.nd rfl (.inl rfl) (pe_op op_add (pe_op op_mul (pe_ix ix_list (pv 0) (pe_int) (fun _ _ => rfl)) (pe_int)) (pe_int)))
    (Evl.pss_cut (ps_if (pt_cmpR op_lt (pe_ix ix_list (pv 0) (pe_int) (fun _ _ => rfl)) (pe_callB call_len_seq rfl T.z_len PySem.boot_len (pa_cons (pe_ix ix_list (pv 0) (pe_int) (fun _ _ => rfl)) pa_nil)) (nomark _)) (pss_cons (ps_set (i := 1) sc__law_fill.nd rfl (.inl rfl) (pe_ix ix_list (pe_ix ix_list (pv 0) (pe_int) (fun _ _ => rfl)) (pe_ix ix_list (pv 0) (pe_int) (fun _ _ => rfl)) (fun _ _ => rfl)))
    (pss_cons (ps_asg (pe_op op_add (pe_ix ix_list (pv 0) (pe_int) (fun _ _ => rfl)) (pe_int)) (pg_sub (pv 0) (pe_int) set_list))
    (Evl.pss_cut (ps_if (pt_cmpR op_lt (pv 1) (pe_int) (nomark _)) (pss_one (ps_set (i := 1) sc__law_fill.nd rfl (.inl rfl) (pe_op op_sub (pe_op op_sub (pe_int) (pe_int)) (pv 1)))) pss_nil)
    (pss_one (ps_if (pt_cmpR op_ge (pv 1) (pe_op op_pow (pe_int) (pe_int)) (nomark _)) (pss_one (ps_ret (pv 1))) pss_nil))))) pss_nil)
    (Evl.pss_cut (ps_if (PW.pt (pw_and (pt_truth (pe_ix ix_list (pv 0) (pe_int) (fun _ _ => rfl)) (by intro _; rfl)) (pw_and1 (pt_cmpR op_ge (pe_ix ix_list (pv 0) (pe_int) (fun _ _ => rfl)) (pe_callB call_len_seq rfl T.z_len PySem.boot_len (pa_cons (pe_ix ix_list (pv 0) (pe_int) (fun _ _ => rfl)) pa_nil)) (nomark _))))) (pss_one (ps_set (i := 1) sc__law_fill.nd rfl (.inl rfl) (pe_op op_add (pv 1) (pe_op op_mod (pe_callTy call_int1 rfl T.z_int (by decide +kernel) (pa_cons (pe_ix ix_list (pe_ix ix_list (pv 0) (pe_int) (fun _ _ => rfl)) (pe_un un_neg (pe_int)) (fun _ _ => rfl)) pa_nil)) (pe_int))))) pss_nil)
    (pss_cons (ps_set (i := 1) sc__law_fill.nd rfl (.inl rfl) (pe_op op_mod (pe_callTy call_int1 rfl T.z_int (by decide +kernel) (pa_cons (pe_op op_add (pe_op op_mul (pv 1) (pe_int)) (pe_op op_mul (pe_ix ix_list (pv 0) (pe_int) (fun _ _ => rfl)) (pe_int))) pa_nil)) (pe_int)))
    (pss_one (ps_ret (pe_op op_add (pe_op op_mod (pe_callTy call_int1 rfl T.z_int (by decide +kernel) (pa_cons (pe_op op_add (pe_op op_add (pe_op op_mul (pv 1) (pv 1)) (pe_op op_mul (pe_ix ix_list (pv 0) (pe_int) (fun _ _ => rfl)) (pe_int))) (pe_int)) pa_nil)) (pe_int)) (pe_int))))))))), ?_⟩
  obtain ⟨s0, nm, ns, i, a, kk, b, hc, hs, h63, hi, hnm, n1, n2⟩ := hC
  refine seq_i fun N hN => ?_
  walk_at "g"
  refine hN _ _ ?_
  refine seq_i fun N hN => ?_
  walk_at "g"
  refine hN _ _ ?_
  have hC1 : CSt (upd H c (.lst [.ref s0, .int i, .int a, .int (kk + 1), .int b, .ref nm])) c nms := cst_mk hs h63 hi hnm n1 n2
  have ho1 : Oth c H (upd H c (.lst [.ref s0, .int i, .int a, .int (kk + 1), .int b, .ref nm])) := Oth.put
  show Evl.tCut _ _ _ [some (.ref c), some (.int _)] (upd H c (.lst [.ref s0, .int i, .int a, .int (kk + 1), .int b, .ref nm]))
  generalize upd H c (.lst [.ref s0, .int i, .int a, .int (kk + 1), .int b, .ref nm]) = H1 at hC1 ho1 ⊢
  generalize (kk + 1) * 69621 + 12345 = n0
  clear hc hs h63 hi hnm n1 n2 hN
  refine cut_i (fun σ' H' => ∃ n, σ' = [some (V.ref c), some (V.int n)] ∧ CSt H' c nms ∧ Oth c H H') (fun N hN => ?_) ?_
  · have hC2 := hC1
    obtain ⟨s0, nm, ns, i, a, kk, b, hc, hs, h63, hi, hnm, n1, n2⟩ := hC1
    walk_at "g"
    · rename_i hlt
      have hlt : i < ((ns.map V.int).length : Int) := of_decide_eq_true hlt
      rw [List.length_map] at hlt
      obtain ⟨n, en⟩ := at_int hi hlt
      refine seq_i fun N1 hN1 => ?_
      walk_at "g"
      refine ⟨_, _, _, _, rfl, rfl, SqL.of hs, en, ?_⟩
      refine hN1 _ _ ?_
      refine seq_i fun N2 hN2 => ?_
      walk_at "g"
      refine hN2 _ _ ?_
      have hC1 : CSt (upd H1 c (.lst [.ref s0, .int (i + 1), .int a, .int kk, .int b, .ref nm])) c nms := cst_mk hs h63 (by omega) hnm n1 n2
      have ho1 := ho1.trans (Oth.put (H := H1) (o := .lst [.ref s0, .int (i + 1), .int a, .int kk, .int b, .ref nm]))
      show Evl.tCut _ _ _ _ (upd H1 c (.lst [.ref s0, .int (i + 1), .int a, .int kk, .int b, .ref nm]))
      generalize upd H1 c (.lst [.ref s0, .int (i + 1), .int a, .int kk, .int b, .ref nm]) = H2 at hC1 ho1 ⊢
      refine cut_i (fun σ' H' => ∃ n, σ' = [some (V.ref c), some (V.int n)] ∧ H' = H2) (fun N hN => ?_) ?_
      · walk_at "g"
        · exact hN _ _ ⟨_, rfl, rfl⟩
        · exact hN _ _ ⟨_, rfl, rfl⟩
      · rintro σ' H' ⟨n, rfl, rfl⟩
        walk_at "g"
        · exact q _ _ hC1 ho1
        · exact hN _ _ ⟨_, rfl, hC1, ho1⟩
    · exact hN _ _ ⟨_, rfl, hC2, ho1⟩
  · rintro σ' H' ⟨n, rfl, hC, ho⟩
    refine cut_i (fun σ' H' => ∃ n, σ' = [some (V.ref c), some (V.int n)] ∧ CSt H' c nms ∧ Oth c H H') (fun N hN => ?_) ?_
    · have hC2 := hC
      obtain ⟨s0, nm, ns, i, a, kk, b, hc, hs, h63, hi, hnm, n1, n2⟩ := hC
      walk_at "g"
      · rename_i hne hle
        have hn : ns ≠ [] := by
          intro e
          subst e
          exact Bool.noConfusion hne
        obtain ⟨n, en⟩ := at_last hn
        refine ⟨_, _, _, _, rfl, rfl, SqL.of hs, en, ?_⟩
        walk_at "g"
        exact hN _ _ ⟨_, rfl, hC2, ho⟩
      · exact hN _ _ ⟨_, rfl, hC2, ho⟩
      · exact hN _ _ ⟨_, rfl, hC2, ho⟩
    · rintro σ' H' ⟨n, rfl, hC, ho⟩
      have hC2 := hC
      obtain ⟨s0, nm, ns, i, a, kk, b, hc, hs, h63, hi, hnm, n1, n2⟩ := hC
      refine seq_i fun N hN => ?_
      walk_at "g"
      refine hN _ _ ?_
      have b1 := Int.emod_nonneg (n * 48271 + kk * 69621) (by decide : (2147483647 : Int) ≠ 0)
      have b2 := Int.emod_lt_of_pos (n * 48271 + kk * 69621) (by decide : (0 : Int) < 2147483647)
      show tRet _ _ [some (.ref c), some (.int ((n * 48271 + kk * 69621) % 2147483647))] _
      generalize (n * 48271 + kk * 69621) % 2147483647 = m at b1 b2 ⊢
      walk_at "g"
      refine And.intro (.inl ⟨by omega, by omega⟩) ?_
      walk_at "g"
      exact q _ _ hC2 ho
end
end Zg

set_option Elab.async false
set_option linter.all false
set_option maxRecDepth 100000
set_option maxHeartbeats 4000000
namespace Zg
open PySem L2 PySem.Spec PyProof.Rows
local macro_rules | `(tactic| walk_at "sq") => `(tactic| first | exact SqL.of (by assumption) | exact .inl (SqL.of (by assumption)) | assumption | exact SqT.of (by assumption) | exact .inr (SqT.of (by assumption)) | exact SqL.of upd_same | exact .inl (SqL.of upd_same))
local macro_rules | `(tactic| walk_at "hp") => `(tactic| first | assumption | exact upd_same)
local macro_rules | `(tactic| walk_at "cond") => `(tactic| first | assumption | rfl | (apply And.intro <;> assumption) | decide | (show (0 : Int) < _; decide) | (apply And.intro <;> decide) | (apply Or.inr; apply And.intro <;> decide) | (apply Or.inl; apply And.intro <;> decide))
local macro_rules | `(tactic| walk_at "s") => `(tactic| first
  | (with_reducible apply iteF)
  | (with_reducible apply iteT)
  | (apply e1; rfl)
  | (apply e2; rfl; rfl)
  | (apply e4; rfl; rfl; walk_at "sq"; rfl)
  | (apply e4; rfl; rfl; walk_at "hp"; rfl)
  | (apply e2; rfl; walk_at "sq")
  | (apply eOr; rfl)
  | (apply eOrR; rfl)
  | (apply eTru; walk_at "sq")
  | (apply eTruT; walk_at "sq")
  | (apply And.intro; (walk_at "cond"))
  | (apply iteTr; rfl)
  | (apply iteFr; rfl)
  | (apply iteD; all_goals intro _)
  | (with_reducible apply tNext_i))
local macro_rules | `(tactic| walk_at "g") => `(tactic| repeat' ((fail_if_success (with_reducible apply seq_i)); (fail_if_success (with_reducible apply cut_i)); (walk_at "s")))
local macro_rules | `(tactic| walk_at "size") => `(tactic| first | (simp only [List.length_cons, List.length_nil]; decide) | decide)
local macro_rules | `(tactic| walk_at "newp") => `(tactic| (intro p hp; generalize hH : upd _ _ _ = H1; have st := new_facts hp hH; clear hH; obtain ⟨s, t⟩ := st))
local macro_rules | `(tactic| walk_at "new") => `(tactic| walk_at "g"; first | (apply And.intro; (focus (apply small100; walk_at "size")); walk_at "newp") | (walk_at "newp"))

/-! ### the words of the law -/
def wordsL : List Str := kindsL ++ (["rule", "keep", "part", "with", "usual", "do"] : List Str)
inductive spKinds : List V → Hp → VK → XK → Prop
  | mk {H : Hp} {Q : VK} {E : XK} (q : ∀ p H', Same H H' → H p = none → H' p = some (.lst (kindsL.map V.str)) → Q (.ref p) H') : spKinds [] H Q E
inductive spParts : List V → Hp → VK → XK → Prop
  | mk {x : Str} {n : Int} {H : Hp} {Q : VK} {E : XK} (hx : partsOf x = some n) (q : ∀ H', Same H H' → Q (.int n) H') : spParts [.str x] H Q E
inductive spFree : List V → Hp → VK → XK → Prop
  | mk {x : Str} {H : Hp} {Q : VK} {E : XK} (q : ∀ H', Same H H' → Q (.bl (decide (x ∉ wordsL))) H') : spFree [.str x] H Q E
inductive spInteger : List V → Hp → VK → XK → Prop
  | mk {H : Hp} {c : Addr} {nms : List Str} {Q : VK} {E : XK} (hC : CSt H c nms) (q : ∀ n H', n.natAbs ≤ 1000000 → CSt H' c nms → Oth c H H' → Q (.int n) H') : spInteger [.ref c] H Q E
theorem inV_str {x : Str} : ∀ {xs : List Str}, inV (.str x) (xs.map V.str) = decide (x ∈ xs)
  | [] => by simp [inV]
  | y :: ys => by
    have ih := inV_str (x := x) (xs := ys)
    unfold inV at ih ⊢
    rw [List.map_cons, List.any_cons, ih]
    show ((y == x) || decide (x ∈ ys)) = decide (x ∈ y :: ys)
    by_cases h : y = x
    · subst h; simp
    · have h' : ¬ x = y := fun q => h q.symm
      simp [h, h']
theorem flat_strs (xs : List Str) : (xs.map V.str).all flatV = true := by
  induction xs with
  | nil => rfl
  | cons x r ih => rw [List.map_cons, List.all_cons, ih] <;> rfl

section
variable {P : Program} {w : World} {K : PySem.W.Frag} {mg : Str → Option Value} {base : Heap} {aFunction aRun aRunB aPlace aForms aActions aOps : Addr} {k : Nat}

theorem ok_kinds (T : Tx w K mg aFunction aRun aRunB aPlace aForms aActions aOps) : FnX P w K mg base (k + 1) "_law_kinds" [] spKinds := by
  refine T.d__law_kinds.ok sc__law_kinds (fun vs H Q E h => by cases h; rfl) (fun f cdv A outer s H vs Q E hr h => ?_)
  rcases h with ⟨q⟩
  refine ⟨_, (pss_one (ps_ret (pe_lst (pa_cons (pe_str) (pa_cons (pe_str) (pa_cons (pe_str) (pa_cons (pe_str) (pa_cons (pe_str) (pa_cons (pe_str) (pa_cons (pe_str) (pa_cons (pe_str) (pa_cons (pe_str) pa_nil)))))))))))), ?_⟩
  exact lst_i (by decide) q
theorem ok_parts (T : Tx w K mg aFunction aRun aRunB aPlace aForms aActions aOps) (G__law_kinds : FnX P w K mg base k "_law_kinds" [] spKinds) : FnX P w K mg base (k + 1) "_law_parts" ["kind"] spParts := by
  refine T.d__law_parts.ok sc__law_parts (fun vs H Q E h => by cases h; rfl) (fun f cdv A outer s H vs Q E hr h => ?_)
  rcases h with ⟨hx, q⟩
  rename_i x n
  refine ⟨_, (pss_one (ps_ret (pe_ix ix_list (pe_lst (pa_cons (pe_int) (pa_cons (pe_int) (pa_cons (pe_int) (pa_cons (pe_int) (pa_cons (pe_int) (pa_cons (pe_int) (pa_cons (pe_int) (pa_cons (pe_int) (pa_cons (pe_int) pa_nil)))))))))) (pe_bm PySem.F.plainAttrs_list PySem.F.slot_list_index PySem.F.type_list_index mt_index (pe_fn0 G__law_kinds hr rfl) (pa_cons (pv 0) pa_nil)) (fun _ _ => rfl)))), ?_⟩
  walk_at "new"; rename_i p f1 H1 s1 t1
  refine spKinds.mk fun p2 H2 s2 f2 t2 => ?_
  refine ⟨.inl ⟨rfl, _, SqL.of t2⟩, _, rfl, ?_⟩
  have key : ∃ (j : Nat), (kindsL.map V.str)[j]? = some (.str x) ∧ (∀ m z', m < j → (kindsL.map V.str)[m]? = some z' → eqV z' (.str x) = false) ∧
      atI [V.int 0, V.int 0, V.int 0, V.int 2, V.int 2, V.int 2, V.int 3, V.int 1, V.int 1] (j : Int) = some (.int n) := by
    have go : ∀ j : Nat, j < 9 → kindsL[j]? = some x → atI [V.int 0, V.int 0, V.int 0, V.int 2, V.int 2, V.int 2, V.int 3, V.int 1, V.int 1] (j : Int) = some (.int n) → ∃ (j : Nat), (kindsL.map V.str)[j]? = some (.str x) ∧ (∀ m z', m < j → (kindsL.map V.str)[m]? = some z' → eqV z' (.str x) = false) ∧
      atI [V.int 0, V.int 0, V.int 0, V.int 2, V.int 2, V.int 2, V.int 3, V.int 1, V.int 1] (j : Int) = some (.int n) := by
      intro j hj e1 e2
      refine ⟨j, by rw [List.getElem?_map, e1] <;> rfl, fun m z' hm ez => ?_, e2⟩
      rw [List.getElem?_map] at ez
      obtain ⟨y, ey, rfl⟩ := Option.map_eq_some_iff.mp ez
      have nd : kindsL.Nodup := by decide +kernel
      show (y == x) = false
      have : ¬ y = x := by
        intro e
        subst e
        have := nd_ix nd ey e1
        omega
      simp [this]
    have e0 : x ∈ kindsL := by
      unfold partsOf at hx
      have e : ∀ y ∈ kindsL, True := fun _ _ => trivial
      repeat (split at hx; · rename_i h; rw [h]; decide +kernel)
      cases hx
    unfold partsOf at hx
    split at hx
    · rename_i h; subst h; cases hx; exact go 0 (by decide) rfl rfl
    split at hx
    · rename_i h; subst h; cases hx; exact go 1 (by decide) rfl rfl
    split at hx
    · rename_i h; subst h; cases hx; exact go 2 (by decide) rfl rfl
    split at hx
    · rename_i h; subst h; cases hx; exact go 3 (by decide) rfl rfl
    split at hx
    · rename_i h; subst h; cases hx; exact go 4 (by decide) rfl rfl
    split at hx
    · rename_i h; subst h; cases hx; exact go 5 (by decide) rfl rfl
    split at hx
    · rename_i h; subst h; cases hx; exact go 6 (by decide) rfl rfl
    split at hx
    · rename_i h; subst h; cases hx; exact go 7 (by decide) rfl rfl
    split at hx
    · rename_i h; subst h; cases hx; exact go 8 (by decide) rfl rfl
    cases hx
  obtain ⟨j, e1, e2, e3⟩ := key
  refine ⟨_, _, _, j, _, rfl, rfl, SqL.of t2, rfl, flat_strs _, e1, by show (x == x) = true; simp, e2, ?_⟩
  exact ⟨_, _, _, _, rfl, rfl, SqL.of (s2 _ _ t1), e3, q _ (s1.trans s2)⟩
theorem ok_free (T : Tx w K mg aFunction aRun aRunB aPlace aForms aActions aOps) (G__law_kinds : FnX P w K mg base k "_law_kinds" [] spKinds) : FnX P w K mg base (k + 1) "_law_free" ["name"] spFree := by
  refine T.d__law_free.ok sc__law_free (fun vs H Q E h => by cases h; rfl) (fun f cdv A outer s H vs Q E hr h => ?_)
  rcases h with ⟨q⟩
  rename_i x
  refine ⟨_, (pss_one (ps_ret (pe_cmpR op_notIn_seq (pv 0) (pe_op op_cat (pe_fn0 G__law_kinds hr rfl) (pe_lst (pa_cons (pe_str) (pa_cons (pe_str) (pa_cons (pe_str) (pa_cons (pe_str) (pa_cons (pe_str) (pa_cons (pe_str) pa_nil)))))))) (by with_unfolding_all rfl)))), ?_⟩
  refine ⟨_, rfl, spKinds.mk fun p H1 s1 f1 t1 => ?_⟩
  walk_at "new"; rename_i p2 f2 H2 s2 t2
  refine cat_i (s2 _ _ t1) t2 (by decide) fun p3 H3 s3 f3 t3 => ?_
  have t3 : H3 p3 = some (.lst (wordsL.map V.str)) := t3
  refine ⟨_, _, rfl, .inl (SqL.of t3), rfl, flat_strs _, ?_⟩
  rw [inV_str]
  have e : (!decide (x ∈ wordsL)) = decide (x ∉ wordsL) := by simp
  show Q (.bl (!decide (x ∈ wordsL))) H3
  rw [e]
  exact q _ ((s1.trans s2).trans s3)
theorem ok_integer (T : Tx w K mg aFunction aRun aRunB aPlace aForms aActions aOps) (G__law_take : FnX P w K mg base k "_law_take" ["c", "many"] spTake) : FnX P w K mg base (k + 1) "_law_integer" ["c"] spInteger := by
  refine T.d__law_integer.ok sc__law_integer (fun vs H Q E h => by cases h; rfl) (fun f cdv A outer s H vs Q E hr h => ?_)
  rcases h with ⟨hC, q⟩
  rename_i c nms
  refine ⟨_, (pss_one (ps_ret (pe_ix ix_list (pe_lst (pa_cons (pe_op op_sub (pe_fn G__law_take hr rfl (pa_cons (pv 0) (pa_cons (pe_int) pa_nil))) (pe_int)) (pa_cons (pe_op op_sub (pe_fn G__law_take hr rfl (pa_cons (pv 0) (pa_cons (pe_int) pa_nil))) (pe_int)) (pa_cons (pe_fn G__law_take hr rfl (pa_cons (pv 0) (pa_cons (pe_int) pa_nil))) (pa_cons (pe_op op_sub (pe_fn G__law_take hr rfl (pa_cons (pv 0) (pa_cons (pe_int) pa_nil))) (pe_int)) pa_nil))))) (pe_fn G__law_take hr rfl (pa_cons (pv 0) (pa_cons (pe_int) pa_nil))) (fun _ _ => rfl)))), ?_⟩
  refine ⟨_, rfl, spTake.mk hC (by decide) (by decide) fun d1 H1 l1 u1 hC1 o1 => ?_⟩
  walk_at "g"
  refine spTake.mk hC1 (by decide) (by decide) fun d2 H2 l2 u2 hC2 o2 => ?_
  walk_at "g"
  refine spTake.mk hC2 (by decide) (by decide) fun d3 H3 l3 u3 hC3 o3 => ?_
  walk_at "g"
  refine spTake.mk hC3 (by decide) (by decide) fun d4 H4 l4 u4 hC4 o4 => ?_
  walk_at "g"
  walk_at "new"; rename_i p f5 H5 s5 t5
  refine ⟨_, rfl, spTake.mk (hC4.same s5) (by decide) (by decide) fun d5 H6 l6 u6 hC6 o6 => ?_⟩
  obtain ⟨l, hl⟩ := hC4.lst
  have np : p ≠ c := (ne_of_none hl f5).symm
  have hp := o6 _ _ np t5
  have oo : Oth c H H6 := o1.trans (o2.trans (o3.trans (o4.trans ((Same.oth s5).trans o6))))
  obtain ⟨v, e1, e2⟩ := at_ex (xs := [V.int (d1 - 1), V.int (d2 - 1), V.int d3, V.int (d4 - 1000000)]) l6 u6
  refine ⟨_, _, _, _, rfl, rfl, SqL.of hp, e2, ?_⟩
  have hd : d5 = 0 ∨ d5 = 1 ∨ d5 = 2 ∨ d5 = 3 := by omega
  rcases hd with rfl | rfl | rfl | rfl <;> cases e1 <;> exact q _ _ (by omega) hC6 oo
end
end Zg

set_option Elab.async false
set_option linter.all false
set_option maxRecDepth 100000
set_option maxHeartbeats 4000000
namespace Zg
open PySem L2 PySem.Spec PyProof.Rows
/-! ### a call of a local name that holds one of several defs -/
def tCallD (mg : Str → Option Value) (i : Nat) (Sd : Str → Option Sp) (t : TA) : TE := fun σ H Q => ∃ (n : Str) (f : Addr) (sp : Sp), σ[i]? = some (some (.ref f)) ∧ mg n = some (.ref f) ∧ Sd n = some sp ∧ t σ H fun vs H1 => sp vs H1 Q E0
theorem pe_callD {X : Cx} (Sd : Str → Option Sp) {i k : Nat} {x : Str} {p pos : Pos} {e : Expr} {es : List Expr} {t : TA} (A : ∀ n sp, Sd n = some sp → ∃ ps, FnX X.prog X.w X.K X.mg X.base k n ps sp) (hr : Room k X.A) (hN : X.N[i]? = some x) (hv : Vis X.env.scope x) (ha : PA X (e :: es) t)
    (hdb : (x == ("__debug__" : Str)) = false := by decide) (hcd : (x == ("__classdict__" : Str)) = false := by decide)
    (he : starEach (e :: es) X.env = (false, eval e X.env) :: starEach es X.env := by rfl) (hpl : (backTo pos (starEach es X.env)).any (·.1) = false := by rfl) : PE X (.Call (.Name x p) (e :: es) [] pos) (tCallD X.mg i Sd t) := by
  refine ⟨fun pins s σ H Q I h => ?_⟩
  obtain ⟨n, f, sp, hs, hm, hS, ht⟩ := h
  obtain ⟨ps, f', fd, F, hk, hb, hm'⟩ := A n sp hS
  have ef : f' = f := by
    rw [hm] at hm'
    cases hm'
    rfl
  subst ef
  refine (pe_callL (i := i) F hr hN hv hk hb .nil pass0 ha hdb hcd he hpl).run pins s σ H Q I ⟨hs, ?_⟩
  have e1 : (fun (vs : List V) (H1 : Hp) => sp (vs ++ []) H1 Q E0) = fun vs H1 => sp vs H1 Q E0 := by
    funext vs H1
    rw [List.append_nil]
  rw [e1]
  exact ht
theorem small1M {n : Nat} (h : n ≤ 10000000) : n ≤ sizeLine := Nat.le_trans h (by decide)
theorem great' {n : Nat} (h : n < 10000000) : n < sizeLine := Nat.lt_of_lt_of_le h (by decide)
theorem none_of {H H0 : Hp} {p : Addr} (s : Same H H0) (f : H0 p = none) : H p = none := by
  cases h : H p with
  | none => rfl
  | some o =>
    rw [s _ _ h] at f
    cases f
theorem own_same {H H1 H2 : Hp} {p : Addr} (f : H p = none) (s : Same H H1) (o : Oth p H1 H2) : Same H H2 := fun b u e => o b u (ne_of_none e f) (s b u e)
theorem Paired.length' {α β : Type} {F : α → β → Prop} {l : List α} {m : List β} (p : Paired F l m) : m.length = l.length := (Paired.length p).symm
theorem at0 {v0 : V} {xr : List V} : atI (v0 :: xr) 0 = some v0 := atI_nat (j := 0) rfl
/-- tuple == int, int == int -/
def rEqTI : R2 := fun x y H Q => ∃ j, y = .int j ∧ ((∃ i, x = .int i ∧ Q (.bl (decide (i = j))) H) ∨ ∃ p xs, x = .ref p ∧ H p = some (.tup xs) ∧ Q (.bl false) H)
theorem op_eqTI {X : Cx} (hu : X.A.units < cLine) : OpR X (compareOp .Eq) rEqTI := by
  intro pins s σ H x y v u Q I rx ry h
  obtain ⟨j, rfl, ⟨i, rfl, q⟩ | ⟨p, xs, rfl, hp, q⟩⟩ := h
  · obtain ⟨t, rfl⟩ := (show ∃ t, v = Value.int i t from rx)
    obtain ⟨t', rfl⟩ := (show ∃ t, u = Value.int j t from ry)
    refine PySem.SeqAt.RcAt.int_int i t j t' X.prog X.w _ _ ⟨.bl (decide (i = j)), H, I, ?_, q⟩
    by_cases h : i = j
    · subst h
      rw [beq_self_eq_true, decide_eq_true rfl]
      rfl
    · have : (i == j) = false := by simpa using h
      rw [this, decide_eq_false h]
      rfl
  · cases rx
    obtain ⟨t', rfl⟩ := (show ∃ t, u = Value.int j t from ry)
    obtain ⟨its, r1, p1, _⟩ := I.tuple (SqT.of hp)
    exact PySem.SeqAt.RcAt.tuple_int j t' p1 hu X.prog X.w _ _ ⟨.bl false, H, I, rfl, q⟩
end Zg

set_option Elab.async false
set_option linter.all false
set_option maxRecDepth 100000
set_option maxHeartbeats 4000000
namespace Zt
open PySem L2 PySem.Spec PyProof.Rows Zg
/-! ### towers: what they are, what they do -/
inductive Opw | call | sum | less
def Opw.str : Opw → Str
  | .call => "call"
  | .sum => "sum"
  | .less => "less"
inductive TE where
  | num (n : Int) | name (x : Str) | fn (x : Str) (b : TE) | op (o : Opw) (a b : TE) | iff (c a b : TE) | lett (x : Str) (a b : TE) | say (a : TE)
  | rule (q : Str) (r b : TE) | keep (q : Str) (r : TE) | part (i : Nat) | witha (a : TE) | usual | do1 (a : TE) | do2 (a b : TE)
/-- the word of an expression -/
def wd : TE → Str
  | .num _ => "num"
  | .name _ => "name"
  | .fn _ _ => "fn"
  | .op o _ _ => o.str
  | .iff _ _ _ => "if"
  | .lett _ _ _ => "let"
  | .say _ => "say"
  | .rule _ _ _ => "rule"
  | .keep _ _ => "keep"
  | .part _ => "part"
  | .witha _ => "with"
  | .usual => "usual"
  | .do1 _ => "do"
  | .do2 _ _ => "do"
/-- it is of a changeable kind -/
def ch : TE → Bool
  | .rule _ _ _ => false
  | .keep _ _ => false
  | .part _ => false
  | .witha _ => false
  | .usual => false
  | .do1 _ => false
  | .do2 _ _ => false
  | _ => true
theorem ch_kinds {e : TE} (h : ch e = true) : wd e ∈ kindsL := by
  cases e with
  | num n => exact (by decide +kernel : ("num" : Str) ∈ kindsL)
  | name x => exact (by decide +kernel : ("name" : Str) ∈ kindsL)
  | fn x b => exact (by decide +kernel : ("fn" : Str) ∈ kindsL)
  | op o a b => cases o <;> first | exact (by decide +kernel : ("call" : Str) ∈ kindsL) | exact (by decide +kernel : ("sum" : Str) ∈ kindsL) | exact (by decide +kernel : ("less" : Str) ∈ kindsL)
  | iff c a b => exact (by decide +kernel : ("if" : Str) ∈ kindsL)
  | lett x a b => exact (by decide +kernel : ("let" : Str) ∈ kindsL)
  | say a => exact (by decide +kernel : ("say" : Str) ∈ kindsL)
  | rule q r b => exact absurd h Bool.false_ne_true
  | keep q r => exact absurd h Bool.false_ne_true
  | part i => exact absurd h Bool.false_ne_true
  | witha a => exact absurd h Bool.false_ne_true
  | usual => exact absurd h Bool.false_ne_true
  | do1 a => exact absurd h Bool.false_ne_true
  | do2 a b => exact absurd h Bool.false_ne_true
theorem ch_not {e : TE} (h : ch e = false) : wd e ∉ kindsL := by
  cases e with
  | num n => exact absurd h.symm Bool.false_ne_true
  | name x => exact absurd h.symm Bool.false_ne_true
  | fn x b => exact absurd h.symm Bool.false_ne_true
  | op o a b => exact absurd h.symm Bool.false_ne_true
  | iff c a b => exact absurd h.symm Bool.false_ne_true
  | lett x a b => exact absurd h.symm Bool.false_ne_true
  | say a => exact absurd h.symm Bool.false_ne_true
  | rule q r b => exact (by decide +kernel : ("rule" : Str) ∉ kindsL)
  | keep q r => exact (by decide +kernel : ("keep" : Str) ∉ kindsL)
  | part i => exact (by decide +kernel : ("part" : Str) ∉ kindsL)
  | witha a => exact (by decide +kernel : ("with" : Str) ∉ kindsL)
  | usual => exact (by decide +kernel : ("usual" : Str) ∉ kindsL)
  | do1 a => exact (by decide +kernel : ("do" : Str) ∉ kindsL)
  | do2 a b => exact (by decide +kernel : ("do" : Str) ∉ kindsL)
def partAt : TE → Nat → Option TE
  | .op _ a _, 0 => some a
  | .op _ _ b, 1 => some b
  | .iff c _ _, 0 => some c
  | .iff _ a _, 1 => some a
  | .iff _ _ b, 2 => some b
  | .lett _ a _, 0 => some a
  | .say a, 0 => some a
  | _, _ => none
mutual
inductive Vl where
  | int (i : Int) | fn (k : Int) (x : Str) (b : TE) (en : En) (ab : Ab)
inductive En where
  | nil | cons (x : Str) (v : Vl) (r : En)
inductive Ab where
  | none | some (e : TE) (en : En) (ab : Ab)
end
def lookE : En → Str → Option Vl
  | .nil, _ => none
  | .cons y v r, x => if y = x then some v else lookE r x
inductive Sh where
  | int (i : Int) | fn (k : Int)
def shw : Vl → Sh
  | .int i => .int i
  | .fn k _ _ _ _ => .fn k
def Tab := Int → Str → Option TE
def tset (f : Tab) (k : Int) (q : Str) (r : Option TE) : Tab := fun k' q' => if k' = k ∧ q' = q then r else f k' q'
structure Sta where
  fuel : Int
  outs : List (Int × Sh)
  tb : Tab
inductive Rs where
  | val (v : Vl) | stuck (k : Int) | more
def arith (o : Opw) (k : Int) : Vl → Vl → Rs
  | .int i, .int j => .val (.int (match o with | .less => if i < j then 1 else 0 | _ => i + j))
  | _, _ => .stuck k
/-- a level that is not too high -/
def lvok (k : Int) : Bool := decide (0 ≤ k) && decide (k ≤ 100)
/-- a step, then what follows -/
def stepS (s : Sta) (f : Sta → Option (Rs × Sta)) : Option (Rs × Sta) := if s.fuel - 1 < 0 then some (.more, { s with fuel := s.fuel - 1 }) else f { s with fuel := s.fuel - 1 }
def sayS (k : Int) (v : Vl) (s : Sta) : Option (Rs × Sta) := some (.val v, { s with outs := s.outs ++ [(k, shw v)] })
/-- what follows a value -/
def thenS (r : Option (Rs × Sta)) (f : Vl → Sta → Option (Rs × Sta)) : Option (Rs × Sta) := match r with
  | some (.val v, s) => f v s
  | r => r
/-- an operation; apl is the evaluation of a body -/
def opS (apl : TE → En → Ab → Sta → Option (Rs × Sta)) (o : Opw) (k : Int) (v1 v2 : Vl) (s : Sta) : Option (Rs × Sta) := match o with
  | .call => match v1 with
    | .fn k' x b en ab => if k' = k then stepS s fun s => apl b (.cons x v2 en) ab s else some (.stuck k, s)
    | .int _ => some (.stuck k, s)
  | _ => some (arith o k v1 v2, s)
/-- evaluation (b: in the built-in way), in so many frames -/
def ev : Nat → Bool → TE → En → Ab → Int → Sta → Option (Rs × Sta)
  | 0, _, _, _, _, _, _ => none
  | n + 1, false, e, en, ab, k, s =>
    if ch e = true then (match s.tb k (wd e) with
      | some r => ev n false r .nil (.some e en ab) (k + 1) s
      | none => ev n true e en ab k s)
    else match e with
      | .rule q r b => if lvok k then (match ev n false b en ab k { s with tb := tset s.tb k q (some r) } with
        | some (.val v, s1) => some (.val v, { s1 with tb := tset s1.tb k q (s.tb k q) })
        | r => r) else none
      | .keep q r => if lvok k then some (.val (.int 0), { s with tb := tset s.tb k q (some r) }) else none
      | .part i => (match ab with
        | .some e1 en1 ab1 => (match partAt e1 i with
          | some p => stepS s fun s => ev n false p en1 ab1 (k - 1) s
          | none => none)
        | .none => none)
      | .usual => (match ab with
        | .some e1 en1 ab1 => stepS s fun s => ev n true e1 en1 ab1 (k - 1) s
        | .none => none)
      | .witha a => (match ab with
        | .some (.lett x _ b) en1 ab1 => (match n with
          | 0 => none
          | m + 1 => thenS (ev m false a en ab k s) fun v s => stepS s fun s => ev (m + 1) false b (.cons x v en1) ab1 (k - 1) s)
        | _ => none)
      | .do1 a => (match ab with
        | .some (.say _) _ _ => (match n with
          | 0 => none
          | m + 1 => thenS (ev m false a en ab k s) fun v s => stepS s fun s => sayS (k - 1) v s)
        | _ => none)
      | .do2 a b => (match ab with
        | .some (.op o _ _) _ _ => (match n with
          | 0 => none
          | 1 => none
          | m + 2 => thenS (ev (m + 1) false a en ab k s) fun v1 s => thenS (ev (m + 1) false b en ab k s) fun v2 s => stepS s fun s => opS (fun b en ab s => ev m false b en ab (k - 1) s) o (k - 1) v1 v2 s)
        | _ => none)
      | _ => none
  | n + 1, true, e, en, ab, k, s => match e with
    | .num i => some (.val (.int i), s)
    | .name x => (match lookE en x with
      | some v => some (.val v, s)
      | none => none)
    | .fn x b => some (.val (.fn k x b en ab), s)
    | .lett x a b => thenS (ev n false a en ab k s) fun v s => ev n false b (.cons x v en) ab k s
    | .iff c a b => thenS (ev n false c en ab k s) fun v s => (match v with
      | .int i => ev n false (if i = 0 then b else a) en ab k s
      | .fn _ _ _ _ _ => some (.stuck k, s))
    | .say a => (match n with
      | 0 => none
      | m + 1 => thenS (ev m false a en ab k s) fun v s => sayS k v s)
    | .op o a b => (match n with
      | 0 => none
      | 1 => none
      | m + 2 => thenS (ev (m + 1) false a en ab k s) fun v1 s => thenS (ev (m + 1) false b en ab k s) fun v2 s => opS (fun b en ab s => ev m false b en ab k s) o k v1 v2 s)
    | _ => none
section
variable {n : Nat} {e : TE} {en : En} {ab : Ab} {k : Int} {s : Sta}
theorem ev_ch (h : ch e = true) : ev (n + 1) false e en ab k s = (match s.tb k (wd e) with
      | some r => ev n false r .nil (.some e en ab) (k + 1) s
      | none => ev n true e en ab k s) := by
  cases e <;> first | rfl | cases h
theorem ev_rule {q : Str} {r b : TE} (hk : lvok k = true) : ev (n + 1) false (.rule q r b) en ab k s = (match ev n false b en ab k { s with tb := tset s.tb k q (some r) } with
        | some (.val v, s1) => some (.val v, { s1 with tb := tset s1.tb k q (s.tb k q) })
        | r => r) := if_pos hk
theorem ev_keep {q : Str} {r : TE} (hk : lvok k = true) : ev (n + 1) false (.keep q r) en ab k s = some (.val (.int 0), { s with tb := tset s.tb k q (some r) }) := if_pos hk
theorem ev_part {i : Nat} : ev (n + 1) false (.part i) en ab k s = (match ab with
        | .some e1 en1 ab1 => (match partAt e1 i with
          | some p => stepS s fun s => ev n false p en1 ab1 (k - 1) s
          | none => none)
        | .none => none) := rfl
theorem ev_usual : ev (n + 1) false .usual en ab k s = (match ab with
        | .some e1 en1 ab1 => stepS s fun s => ev n true e1 en1 ab1 (k - 1) s
        | .none => none) := rfl
theorem ev_with {a b a1 : TE} {x : Str} {en1 : En} {ab1 : Ab} : ev (n + 2) false (.witha a) en (.some (.lett x a1 b) en1 ab1) k s = thenS (ev n false a en (.some (.lett x a1 b) en1 ab1) k s) fun v s => stepS s fun s => ev (n + 1) false b (.cons x v en1) ab1 (k - 1) s := rfl
theorem ev_do1 {a a1 : TE} {en1 : En} {ab1 : Ab} : ev (n + 2) false (.do1 a) en (.some (.say a1) en1 ab1) k s = thenS (ev n false a en (.some (.say a1) en1 ab1) k s) fun v s => stepS s fun s => sayS (k - 1) v s := rfl
theorem ev_do2 {a b a1 b1 : TE} {o : Opw} {en1 : En} {ab1 : Ab} : ev (n + 3) false (.do2 a b) en (.some (.op o a1 b1) en1 ab1) k s = thenS (ev (n + 1) false a en (.some (.op o a1 b1) en1 ab1) k s) fun v1 s => thenS (ev (n + 1) false b en (.some (.op o a1 b1) en1 ab1) k s) fun v2 s => stepS s fun s => opS (fun b en ab s => ev n false b en ab (k - 1) s) o (k - 1) v1 v2 s := rfl
theorem ev_tlet {x : Str} {a b : TE} : ev (n + 1) true (.lett x a b) en ab k s = thenS (ev n false a en ab k s) fun v s => ev n false b (.cons x v en) ab k s := rfl
theorem ev_tif {c a b : TE} : ev (n + 1) true (.iff c a b) en ab k s = thenS (ev n false c en ab k s) fun v s => (match v with
      | .int i => ev n false (if i = 0 then b else a) en ab k s
      | .fn _ _ _ _ _ => some (.stuck k, s)) := rfl
theorem ev_tsay {a : TE} : ev (n + 2) true (.say a) en ab k s = thenS (ev n false a en ab k s) fun v s => sayS k v s := rfl
theorem ev_top {o : Opw} {a b : TE} : ev (n + 3) true (.op o a b) en ab k s = thenS (ev (n + 1) false a en ab k s) fun v1 s => thenS (ev (n + 1) false b en ab k s) fun v2 s => opS (fun b en ab s => ev n false b en ab k s) o k v1 v2 s := rfl
/-- what evaluation in the way of asks and changes is -/
theorem ev_cases {r : Rs} {s' : Sta} (h : ev (n + 1) false e en ab k s = some (r, s')) (hc : ch e = false) {G : Prop}
    (c1 : ∀ q r' b, e = .rule q r' b → lvok k = true → G) (c2 : ∀ q r', e = .keep q r' → lvok k = true → G) (c3 : ∀ i e1 en1 ab1 p, e = .part i → ab = .some e1 en1 ab1 → partAt e1 i = some p → stepS s (fun s => ev n false p en1 ab1 (k - 1) s) = some (r, s') → G)
    (c4 : ∀ e1 en1 ab1, e = .usual → ab = .some e1 en1 ab1 → stepS s (fun s => ev n true e1 en1 ab1 (k - 1) s) = some (r, s') → G)
    (c5 : ∀ a x a1 b en1 ab1 m, e = .witha a → ab = .some (.lett x a1 b) en1 ab1 → n = m + 1 → G) (c6 : ∀ a a1 en1 ab1 m, e = .do1 a → ab = .some (.say a1) en1 ab1 → n = m + 1 → G)
    (c7 : ∀ a b o a1 b1 en1 ab1 m, e = .do2 a b → ab = .some (.op o a1 b1) en1 ab1 → n = m + 2 → G) : G := by
  cases e with
  | rule q r b =>
    cases hk : lvok k with
    | true => exact c1 _ _ _ rfl hk
    | false =>
      have h : (if lvok k = true then _ else none) = some _ := h
      rw [if_neg (by rw [hk]; exact Bool.false_ne_true)] at h
      cases h
  | keep q r =>
    cases hk : lvok k with
    | true => exact c2 _ _ rfl hk
    | false =>
      have h : (if lvok k = true then _ else none) = some _ := h
      rw [if_neg (by rw [hk]; exact Bool.false_ne_true)] at h
      cases h
  | part i =>
    rw [ev_part] at h
    cases ab with
    | none => cases h
    | some e1 en1 ab1 =>
      dsimp only at h
      cases hp : partAt e1 i with
      | none => rw [hp] at h; cases h
      | some p =>
        rw [hp] at h
        exact c3 _ _ _ _ _ rfl rfl hp h
  | usual =>
    rw [ev_usual] at h
    cases ab with
    | none => cases h
    | some e1 en1 ab1 => exact c4 _ _ _ rfl rfl h
  | witha a =>
    cases ab with
    | none => cases h
    | some e1 en1 ab1 =>
      cases e1 <;> first | (cases h; done) | skip
      cases n with
      | zero => cases h
      | succ m => exact c5 _ _ _ _ _ _ _ rfl rfl rfl
  | do1 a =>
    cases ab with
    | none => cases h
    | some e1 en1 ab1 =>
      cases e1 <;> first | (cases h; done) | skip
      cases n with
      | zero => cases h
      | succ m => exact c6 _ _ _ _ _ rfl rfl rfl
  | do2 a b =>
    cases ab with
    | none => cases h
    | some e1 en1 ab1 =>
      cases e1 <;> first | (cases h; done) | skip
      cases n with
      | zero => cases h
      | succ m =>
        cases m with
        | zero => cases h
        | succ m => exact c7 _ _ _ _ _ _ _ _ rfl rfl rfl
  | num i => cases hc
  | name x => cases hc
  | fn x b => cases hc
  | op o a b => cases hc
  | iff c a b => cases hc
  | lett x a b => cases hc
  | say a => cases hc
/-- what evaluation in the built-in way is -/
theorem ev_tcases {r : Rs} {s' : Sta} (h : ev (n + 1) true e en ab k s = some (r, s')) {G : Prop}
    (c1 : ∀ i, e = .num i → r = .val (.int i) → s' = s → G) (c2 : ∀ x v, e = .name x → lookE en x = some v → r = .val v → s' = s → G) (c3 : ∀ x b, e = .fn x b → r = .val (.fn k x b en ab) → s' = s → G)
    (c4 : ∀ x a b, e = .lett x a b → G) (c5 : ∀ c a b, e = .iff c a b → G) (c6 : ∀ a m, e = .say a → n = m + 1 → G) (c7 : ∀ o a b m, e = .op o a b → n = m + 2 → G) : G := by
  cases e with
  | num i => cases h; exact c1 _ rfl rfl rfl
  | name x =>
    have h : (match lookE en x with
      | some v => some (.val v, s)
      | none => none) = some (r, s') := h
    split at h
    · rename_i v hv
      cases h
      exact c2 _ _ rfl hv rfl rfl
    · cases h
  | fn x b => cases h; exact c3 _ _ rfl rfl rfl
  | lett x a b => exact c4 _ _ _ rfl
  | iff c a b => exact c5 _ _ _ rfl
  | say a =>
    cases n with
    | zero => cases h
    | succ m => exact c6 _ _ rfl rfl
  | op o a b =>
    cases n with
    | zero => cases h
    | succ m =>
      cases m with
      | zero => cases h
      | succ m => exact c7 _ _ _ _ rfl rfl
  | rule q r b => cases h
  | keep q r => cases h
  | part i => cases h
  | usual => cases h
  | witha a => cases h
  | do1 a => cases h
  | do2 a b => cases h
end
/-! ### a machine -/
inductive It where
  | visit (e : TE) (en : En) (ab : Ab) (k : Int) | oper (o : Opw) (k : Int) | says (k : Int) | choose (a b : TE) (en : En) (ab : Ab) (k : Int) | bind (x : Str) (b : TE) (en : En) (ab : Ab) (k : Int) | rest (k : Int) (q : Str) (r : Option TE)
  | bindb (en : En) (ab : Ab) (k : Int) | operb (en : En) (ab : Ab) (k : Int)
inductive Ed where
  | stuck (k : Int) | more
structure Cf where
  todo : List It
  stk : List Vl
  fuel : Int
  outs : List (Int × Sh)
  tb : Tab
  ed : Option Ed
def Cf.push (c : Cf) (v : Vl) : Cf := { c with stk := v :: c.stk }
def Cf.go (c : Cf) (e : TE) (en : En) (ab : Ab) (k : Int) : Cf := { c with todo := .visit e en ab k :: c.todo }
/-- a step of the machine, then f -/
def Cf.step (c : Cf) (f : Cf → Option Cf) : Option Cf := if c.fuel = 0 then some { c with ed := some .more } else f { c with fuel := c.fuel - 1 }
def bvis0 (c : Cf) (en : En) (ab : Ab) (k : Int) : TE → Option Cf
  | .num i => some (c.push (.int i))
  | .name x => match lookE en x with | some v => some (c.push v) | none => none
  | .fn x b => some (c.push (.fn k x b en ab))
  | .op o a b => some { c with todo := .visit a en ab k :: .visit b en ab k :: .oper o k :: c.todo }
  | .say a => some { c with todo := .visit a en ab k :: .says k :: c.todo }
  | .iff e a b => some { c with todo := .visit e en ab k :: .choose a b en ab k :: c.todo }
  | .lett x a b => some { c with todo := .visit a en ab k :: .bind x b en ab k :: c.todo }
  | _ => none
def bvis (c : Cf) (en : En) (ab : Ab) (k : Int) : TE → Option Cf
  | .rule q r b => if lvok k then some { c with todo := .visit b en ab k :: .rest k q (c.tb k q) :: c.todo, tb := tset c.tb k q (some r) } else none
  | .keep q r => if lvok k then some { c with stk := .int 0 :: c.stk, tb := tset c.tb k q (some r) } else none
  | .part i => (match ab with
    | .some e1 en1 ab1 => (match partAt e1 i with
      | some p => c.step fun c => some (c.go p en1 ab1 (k - 1))
      | none => none)
    | .none => none)
  | .usual => (match ab with
    | .some e1 en1 ab1 => c.step fun c => bvis0 c en1 ab1 (k - 1) e1
    | .none => none)
  | .witha a => some { c with todo := .visit a en ab k :: .bindb en ab k :: c.todo }
  | .do1 a => some { c with todo := .visit a en ab k :: .operb en ab k :: c.todo }
  | .do2 a b => some { c with todo := .visit a en ab k :: .visit b en ab k :: .operb en ab k :: c.todo }
  | e => bvis0 c en ab k e
def visitIt (c : Cf) (e : TE) (en : En) (ab : Ab) (k : Int) : Option Cf :=
  if ch e = true then (match c.tb k (wd e) with
    | some r => some (c.go r .nil (.some e en ab) (k + 1))
    | none => bvis c en ab k e)
  else bvis c en ab k e
def endR (c : Cf) : Rs → Cf
  | .val v => c.push v
  | .stuck k => { c with ed := some (.stuck k) }
  | .more => { c with ed := some .more }
def saysIt (c : Cf) (k : Int) : Option Cf := match c.stk with
  | v :: _ => some { c with outs := c.outs ++ [(k, shw v)] }
  | _ => none
def operIt (c : Cf) (k : Int) : Opw → Option Cf
  | .call => match c.stk with
    | v2 :: .fn k' x b en ab :: r => if k' = k then Cf.step { c with stk := r } fun c => some (c.go b (.cons x v2 en) ab k) else some { c with stk := r, ed := some (.stuck k) }
    | _ :: .int _ :: r => some { c with stk := r, ed := some (.stuck k) }
    | _ => none
  | o => match c.stk with
    | v2 :: v1 :: r => some (endR { c with stk := r } (arith o k v1 v2))
    | _ => none
def bindIt (c : Cf) (x : Str) (b : TE) (en : En) (ab : Ab) (k : Int) : Option Cf := match c.stk with
  | v :: r => some { c with todo := .visit b (.cons x v en) ab k :: c.todo, stk := r }
  | _ => none
def stepIt (c : Cf) : It → Option Cf
  | .visit e en ab k => visitIt c e en ab k
  | .oper o k => operIt c k o
  | .says k => saysIt c k
  | .choose a b en ab k => match c.stk with
    | .int i :: r => some { c with todo := .visit (if i = 0 then b else a) en ab k :: c.todo, stk := r }
    | .fn _ _ _ _ _ :: r => some { c with stk := r, ed := some (.stuck k) }
    | _ => none
  | .bind x b en ab k => bindIt c x b en ab k
  | .rest k q r => if lvok k then some { c with tb := tset c.tb k q r } else none
  | .bindb _ ab k => match ab with
    | .some (.lett x _ b) en1 ab1 => c.step fun c => bindIt c x b en1 ab1 (k - 1)
    | _ => none
  | .operb _ ab k => match ab with
    | .some (.say _) _ _ => c.step fun c => saysIt c (k - 1)
    | .some (.op o _ _) _ _ => c.step fun c => operIt c (k - 1) o
    | _ => none
def mstep (c : Cf) : Option Cf := match c.ed, c.todo with
  | none, it :: td => stepIt { c with todo := td } it
  | _, _ => none
structure Bd (c : Cf) : Prop where
  todo : c.todo.length ≤ 10000
  stk : c.stk.length ≤ 10000
  outs : c.outs.length ≤ 5000000
inductive Path (fin : Cf → Prop) : Nat → Cf → Prop
  | done {c : Cf} (h : fin c) : Path fin 0 c
  | step {m : Nat} {c c' : Cf} (b : Bd c) (h : mstep c = some c') (p : Path fin m c') : Path fin (m + 1) c
def Reach (fin : Cf → Prop) (c : Cf) : Prop := ∃ m, Path fin m c
theorem Reach.step {fin : Cf → Prop} {c c' : Cf} (h : mstep c = some c') (p : Reach fin c') (b : Bd c) : Reach fin c := by
  obtain ⟨m, p⟩ := p
  exact ⟨m + 1, .step b h p⟩
/-- what comes when an expression has been evaluated -/
def Cont (fin : Cf → Prop) (todo : List It) (stk : List Vl) (s : Sta) : Rs → Prop
  | .val v => Reach fin ⟨todo, v :: stk, s.fuel, s.outs, s.tb, none⟩
  | .stuck k => ∀ td sk f w, Reach fin ⟨td, sk, f, s.outs, w, some (.stuck k)⟩
  | .more => ∀ td sk f w, Reach fin ⟨td, sk, f, s.outs, w, some .more⟩
/-- from the state s the expression can be evaluated so -/
def Goes (fin : Cf → Prop) (todo : List It) (stk : List Vl) (s : Sta) (x : Cf → Option Cf) : Prop := ∃ c', x ⟨todo, stk, s.fuel, s.outs, s.tb, none⟩ = some c' ∧ Reach fin c'
/-! ### what evaluation leaves -/
/-- fuel is not below 0, the outputs go on -/
structure Fw (s : Sta) (r : Rs) (s' : Sta) : Prop where
  fuel : ∀ v, r = .val v → 0 ≤ s.fuel → 0 ≤ s'.fuel
  outs : s.outs.length ≤ s'.outs.length
theorem Fw.refl {s : Sta} {r : Rs} : Fw s r s := ⟨fun _ _ h => h, Nat.le_refl _⟩
theorem Fw.trans {s s1 s2 : Sta} {v : Vl} {r : Rs} (a : Fw s (.val v) s1) (b : Fw s1 r s2) : Fw s r s2 := ⟨fun w h h0 => b.fuel w h (a.fuel v rfl h0), Nat.le_trans a.outs b.outs⟩
theorem fw_then {r0 : Option (Rs × Sta)} {f : Vl → Sta → Option (Rs × Sta)} {s : Sta} {r : Rs} {s' : Sta} (h : thenS r0 f = some (r, s')) (h1 : ∀ r s', r0 = some (r, s') → Fw s r s') (h2 : ∀ v s1 r s', f v s1 = some (r, s') → Fw s1 r s') : Fw s r s' := by
  unfold thenS at h
  split at h
  · exact (h1 _ _ rfl).trans (h2 _ _ _ _ h)
  · exact h1 _ _ h
theorem fw_step {f : Sta → Option (Rs × Sta)} {s : Sta} {r : Rs} {s' : Sta} (h : stepS s f = some (r, s')) (h1 : ∀ s r s', f s = some (r, s') → Fw s r s') : Fw s r s' := by
  unfold stepS at h
  split at h
  · cases h
    exact ⟨fun v e => (by cases e), Nat.le_refl _⟩
  · rename_i hl
    have := h1 _ _ _ h
    exact ⟨fun v e _ => this.fuel v e (by show 0 ≤ s.fuel - 1; omega), this.outs⟩
theorem fw_say {k : Int} {v : Vl} {s : Sta} {r : Rs} {s' : Sta} (h : sayS k v s = some (r, s')) : Fw s r s' := by
  cases h
  exact ⟨fun _ _ h => h, by show s.outs.length ≤ (s.outs ++ [(k, shw v)]).length; rw [List.length_append]; omega⟩
theorem fw_op {apl : TE → En → Ab → Sta → Option (Rs × Sta)} {o : Opw} {k : Int} {v1 v2 : Vl} {s : Sta} {r : Rs} {s' : Sta} (h : opS apl o k v1 v2 s = some (r, s')) (h1 : ∀ b en ab s r s', apl b en ab s = some (r, s') → Fw s r s') : Fw s r s' := by
  unfold opS at h
  split at h
  · split at h
    · split at h
      · exact fw_step h fun s r s' h => h1 _ _ _ _ _ _ h
      · cases h; exact Fw.refl
    · cases h; exact Fw.refl
  · cases h; exact Fw.refl
theorem ev_fw : ∀ (n : Nat) (b : Bool) (e : TE) (en : En) (ab : Ab) (k : Int) (s : Sta) (r : Rs) (s' : Sta), ev n b e en ab k s = some (r, s') → Fw s r s' := by
  intro n
  induction n using Nat.strongRecOn with
  | _ n ih =>
  intro b e en ab k s r s' h
  cases n with
  | zero => cases b <;> cases h
  | succ n =>
    have i0 := ih n (Nat.lt_succ_self n)
    cases b with
    | false =>
      cases hc : ch e with
      | true =>
        rw [ev_ch hc] at h
        split at h
        · exact i0 _ _ _ _ _ _ _ _ h
        · exact i0 _ _ _ _ _ _ _ _ h
      | false =>
        refine ev_cases h hc ?_ ?_ ?_ ?_ ?_ ?_ ?_
        · rintro q r' b rfl hk
          rw [ev_rule hk] at h
          split at h
          · rename_i v1 s1 e1
            cases h
            have := i0 _ _ _ _ _ _ _ _ e1
            exact ⟨this.fuel, this.outs⟩
          · have := i0 _ _ _ _ _ _ _ _ h
            exact ⟨this.fuel, this.outs⟩
        · rintro q r' rfl hk
          rw [ev_keep hk] at h
          cases h
          exact ⟨fun _ _ h => h, Nat.le_refl _⟩
        · rintro i e1 en1 ab1 p rfl rfl hp h
          exact fw_step h fun s r s' h => i0 _ _ _ _ _ _ _ _ h
        · rintro e1 en1 ab1 rfl rfl h
          exact fw_step h fun s r s' h => i0 _ _ _ _ _ _ _ _ h
        · rintro a x a1 b en1 ab1 m rfl rfl rfl
          rw [ev_with] at h
          exact fw_then h (fun r s' h => ih m (by omega) _ _ _ _ _ _ _ _ h) fun v s1 r s' h => fw_step h fun s r s' h => i0 _ _ _ _ _ _ _ _ h
        · rintro a a1 en1 ab1 m rfl rfl rfl
          rw [ev_do1] at h
          exact fw_then h (fun r s' h => ih m (by omega) _ _ _ _ _ _ _ _ h) fun v s1 r s' h => fw_step h fun s r s' h => fw_say h
        · rintro a b o a1 b1 en1 ab1 m rfl rfl rfl
          rw [ev_do2] at h
          exact fw_then h (fun r s' h => ih (m + 1) (by omega) _ _ _ _ _ _ _ _ h) fun v s1 r s' h => fw_then h (fun r s' h => ih (m + 1) (by omega) _ _ _ _ _ _ _ _ h) fun v s1 r s' h => fw_step h fun s r s' h => fw_op h fun b en ab s r s' h => ih m (by omega) _ _ _ _ _ _ _ _ h
    | true =>
      refine ev_tcases h ?_ ?_ ?_ ?_ ?_ ?_ ?_
      · rintro i rfl rfl rfl; exact Fw.refl
      · rintro x v rfl hv rfl rfl; exact Fw.refl
      · rintro x b rfl rfl rfl; exact Fw.refl
      · rintro x a b rfl
        rw [ev_tlet] at h
        exact fw_then h (fun r s' h => i0 _ _ _ _ _ _ _ _ h) fun v s1 r s' h => i0 _ _ _ _ _ _ _ _ h
      · rintro c a b rfl
        rw [ev_tif] at h
        refine fw_then h (fun r s' h => i0 _ _ _ _ _ _ _ _ h) fun v s1 r s' h => ?_
        split at h
        · exact i0 _ _ _ _ _ _ _ _ h
        · cases h; exact Fw.refl
      · rintro a m rfl rfl
        rw [ev_tsay] at h
        exact fw_then h (fun r s' h => ih m (by omega) _ _ _ _ _ _ _ _ h) fun v s1 r s' h => fw_say h
      · rintro o a b m rfl rfl
        rw [ev_top] at h
        exact fw_then h (fun r s' h => ih (m + 1) (by omega) _ _ _ _ _ _ _ _ h) fun v s1 r s' h => fw_then h (fun r s' h => ih (m + 1) (by omega) _ _ _ _ _ _ _ _ h) fun v s1 r s' h => fw_op h fun b en ab s r s' h => ih m (by omega) _ _ _ _ _ _ _ _ h
/-! ### the machine does what evaluation tells -/
theorem thenS_some {r0 : Option (Rs × Sta)} {f : Vl → Sta → Option (Rs × Sta)} {r : Rs} {s' : Sta} (h : thenS r0 f = some (r, s')) : (∃ v s1, r0 = some (.val v, s1) ∧ f v s1 = some (r, s')) ∨ (r0 = some (r, s') ∧ ∀ v, r ≠ .val v) := by
  unfold thenS at h
  split at h
  · exact .inl ⟨_, _, rfl, h⟩
  · rename_i hn
    exact .inr ⟨h, fun v e => hn v s' (by rw [h, e])⟩
theorem Cont.bad {fin : Cf → Prop} {td td' : List It} {sk sk' : List Vl} {s : Sta} {r : Rs} (h : Cont fin td sk s r) (hr : ∀ v, r ≠ .val v) : Cont fin td' sk' s r := by
  cases r with
  | val v => exact absurd rfl (hr v)
  | stuck k => exact h
  | more => exact h
theorem go_step {fin : Cf → Prop} {td : List It} {sk : List Vl} {s s' : Sta} {r : Rs} {f : Sta → Option (Rs × Sta)} {g : Cf → Option Cf} (h : stepS s f = some (r, s')) (h0 : 0 ≤ s.fuel) (k : ∀ td sk, (∀ v, r ≠ .val v) → Cont fin td sk s' r)
    (h2 : 0 ≤ s.fuel - 1 → f { s with fuel := s.fuel - 1 } = some (r, s') → Goes fin td sk { s with fuel := s.fuel - 1 } g) : Goes fin td sk s fun c => c.step g := by
  unfold stepS at h
  split at h
  · rename_i hl
    cases h
    refine ⟨⟨td, sk, s.fuel, s.outs, s.tb, some .more⟩, ?_, k [] [] (fun v e => (by cases e)) _ _ _ _⟩
    show (if s.fuel = 0 then _ else _) = _
    rw [if_pos (by omega)]
  · rename_i hl
    obtain ⟨c', e1, e2⟩ := h2 (by omega) h
    refine ⟨c', ?_, e2⟩
    show (if s.fuel = 0 then _ else g _) = _
    rw [if_neg (by omega)]
    exact e1
/-- an operation of the machine -/
theorem go_op {fin : Cf → Prop} {apl : TE → En → Ab → Sta → Option (Rs × Sta)} {o : Opw} {k : Int} {v1 v2 : Vl} {td : List It} {sk : List Vl} {s s' : Sta} {r : Rs} (h : opS apl o k v1 v2 s = some (r, s')) (h0 : 0 ≤ s.fuel) (kc : ∀ td' sk', (∀ v, r ≠ .val v) ∨ (td' = td ∧ sk' = sk) → Cont fin td' sk' s' r)
    (h2 : ∀ b en ab s, apl b en ab s = some (r, s') → 0 ≤ s.fuel → Reach fin ⟨.visit b en ab k :: td, sk, s.fuel, s.outs, s.tb, none⟩) : Goes fin td (v2 :: v1 :: sk) s fun c => operIt c k o := by
  cases o with
  | call =>
    cases v1 with
    | int i =>
      have h : some (Rs.stuck k, s) = some (r, s') := h
      cases h
      exact ⟨_, rfl, kc [] [] (.inl fun v e => (by cases e)) _ _ _ _⟩
    | fn k' x b en ab =>
      have h : (if k' = k then stepS s fun s => apl b (.cons x v2 en) ab s else some (.stuck k, s)) = some (r, s') := h
      by_cases hk : k' = k
      · rw [if_pos hk] at h
        obtain ⟨c', e1, e2⟩ := go_step (fin := fin) (td := td) (sk := sk) (g := fun c => some (c.go b (.cons x v2 en) ab k)) h h0 (fun td sk hn => kc td sk (.inl hn)) fun h1 h => ⟨_, rfl, h2 _ _ _ _ h h1⟩
        refine ⟨c', ?_, e2⟩
        show (if k' = k then _ else _) = _
        rw [if_pos hk]
        exact e1
      · rw [if_neg hk] at h
        cases h
        refine ⟨⟨td, sk, s.fuel, s.outs, s.tb, some (.stuck k)⟩, ?_, kc [] [] (.inl fun v e => (by cases e)) _ _ _ _⟩
        show (if k' = k then _ else _) = _
        rw [if_neg hk]
  | sum =>
    have h : some (arith .sum k v1 v2, s) = some (r, s') := h
    cases h
    refine ⟨_, rfl, ?_⟩
    cases v1 with
    | fn => exact kc [] [] (.inl fun v e => (by cases e)) _ _ _ _
    | int i =>
      cases v2 with
      | fn => exact kc [] [] (.inl fun v e => (by cases e)) _ _ _ _
      | int j => exact kc td sk (.inr ⟨rfl, rfl⟩)
  | less =>
    have h : some (arith .less k v1 v2, s) = some (r, s') := h
    cases h
    refine ⟨_, rfl, ?_⟩
    cases v1 with
    | fn => exact kc [] [] (.inl fun v e => (by cases e)) _ _ _ _
    | int i =>
      cases v2 with
      | fn => exact kc [] [] (.inl fun v e => (by cases e)) _ _ _ _
      | int j => exact kc td sk (.inr ⟨rfl, rfl⟩)
end Zt

set_option Elab.async false
set_option linter.all false
set_option maxRecDepth 100000
set_option maxHeartbeats 4000000
namespace Zt
open PySem L2 PySem.Spec PyProof.Rows Zg
theorem reach_it {fin : Cf → Prop} {it : It} {td : List It} {sk : List Vl} {s : Sta} (g : Goes fin td sk s fun c => stepIt c it) (b1 : td.length + 1 ≤ 10000) (b2 : sk.length ≤ 10000) (b3 : s.outs.length ≤ 5000000) : Reach fin ⟨it :: td, sk, s.fuel, s.outs, s.tb, none⟩ := by
  obtain ⟨c', e1, e2⟩ := g
  exact .step e1 e2 ⟨by simp only [List.length_cons]; omega, b2, b3⟩
theorem bvis_ch {c : Cf} {en : En} {ab : Ab} {k : Int} {e : TE} (h : ch e = true) : bvis c en ab k e = bvis0 c en ab k e := by
  cases e <;> first | rfl | cases h
theorem go_say {fin : Cf → Prop} {td : List It} {sk : List Vl} {s s' : Sta} {r : Rs} {k : Int} {v : Vl} (h : sayS k v s = some (r, s')) (kc : Cont fin td sk s' r) : Goes fin td (v :: sk) s fun c => saysIt c k := by
  cases h
  exact ⟨_, rfl, kc⟩
theorem mach : ∀ (n : Nat) (b : Bool) (e : TE) (en : En) (ab : Ab) (k : Int) (s : Sta) (r : Rs) (s' : Sta), ev n b e en ab k s = some (r, s') → 0 ≤ s.fuel → s'.outs.length ≤ 5000000 → ∀ (fin : Cf → Prop) (todo : List It) (stk : List Vl), todo.length + 3 * n ≤ 9990 → stk.length + 2 * n ≤ 9990 → Cont fin todo stk s' r →
    (b = false → Goes fin todo stk s fun c => visitIt c e en ab k) ∧ (b = true → Goes fin todo stk s fun c => bvis0 c en ab k e) := by
  intro n
  induction n using Nat.strongRecOn with
  | _ n ih =>
  intro b e en ab k s r s' h h0 hB fin todo stk hT hS kc
  have kc' : ∀ td sk, (∀ v, r ≠ .val v) → Cont fin td sk s' r := fun td sk hn => kc.bad hn
  cases n with
  | zero => cases b <;> cases h
  | succ n =>
    -- an expression before others
    have vis : ∀ m, m ≤ n → ∀ (e : TE) (en : En) (ab : Ab) (k : Int) (s : Sta) (r : Rs) (s' : Sta), ev m false e en ab k s = some (r, s') → 0 ≤ s.fuel → s'.outs.length ≤ 5000000 → ∀ (td : List It) (sk : List Vl), td.length ≤ todo.length + 2 → sk.length ≤ stk.length + 1 → Cont fin td sk s' r → Reach fin ⟨.visit e en ab k :: td, sk, s.fuel, s.outs, s.tb, none⟩ := by
      intro m hm e en ab k s r s' h h0 hB td sk l1 l2 kc
      have ho := (ev_fw _ _ _ _ _ _ _ _ _ h).outs
      exact reach_it ((ih m (by omega) _ _ _ _ _ _ _ _ h h0 hB fin td sk (by omega) (by omega) kc).1 rfl) (by omega) (by omega) (by omega)
    -- what comes of a part
    have part : ∀ m, m ≤ n → ∀ (e : TE) (en : En) (ab : Ab) (k : Int) (s : Sta) (f : Vl → Sta → Option (Rs × Sta)), thenS (ev m false e en ab k s) f = some (r, s') → 0 ≤ s.fuel → (∀ v s1 r s', f v s1 = some (r, s') → Fw s1 r s') → ∀ (td : List It) (sk : List Vl), td.length ≤ todo.length + 2 → sk.length ≤ stk.length + 1 →
        (∀ v s1, f v s1 = some (r, s') → 0 ≤ s1.fuel → s1.outs.length ≤ 5000000 → Reach fin ⟨td, v :: sk, s1.fuel, s1.outs, s1.tb, none⟩) → Reach fin ⟨.visit e en ab k :: td, sk, s.fuel, s.outs, s.tb, none⟩ := by
      intro m hm e en ab k s f h h0 hf td sk l1 l2 g
      rcases thenS_some h with ⟨v, s1, e1, e2⟩ | ⟨e1, hn⟩
      · have w1 := ev_fw _ _ _ _ _ _ _ _ _ e1
        have w2 := hf _ _ _ _ e2
        have b1 : s1.outs.length ≤ 5000000 := Nat.le_trans w2.outs hB
        exact vis m hm _ _ _ _ _ _ _ e1 h0 b1 td sk l1 l2 (g v s1 e2 (w1.fuel v rfl h0) b1)
      · exact vis m hm _ _ _ _ _ _ _ e1 h0 hB td sk l1 l2 (kc' _ _ hn)
    have i0 := ih n (Nat.lt_succ_self n)
    cases b with
    | false =>
      refine ⟨fun _ => ?_, fun h => (by cases h)⟩
      cases hc : ch e with
      | true =>
        rw [ev_ch hc] at h
        cases ht : s.tb k (wd e) with
        | some r1 =>
          rw [ht] at h
          refine ⟨⟨.visit r1 .nil (.some e en ab) (k + 1) :: todo, stk, s.fuel, s.outs, s.tb, none⟩, ?_, vis n (Nat.le_refl _) _ _ _ _ _ _ _ h h0 hB todo stk (by omega) (by omega) kc⟩
          show visitIt _ e en ab k = _
          unfold visitIt
          rw [if_pos hc]
          show (match s.tb k (wd e) with | some r => _ | none => _) = _
          rw [ht]
          rfl
        | none =>
          rw [ht] at h
          obtain ⟨c', g1, g2⟩ := (i0 _ _ _ _ _ _ _ _ h h0 hB fin todo stk (by omega) (by omega) kc).2 rfl
          refine ⟨c', ?_, g2⟩
          show visitIt _ e en ab k = _
          unfold visitIt
          rw [if_pos hc]
          show (match s.tb k (wd e) with | some r => _ | none => _) = _
          rw [ht]
          show bvis _ en ab k e = _
          rw [bvis_ch hc]
          exact g1
      | false =>
        have go : Goes fin todo stk s (fun c => bvis c en ab k e) → Goes fin todo stk s fun c => visitIt c e en ab k := by
          rintro ⟨c', g1, g2⟩
          refine ⟨c', ?_, g2⟩
          show visitIt _ e en ab k = _
          unfold visitIt
          rw [if_neg (by rw [hc]; exact Bool.false_ne_true)]
          exact g1
        refine go ?_
        clear go
        refine ev_cases h hc ?_ ?_ ?_ ?_ ?_ ?_ ?_
        · rintro q r' b rfl hk
          rw [ev_rule hk] at h
          refine ⟨_, if_pos hk, ?_⟩
          split at h
          · rename_i v1 s1 e1
            cases h
            have hB1 : s1.outs.length ≤ 5000000 := hB
            have w1 := ev_fw _ _ _ _ _ _ _ _ _ e1
            refine vis n (Nat.le_refl _) _ _ _ _ { s with tb := tset s.tb k q (some r') } _ _ e1 h0 hB1 (.rest k q (s.tb k q) :: todo) stk (by simp only [List.length_cons]; omega) (by omega) ?_
            exact reach_it ⟨_, if_pos hk, kc⟩ (by omega) (by simp only [List.length_cons]; omega) hB1
          · rename_i hn
            exact vis n (Nat.le_refl _) _ _ _ _ { s with tb := tset s.tb k q (some r') } _ _ h h0 hB (.rest k q (s.tb k q) :: todo) stk (by simp only [List.length_cons]; omega) (by omega) (kc' _ _ fun v e => hn v s' (by rw [h, e]))
        · rintro q r' rfl hk
          rw [ev_keep hk] at h
          cases h
          exact ⟨_, if_pos hk, kc⟩
        · rintro i e1 en1 ab1 p rfl rfl hp h
          obtain ⟨c', g1, g2⟩ := go_step (fin := fin) (td := todo) (sk := stk) (g := fun c => some (c.go p en1 ab1 (k - 1))) h h0 (fun td sk hn => kc' td sk hn) fun h1 h => ⟨_, rfl, vis n (Nat.le_refl _) _ _ _ _ { s with fuel := s.fuel - 1 } _ _ h h1 hB todo stk (by omega) (by omega) kc⟩
          refine ⟨c', ?_, g2⟩
          show (match partAt e1 i with | some p => _ | none => _) = _
          rw [hp]
          exact g1
        · rintro e1 en1 ab1 rfl rfl h
          exact go_step h h0 (fun td sk hn => kc' td sk hn) fun h1 h => (i0 _ _ _ _ _ { s with fuel := s.fuel - 1 } _ _ h h1 hB fin todo stk (by omega) (by omega) kc).2 rfl
        · rintro a x a1 b en1 ab1 m rfl rfl rfl
          rw [ev_with] at h
          refine ⟨_, rfl, part m (by omega) _ _ _ _ _ _ h h0 (fun v s1 r s' h => fw_step h fun s r s' h => ev_fw _ _ _ _ _ _ _ _ _ h) (.bindb en (.some (.lett x a1 b) en1 ab1) k :: todo) stk (by simp only [List.length_cons]; omega) (by omega) fun v s1 h h1 hb1 => ?_⟩
          refine reach_it ?_ (by omega) (by simp only [List.length_cons]; omega) hb1
          exact go_step (td := todo) (sk := v :: stk) (g := fun c => bindIt c x b en1 ab1 (k - 1)) h h1 (fun td sk hn => kc' td sk hn) fun h2 h => ⟨_, rfl, vis (m + 1) (by omega) _ _ _ _ { s1 with fuel := s1.fuel - 1 } _ _ h h2 hB todo stk (by omega) (by omega) kc⟩
        · rintro a a1 en1 ab1 m rfl rfl rfl
          rw [ev_do1] at h
          refine ⟨_, rfl, part m (by omega) _ _ _ _ _ _ h h0 (fun v s1 r s' h => fw_step h fun s r s' h => fw_say h) (.operb en (.some (.say a1) en1 ab1) k :: todo) stk (by simp only [List.length_cons]; omega) (by omega) fun v s1 h h1 hb1 => ?_⟩
          refine reach_it ?_ (by omega) (by simp only [List.length_cons]; omega) hb1
          exact go_step h h1 (fun td sk hn => kc' td sk hn) fun h2 h => go_say h kc
        · rintro a b o a1 b1 en1 ab1 m rfl rfl rfl
          rw [ev_do2] at h
          have fo : ∀ (v1 v2 : Vl) (s1 : Sta) (r : Rs) (s' : Sta), stepS s1 (fun s => opS (fun b en ab s => ev m false b en ab (k - 1) s) o (k - 1) v1 v2 s) = some (r, s') → Fw s1 r s' := fun v1 v2 s1 r s' h => fw_step h fun s r s' h => fw_op h fun b en ab s r s' h => ev_fw _ _ _ _ _ _ _ _ _ h
          refine ⟨_, rfl, part (m + 1) (by omega) _ _ _ _ _ _ h h0 (fun v s1 r s' h => fw_then h (fun r s' h => ev_fw _ _ _ _ _ _ _ _ _ h) fun v2 s2 r s' h => fo _ _ _ _ _ h) (.visit b en (.some (.op o a1 b1) en1 ab1) k :: .operb en (.some (.op o a1 b1) en1 ab1) k :: todo) stk (by simp only [List.length_cons]; omega) (by omega) fun v1 s1 h h1 hb1 => ?_⟩
          refine part (m + 1) (by omega) _ _ _ _ _ _ h h1 (fun v s1 r s' h => fo _ _ _ _ _ h) (.operb en (.some (.op o a1 b1) en1 ab1) k :: todo) (v1 :: stk) (by simp only [List.length_cons]; omega) (by simp only [List.length_cons]; omega) fun v2 s2 h h2 hb2 => ?_
          refine reach_it ?_ (by omega) (by simp only [List.length_cons]; omega) hb2
          refine go_step h h2 (fun td sk hn => kc' td sk hn) fun h3 h => go_op h h3 (fun td' sk' hh => ?_) fun b' en' ab' s3 h h4 => vis m (by omega) _ _ _ _ _ _ _ h h4 hB todo stk (by omega) (by omega) kc
          rcases hh with hn | ⟨rfl, rfl⟩
          · exact kc' _ _ hn
          · exact kc
    | true =>
      refine ⟨fun h => (by cases h), fun _ => ?_⟩
      refine ev_tcases h ?_ ?_ ?_ ?_ ?_ ?_ ?_
      · rintro i rfl rfl rfl
        exact ⟨_, rfl, kc⟩
      · rintro x v rfl hv rfl rfl
        refine ⟨⟨todo, v :: stk, s'.fuel, s'.outs, s'.tb, none⟩, ?_, kc⟩
        show (match lookE en x with | some v => some (Cf.push _ v) | none => none) = _
        rw [hv]
        rfl
      · rintro x b rfl rfl rfl
        exact ⟨_, rfl, kc⟩
      · rintro x a b rfl
        rw [ev_tlet] at h
        refine ⟨_, rfl, part n (Nat.le_refl _) _ _ _ _ _ _ h h0 (fun v s1 r s' h => ev_fw _ _ _ _ _ _ _ _ _ h) (.bind x b en ab k :: todo) stk (by simp only [List.length_cons]; omega) (by omega) fun v s1 h h1 hb1 => ?_⟩
        exact reach_it ⟨_, rfl, vis n (Nat.le_refl _) _ _ _ _ _ _ _ h h1 hB todo stk (by omega) (by omega) kc⟩ (by omega) (by simp only [List.length_cons]; omega) hb1
      · rintro c a b rfl
        rw [ev_tif] at h
        refine ⟨_, rfl, part n (Nat.le_refl _) _ _ _ _ _ _ h h0 (fun v s1 r s' h => ?_) (.choose a b en ab k :: todo) stk (by simp only [List.length_cons]; omega) (by omega) fun v s1 h h1 hb1 => ?_⟩
        · split at h
          · exact ev_fw _ _ _ _ _ _ _ _ _ h
          · cases h; exact Fw.refl
        · refine reach_it ?_ (by omega) (by simp only [List.length_cons]; omega) hb1
          cases v with
          | int i => exact ⟨_, rfl, vis n (Nat.le_refl _) _ _ _ _ _ _ _ h h1 hB todo stk (by omega) (by omega) kc⟩
          | fn k' x' b' en' ab' =>
            cases h
            exact ⟨_, rfl, kc' [] [] (fun v e => (by cases e)) _ _ _ _⟩
      · rintro a m rfl rfl
        rw [ev_tsay] at h
        refine ⟨_, rfl, part m (by omega) _ _ _ _ _ _ h h0 (fun v s1 r s' h => fw_say h) (.says k :: todo) stk (by simp only [List.length_cons]; omega) (by omega) fun v s1 h h1 hb1 => ?_⟩
        exact reach_it (go_say h kc) (by omega) (by simp only [List.length_cons]; omega) hb1
      · rintro o a b m rfl rfl
        rw [ev_top] at h
        have fo : ∀ (v1 v2 : Vl) (s1 : Sta) (r : Rs) (s' : Sta), opS (fun b en ab s => ev m false b en ab k s) o k v1 v2 s1 = some (r, s') → Fw s1 r s' := fun v1 v2 s1 r s' h => fw_op h fun b en ab s r s' h => ev_fw _ _ _ _ _ _ _ _ _ h
        refine ⟨_, rfl, part (m + 1) (by omega) _ _ _ _ _ _ h h0 (fun v s1 r s' h => fw_then h (fun r s' h => ev_fw _ _ _ _ _ _ _ _ _ h) fun v2 s2 r s' h => fo _ _ _ _ _ h) (.visit b en ab k :: .oper o k :: todo) stk (by simp only [List.length_cons]; omega) (by omega) fun v1 s1 h h1 hb1 => ?_⟩
        refine part (m + 1) (by omega) _ _ _ _ _ _ h h1 (fun v s1 r s' h => fo _ _ _ _ _ h) (.oper o k :: todo) (v1 :: stk) (by simp only [List.length_cons]; omega) (by simp only [List.length_cons]; omega) fun v2 s2 h h2 hb2 => ?_
        refine reach_it ?_ (by omega) (by simp only [List.length_cons]; omega) hb2
        refine go_op h h2 (fun td' sk' hh => ?_) fun b' en' ab' s3 h h4 => vis m (by omega) _ _ _ _ _ _ _ h h4 hB todo stk (by omega) (by omega) kc
        rcases hh with hn | ⟨rfl, rfl⟩
        · exact kc' _ _ hn
        · exact kc
end Zt

set_option Elab.async false
set_option linter.all false
set_option maxRecDepth 100000
set_option maxHeartbeats 4000000
namespace Zt
open PySem L2 PySem.Spec PyProof.Rows Zg
/-! ### programs in the heap -/
def RT (H : Hp) : TE → V → Prop
  | .num n, v => ∃ a, v = .ref a ∧ H a = some (.tup [.str "num", .int n])
  | .name x, v => ∃ a, v = .ref a ∧ H a = some (.tup [.str "name", .str x])
  | .fn x b, v => ∃ a u, v = .ref a ∧ H a = some (.tup [.str "fn", .str x, u]) ∧ RT H b u
  | .op o e f, v => ∃ a u w, v = .ref a ∧ H a = some (.tup [.str o.str, u, w]) ∧ RT H e u ∧ RT H f w
  | .iff c e f, v => ∃ a t u w, v = .ref a ∧ H a = some (.tup [.str "if", t, u, w]) ∧ RT H c t ∧ RT H e u ∧ RT H f w
  | .lett x e f, v => ∃ a u w, v = .ref a ∧ H a = some (.tup [.str "let", .str x, u, w]) ∧ RT H e u ∧ RT H f w
  | .say e, v => ∃ a u, v = .ref a ∧ H a = some (.tup [.str "say", u]) ∧ RT H e u
  | .rule q r b, v => ∃ a u w, v = .ref a ∧ H a = some (.tup [.str "rule", .str q, u, w]) ∧ RT H r u ∧ RT H b w ∧ q ∈ kindsL
  | .keep q r, v => ∃ a u, v = .ref a ∧ H a = some (.tup [.str "keep", .str q, u]) ∧ RT H r u ∧ q ∈ kindsL
  | .part i, v => ∃ a, v = .ref a ∧ H a = some (.tup [.str "part", .int i])
  | .witha e, v => ∃ a u, v = .ref a ∧ H a = some (.tup [.str "with", u]) ∧ RT H e u
  | .usual, v => ∃ a, v = .ref a ∧ H a = some (.tup [.str "usual"])
  | .do1 e, v => ∃ a t u, v = .ref a ∧ H a = some (.tup [.str "do", .ref t]) ∧ H t = some (.tup [u]) ∧ RT H e u
  | .do2 e f, v => ∃ a t u w, v = .ref a ∧ H a = some (.tup [.str "do", .ref t]) ∧ H t = some (.tup [u, w]) ∧ RT H e u ∧ RT H f w
theorem RT.tups {H H' : Hp} (h : Tups H H') : ∀ {e : TE} {v : V}, RT H e v → RT H' e v
  | .num n, v, ⟨a, e, q⟩ => ⟨a, e, h _ _ q⟩
  | .name x, v, ⟨a, e, q⟩ => ⟨a, e, h _ _ q⟩
  | .fn x b, v, ⟨a, u, e, q, r1⟩ => ⟨a, u, e, h _ _ q, RT.tups h r1⟩
  | .op o e f, v, ⟨a, u, w, e', q, r1, r2⟩ => ⟨a, u, w, e', h _ _ q, RT.tups h r1, RT.tups h r2⟩
  | .iff c e f, v, ⟨a, t, u, w, e', q, r1, r2, r3⟩ => ⟨a, t, u, w, e', h _ _ q, RT.tups h r1, RT.tups h r2, RT.tups h r3⟩
  | .lett x e f, v, ⟨a, u, w, e', q, r1, r2⟩ => ⟨a, u, w, e', h _ _ q, RT.tups h r1, RT.tups h r2⟩
  | .say e, v, ⟨a, u, e', q, r1⟩ => ⟨a, u, e', h _ _ q, RT.tups h r1⟩
  | .rule q' r b, v, ⟨a, u, w, e', q, r1, r2, r3⟩ => ⟨a, u, w, e', h _ _ q, RT.tups h r1, RT.tups h r2, r3⟩
  | .keep q' r, v, ⟨a, u, e', q, r1, r2⟩ => ⟨a, u, e', h _ _ q, RT.tups h r1, r2⟩
  | .part i, v, ⟨a, e, q⟩ => ⟨a, e, h _ _ q⟩
  | .witha e, v, ⟨a, u, e', q, r1⟩ => ⟨a, u, e', h _ _ q, RT.tups h r1⟩
  | .usual, v, ⟨a, e, q⟩ => ⟨a, e, h _ _ q⟩
  | .do1 e, v, ⟨a, t, u, e', q, q2, r1⟩ => ⟨a, t, u, e', h _ _ q, h _ _ q2, RT.tups h r1⟩
  | .do2 e f, v, ⟨a, t, u, w, e', q, q2, r1, r2⟩ => ⟨a, t, u, w, e', h _ _ q, h _ _ q2, RT.tups h r1, RT.tups h r2⟩
/-! ### values and places of the program -/
def fdF (k : Int) (u : V) (s : V) : List (Str × V) := [("level", .int k), ("body", u), ("scope", s)]
def fdP (k : Int) (n d : V) : List (Str × V) := [("level", .int k), ("names", n), ("about", d)]
def fdG (fl : Int) (po : Addr) (ev : V) (pt ps pw : Addr) : List (Str × V) := [("fuel", .int fl), ("outputs", .ref po), ("end", ev), ("stack", .ref ps), ("settings", .ref pw), ("todo", .ref pt)]
/-- tuples, functions and places are kept -/
structure Kp (H H' : Hp) : Prop where
  tup : Tups H H'
  fn : ∀ a C dx k u s, H a = some (.ins C dx (fdF k u s)) → H' a = some (.ins C dx (fdF k u s))
  sc : ∀ a C dx k n d, H a = some (.ins C dx (fdP k n d)) → H' a = some (.ins C dx (fdP k n d))
theorem Kp.refl (H : Hp) : Kp H H := ⟨Tups.refl H, fun _ _ _ _ _ _ h => h, fun _ _ _ _ _ _ h => h⟩
theorem Kp.trans {H H1 H2 : Hp} (a : Kp H H1) (b : Kp H1 H2) : Kp H H2 := ⟨a.tup.trans b.tup, fun _ _ _ _ _ _ h => b.fn _ _ _ _ _ _ (a.fn _ _ _ _ _ _ h), fun _ _ _ _ _ _ h => b.sc _ _ _ _ _ _ (a.sc _ _ _ _ _ _ h)⟩
theorem Same.kp {H H' : Hp} (s : Same H H') : Kp H H' := ⟨Same.tups s, fun _ _ _ _ _ _ h => s _ _ h, fun _ _ _ _ _ _ h => s _ _ h⟩
/-- a change of what is no tuple, no function and no place -/
theorem Oth.kp {c : Addr} {H H' : Hp} (o : Oth c H H') (h1 : ∀ xs, H c ≠ some (.tup xs)) (h2 : ∀ C dx k u s, H c ≠ some (.ins C dx (fdF k u s))) (h3 : ∀ C dx k n d, H c ≠ some (.ins C dx (fdP k n d))) : Kp H H' :=
  ⟨fun a xs e => o a _ (fun z => h1 xs (by rw [← z]; exact e)) e, fun a C dx k u s e => o a _ (fun z => h2 C dx k u s (by rw [← z]; exact e)) e, fun a C dx k n d e => o a _ (fun z => h3 C dx k n d (by rw [← z]; exact e)) e⟩
theorem kp_lst {c : Addr} {H H' : Hp} {l : List V} (o : Oth c H H') (h : H c = some (.lst l)) : Kp H H' :=
  Oth.kp o (fun xs e => by rw [h] at e; cases e) (fun _ _ _ _ _ e => by rw [h] at e; cases e) (fun _ _ _ _ _ e => by rw [h] at e; cases e)
theorem kp_dict {c : Addr} {H H' : Hp} {l : List (List Key × V)} (o : Oth c H H') (h : H c = some (.dT l)) : Kp H H' :=
  Oth.kp o (fun xs e => by rw [h] at e; cases e) (fun _ _ _ _ _ e => by rw [h] at e; cases e) (fun _ _ _ _ _ e => by rw [h] at e; cases e)
theorem kp_run {c C dx : Addr} {H H' : Hp} {v : V} {r : List (Str × V)} (o : Oth c H H') (h : H c = some (.ins C dx (("fuel", v) :: r))) : Kp H H' :=
  Oth.kp o (fun xs e => by rw [h] at e; cases e) (fun C' dx' k u s e => by
    rw [h] at e
    have e := (HO.ins.inj (Option.some.inj e)).2.2
    have e := congrArg (fun l => (l.head?.map Prod.fst)) e
    have e : some ("fuel" : Str) = some "level" := e
    exact absurd (Option.some.inj e) (by decide +kernel)) (fun C' dx' k n d e => by
    rw [h] at e
    have e := (HO.ins.inj (Option.some.inj e)).2.2
    have e := congrArg (fun l => (l.head?.map Prod.fst)) e
    have e : some ("fuel" : Str) = some "level" := e
    exact absurd (Option.some.inj e) (by decide +kernel))
mutual
def RV (CF CP : Addr) (H : Hp) : Vl → V → Prop
  | .int i, v => v = .int i
  | .fn k x b en ab, v => ∃ a dx pb u s dx2 n d, v = .ref a ∧ H a = some (.ins CF dx (fdF k (.ref pb) (.ref s))) ∧ H pb = some (.tup [.str x, u]) ∧ RT H b u ∧ H s = some (.ins CP dx2 (fdP k n d)) ∧ RE CF CP H en n ∧ RB CF CP H k ab d
def RE (CF CP : Addr) (H : Hp) : En → V → Prop
  | .nil, v => v = .non
  | .cons x v r, u => ∃ a w t, u = .ref a ∧ H a = some (.tup [.str x, w, t]) ∧ RV CF CP H v w ∧ RE CF CP H r t
def RB (CF CP : Addr) (H : Hp) (k : Int) : Ab → V → Prop
  | .none, v => v = .non
  | .some e en ab, v => ∃ a u s dx n d, v = .ref a ∧ H a = some (.tup [u, .ref s]) ∧ RT H e u ∧ H s = some (.ins CP dx (fdP (k - 1) n d)) ∧ RE CF CP H en n ∧ RB CF CP H (k - 1) ab d
end
mutual
theorem RV.kp {CF CP : Addr} {H H' : Hp} (h : Kp H H') : ∀ {v : Vl} {u : V}, RV CF CP H v u → RV CF CP H' v u
  | .int i, u, r => by
    rw [RV] at r ⊢
    exact r
  | .fn k x b en ab, u, r => by
    rw [RV] at r ⊢
    obtain ⟨a, dx, pb, u', s, dx2, n, d, rfl, h1, hb, h2, h3, h4, h5⟩ := r
    exact ⟨a, dx, pb, u', s, dx2, n, d, rfl, h.fn _ _ _ _ _ _ h1, h.tup _ _ hb, h2.tups h.tup, h.sc _ _ _ _ _ _ h3, RE.kp h h4, RB.kp h h5⟩
theorem RE.kp {CF CP : Addr} {H H' : Hp} (h : Kp H H') : ∀ {en : En} {u : V}, RE CF CP H en u → RE CF CP H' en u
  | .nil, u, r => by
    rw [RE] at r ⊢
    exact r
  | .cons x v r0, u, r => by
    rw [RE] at r ⊢
    obtain ⟨a, w, t, rfl, h1, h2, h3⟩ := r
    exact ⟨a, w, t, rfl, h.tup _ _ h1, RV.kp h h2, RE.kp h h3⟩
theorem RB.kp {CF CP : Addr} {H H' : Hp} (h : Kp H H') : ∀ {k : Int} {ab : Ab} {u : V}, RB CF CP H k ab u → RB CF CP H' k ab u
  | _, .none, u, r => by
    rw [RB] at r ⊢
    exact r
  | _, .some e en ab, u, r => by
    rw [RB] at r ⊢
    obtain ⟨a, u, s, dx, n, d, rfl, h1, h2, h3, h4, h5⟩ := r
    exact ⟨a, u, s, dx, n, d, rfl, h.tup _ _ h1, h2.tups h.tup, h.sc _ _ _ _ _ _ h3, RE.kp h h4, RB.kp h h5⟩
end
/-- a place -/
def RS (CF CP : Addr) (H : Hp) (k : Int) (en : En) (ab : Ab) (v : V) : Prop := ∃ s dx n d, v = .ref s ∧ H s = some (.ins CP dx (fdP k n d)) ∧ RE CF CP H en n ∧ RB CF CP H k ab d
theorem RS.kp {CF CP : Addr} {H H' : Hp} (h : Kp H H') {k : Int} {en : En} {ab : Ab} {u : V} (r : RS CF CP H k en ab u) : RS CF CP H' k en ab u := by
  obtain ⟨s, dx, n, d, rfl, h1, h2, h3⟩ := r
  exact ⟨s, dx, n, d, rfl, h.sc _ _ _ _ _ _ h1, h2.kp h, h3.kp h⟩
def shV (H : Hp) : Sh → V → Prop
  | .int i, v => v = .int i
  | .fn k, v => ∃ a, v = .ref a ∧ H a = some (.tup [.str "fn", .int k])
theorem shV.tups {H H' : Hp} (h : Tups H H') : ∀ {x : Sh} {v : V}, shV H x v → shV H' x v
  | .int _, _, r => r
  | .fn _, _, ⟨a, e, q⟩ => ⟨a, e, h _ _ q⟩
def RO (H : Hp) (o : Int × Sh) (v : V) : Prop := ∃ a u, v = .ref a ∧ H a = some (.tup [.int o.1, u]) ∧ shV H o.2 u
theorem RO.tups {H H' : Hp} (h : Tups H H') {o : Int × Sh} {v : V} (r : RO H o v) : RO H' o v := by
  obtain ⟨a, u, e, q, s⟩ := r
  exact ⟨a, u, e, h _ _ q, s.tups h⟩
/-- a rule in force, or none -/
def RR (H : Hp) : Option TE → V → Prop
  | none, v => v = .int 0
  | some r, v => RT H r v
theorem RR.tups {H H' : Hp} (h : Tups H H') : ∀ {r : Option TE} {v : V}, RR H r v → RR H' r v
  | none, _, e => e
  | some r, _, e => RT.tups h e
/-- what waits -/
def RIw (CF CP : Addr) (H : Hp) (i : It) (w : Str) (t s : V) : Prop := match i with
  | .visit e en ab k => w = "visit" ∧ RT H e t ∧ RS CF CP H k en ab s
  | .oper o k => w = "operate" ∧ t = .str o.str ∧ ∃ en ab, RS CF CP H k en ab s
  | .says k => w = "operate" ∧ t = .str "say" ∧ ∃ en ab, RS CF CP H k en ab s
  | .choose a b en ab k => w = "choose" ∧ RS CF CP H k en ab s ∧ ∃ q e f, t = .ref q ∧ H q = some (.tup [e, f]) ∧ RT H a e ∧ RT H b f
  | .bind x b en ab k => w = "bind" ∧ RS CF CP H k en ab s ∧ ∃ q c e, t = .ref q ∧ H q = some (.tup [.str "let", .str x, c, e]) ∧ RT H b e
  | .rest k q r => w = "restore" ∧ q ∈ kindsL ∧ ∃ p kp b, t = .ref p ∧ H p = some (.tup [.ref kp, b]) ∧ H kp = some (.tup [.int k, .str q]) ∧ RR H r b
  | .bindb en ab k => w = "bind below" ∧ RS CF CP H k en ab s
  | .operb en ab k => w = "operate below" ∧ RS CF CP H k en ab s
def RI (CF CP : Addr) (H : Hp) (i : It) (v : V) : Prop := ∃ p w t s, v = .ref p ∧ H p = some (.tup [.str w, t, s]) ∧ RIw CF CP H i w t s
theorem RI.kp {CF CP : Addr} {H H' : Hp} (h : Kp H H') {i : It} {v : V} (r : RI CF CP H i v) : RI CF CP H' i v := by
  obtain ⟨p, w, t, s, e, q, r⟩ := r
  refine ⟨p, w, t, s, e, h.tup _ _ q, ?_⟩
  cases i with
  | visit e en ab k => exact ⟨r.1, r.2.1.tups h.tup, r.2.2.kp h⟩
  | oper o k =>
    obtain ⟨a, b, en, ab, c⟩ := r
    exact ⟨a, b, en, ab, c.kp h⟩
  | says k =>
    obtain ⟨a, b, en, ab, c⟩ := r
    exact ⟨a, b, en, ab, c.kp h⟩
  | choose a b en ab k =>
    obtain ⟨a, x, q, e, f, y, z, g, i⟩ := r
    exact ⟨a, x.kp h, q, e, f, y, h.tup _ _ z, g.tups h.tup, i.tups h.tup⟩
  | bind x b en ab k =>
    obtain ⟨a, x, q, c, e, y, z, g⟩ := r
    exact ⟨a, x.kp h, q, c, e, y, h.tup _ _ z, g.tups h.tup⟩
  | rest k q r =>
    obtain ⟨a, a2, p, kp, b, y, z, z2, g⟩ := r
    exact ⟨a, a2, p, kp, b, y, h.tup _ _ z, h.tup _ _ z2, g.tups h.tup⟩
  | bindb en ab k => exact ⟨r.1, r.2.kp h⟩
  | operb en ab k => exact ⟨r.1, r.2.kp h⟩
def REd (H : Hp) : Option Ed → V → Prop
  | none, v => v = .non
  | some (.stuck k), v => ∃ a, v = .ref a ∧ H a = some (.tup [.str "stuck", .int k])
  | some .more, v => ∃ a, v = .ref a ∧ H a = some (.tup [.str "more"])
theorem REd.tups {H H' : Hp} (h : Tups H H') : ∀ {x : Option Ed} {v : V}, REd H x v → REd H' x v
  | none, _, r => r
  | some (.stuck _), _, ⟨a, e, q⟩ => ⟨a, e, h _ _ q⟩
  | some .more, _, ⟨a, e, q⟩ => ⟨a, e, h _ _ q⟩
/-- a table of rules -/
def ky (k : Int) (q : Str) : List Key := [.inl k, .inr q]
theorem ky_inj {k k' : Int} {q q' : Str} (h : ky k q = ky k' q') : k = k' ∧ q = q' := by
  unfold ky at h
  injection h with h1 h2
  injection h2 with h2 _
  exact ⟨Sum.inl.inj h1, Sum.inr.inj h2⟩
def RW (H : Hp) (kvs : List (List Key × V)) (f : Tab) : Prop := (∀ k q, RR H (f k q) ((valV kvs (ky k q)).getD (.int 0))) ∧ ∀ k q, q ∉ kindsL → f k q = none
theorem RW.tups {H H' : Hp} {kvs : List (List Key × V)} {f : Tab} (h : Tups H H') (r : RW H kvs f) : RW H' kvs f := ⟨fun k q => (r.1 k q).tups h, r.2⟩
def kysL : List (List Key) := (List.range 101).flatMap fun (k : Nat) => kindsL.map fun q => ky ((k : Nat) : Int) q
theorem mem_kys {k : Int} {q : Str} (hk : lvok k = true) (hq : q ∈ kindsL) : ky k q ∈ kysL := by
  unfold lvok at hk
  rw [Bool.and_eq_true] at hk
  have h0 := of_decide_eq_true hk.1
  have h1 := of_decide_eq_true hk.2
  refine List.mem_flatMap.mpr ⟨k.toNat, List.mem_range.mpr (by omega), List.mem_map.mpr ⟨q, hq, ?_⟩⟩
  rw [show ((k.toNat : Nat) : Int) = k by omega]
theorem kys_len : kysL.length = 909 := by
  unfold kysL
  rw [List.length_flatMap]
  have : (List.range 101).map (fun k => (kindsL.map fun q => ky ((k : Nat) : Int) q).length) = (List.range 101).map fun _ => 9 := by
    refine List.map_congr_left fun k _ => ?_
    rw [List.length_map]
    rfl
  rw [this]
  decide
/-- its keys may be set -/
def KD (kvs : List (List Key × V)) : Prop := (kvs.map (·.1)).Nodup ∧ ∀ k ∈ kvs.map (·.1), k ∈ kysL
theorem sub_len {α : Type} [DecidableEq α] : ∀ {l m : List α}, l.Nodup → (∀ x ∈ l, x ∈ m) → l.length ≤ m.length
  | [], _, _, _ => Nat.zero_le _
  | x :: l, m, hn, h => by
    have hx := h x List.mem_cons_self
    rw [List.nodup_cons] at hn
    have := sub_len (l := l) (m := m.erase x) hn.2 fun y hy => (List.mem_erase_of_ne (by rintro rfl; exact hn.1 hy)).mpr (h y (List.mem_cons_of_mem _ hy))
    rw [List.length_erase_of_mem hx] at this
    have := List.length_pos_of_mem hx
    rw [List.length_cons]
    omega
theorem KD.len {kvs : List (List Key × V)} (h : KD kvs) : kvs.length ≤ 909 := by
  have := sub_len h.1 h.2
  rw [List.length_map, kys_len] at this
  exact this
theorem KD.put {kvs : List (List Key × V)} {j : List Key} {v : V} (h : KD kvs) (hj : j ∈ kysL) : KD (putK kvs j v) := by
  unfold putK
  split
  · have e : (kvs.map fun kv => if kv.1 = j then (kv.1, v) else kv).map (·.1) = kvs.map (·.1) := by
      rw [List.map_map]
      congr 1
      funext kv
      show (if kv.1 = j then (kv.1, v) else kv).1 = kv.1
      split <;> rfl
    unfold KD
    rw [e]
    exact h
  · rename_i hn
    have hni : j ∉ kvs.map (·.1) := fun q => by
      obtain ⟨kv, h1, h2⟩ := List.mem_map.mp q
      exact hn (List.any_eq_true.mpr ⟨kv, h1, decide_eq_true h2⟩)
    unfold KD
    rw [List.map_append]
    refine ⟨List.nodup_append.mpr ⟨h.1, by simp, fun a ha b hb => ?_⟩, fun k hk => ?_⟩
    · simp at hb
      subst hb
      rintro rfl
      exact hni ha
    · rw [List.mem_append] at hk
      rcases hk with hk | hk
      · exact h.2 k hk
      · simp at hk
        subst hk
        exact hj
/-- a run -/
structure RunA (CR CF CS : Addr) (H : Hp) (g dx po pt ps pw : Addr) (ev : V) (xo xt xs : List V) (kvs : List (List Key × V)) (c : Cf) : Prop where
  obj : H g = some (.ins CR dx (fdG c.fuel po ev pt ps pw))
  ho : H po = some (.lst xo)
  ht : H pt = some (.lst xt)
  hs : H ps = some (.lst xs)
  hw : H pw = some (.dT kvs)
  nt : po ≠ pt
  ns : po ≠ ps
  ts : pt ≠ ps
  e : REd H c.ed ev
  o : Paired (RO H) c.outs xo
  t : Paired (RI CF CS H) c.todo xt.reverse
  s : Paired (RV CF CS H) c.stk xs.reverse
  w : RW H kvs c.tb
  kd : KD kvs
def RunAt (CR CF CS : Addr) (H : Hp) (g : Addr) (c : Cf) : Prop := ∃ dx po pt ps pw ev xo xt xs kvs, RunA CR CF CS H g dx po pt ps pw ev xo xt xs kvs c
theorem RunA.mono {CR CF CS : Addr} {H H' : Hp} {g dx po pt ps pw : Addr} {ev : V} {xo xt xs : List V} {kvs : List (List Key × V)} {c : Cf} (r : RunA CR CF CS H g dx po pt ps pw ev xo xt xs kvs c) (s : Same H H') : RunA CR CF CS H' g dx po pt ps pw ev xo xt xs kvs c :=
  ⟨s _ _ r.obj, s _ _ r.ho, s _ _ r.ht, s _ _ r.hs, s _ _ r.hw, r.nt, r.ns, r.ts, r.e.tups (Same.tups s), Paired.imp' r.o fun _ _ q => q.tups (Same.tups s), Paired.imp' r.t fun _ _ q => q.kp (Same.kp s), Paired.imp' r.s fun _ _ q => q.kp (Same.kp s), r.w.tups (Same.tups s), r.kd⟩
section
variable {CR CF CS : Addr} {H : Hp} {g dx po pt ps pw : Addr} {ev : V} {xo xt xs : List V} {kvs : List (List Key × V)} {c : Cf}
theorem RunA.gne (r : RunA CR CF CS H g dx po pt ps pw ev xo xt xs kvs c) : g ≠ po ∧ g ≠ pt ∧ g ≠ ps ∧ g ≠ pw := ⟨ne_of r.obj r.ho (by intro q; cases q), ne_of r.obj r.ht (by intro q; cases q), ne_of r.obj r.hs (by intro q; cases q), ne_of r.obj r.hw (by intro q; cases q)⟩
theorem RunA.wne (r : RunA CR CF CS H g dx po pt ps pw ev xo xt xs kvs c) : pw ≠ po ∧ pw ≠ pt ∧ pw ≠ ps := ⟨ne_of r.hw r.ho (by intro q; cases q), ne_of r.hw r.ht (by intro q; cases q), ne_of r.hw r.hs (by intro q; cases q)⟩
/-- the stack changes -/
theorem RunA.stack (r : RunA CR CF CS H g dx po pt ps pw ev xo xt xs kvs c) {xs' : List V} {stk' : List Vl} (h : Paired (RV CF CS H) stk' xs'.reverse) : RunA CR CF CS (upd H ps (.lst xs')) g dx po pt ps pw ev xo xt xs' kvs { c with stk := stk' } ∧ Kp H (upd H ps (.lst xs')) := by
  have k : Kp H (upd H ps (.lst xs')) := kp_lst Oth.put r.hs
  refine ⟨⟨?_, ?_, ?_, upd_same, ?_, r.nt, r.ns, r.ts, r.e.tups k.tup, Paired.imp' r.o fun _ _ q => q.tups k.tup, Paired.imp' r.t fun _ _ q => q.kp k, Paired.imp' h fun _ _ q => q.kp k, r.w.tups k.tup, r.kd⟩, k⟩
  · rw [upd_ne r.gne.2.2.1]; exact r.obj
  · rw [upd_ne r.ns]; exact r.ho
  · rw [upd_ne r.ts]; exact r.ht
  · rw [upd_ne r.wne.2.2]; exact r.hw
theorem RunA.todos (r : RunA CR CF CS H g dx po pt ps pw ev xo xt xs kvs c) {xt' : List V} {todo' : List It} (h : Paired (RI CF CS H) todo' xt'.reverse) : RunA CR CF CS (upd H pt (.lst xt')) g dx po pt ps pw ev xo xt' xs kvs { c with todo := todo' } ∧ Kp H (upd H pt (.lst xt')) := by
  have k : Kp H (upd H pt (.lst xt')) := kp_lst Oth.put r.ht
  refine ⟨⟨?_, ?_, upd_same, ?_, ?_, r.nt, r.ns, r.ts, r.e.tups k.tup, Paired.imp' r.o fun _ _ q => q.tups k.tup, Paired.imp' h fun _ _ q => q.kp k, Paired.imp' r.s fun _ _ q => q.kp k, r.w.tups k.tup, r.kd⟩, k⟩
  · rw [upd_ne r.gne.2.1]; exact r.obj
  · rw [upd_ne r.nt]; exact r.ho
  · rw [upd_ne r.ts.symm]; exact r.hs
  · rw [upd_ne r.wne.2.1]; exact r.hw
theorem RunA.print (r : RunA CR CF CS H g dx po pt ps pw ev xo xt xs kvs c) {xo' : List V} {outs' : List (Int × Sh)} (h : Paired (RO H) outs' xo') : RunA CR CF CS (upd H po (.lst xo')) g dx po pt ps pw ev xo' xt xs kvs { c with outs := outs' } ∧ Kp H (upd H po (.lst xo')) := by
  have k : Kp H (upd H po (.lst xo')) := kp_lst Oth.put r.ho
  refine ⟨⟨?_, upd_same, ?_, ?_, ?_, r.nt, r.ns, r.ts, r.e.tups k.tup, Paired.imp' h fun _ _ q => q.tups k.tup, Paired.imp' r.t fun _ _ q => q.kp k, Paired.imp' r.s fun _ _ q => q.kp k, r.w.tups k.tup, r.kd⟩, k⟩
  · rw [upd_ne r.gne.1]; exact r.obj
  · rw [upd_ne r.nt.symm]; exact r.ht
  · rw [upd_ne r.ns.symm]; exact r.hs
  · rw [upd_ne r.wne.1]; exact r.hw
theorem RunA.setw (r : RunA CR CF CS H g dx po pt ps pw ev xo xt xs kvs c) {kvs' : List (List Key × V)} {f : Tab} (h : RW H kvs' f) (hd : KD kvs') : RunA CR CF CS (upd H pw (.dT kvs')) g dx po pt ps pw ev xo xt xs kvs' { c with tb := f } ∧ Kp H (upd H pw (.dT kvs')) := by
  have k : Kp H (upd H pw (.dT kvs')) := kp_dict Oth.put r.hw
  refine ⟨⟨?_, ?_, ?_, ?_, upd_same, r.nt, r.ns, r.ts, r.e.tups k.tup, Paired.imp' r.o fun _ _ q => q.tups k.tup, Paired.imp' r.t fun _ _ q => q.kp k, Paired.imp' r.s fun _ _ q => q.kp k, h.tups k.tup, hd⟩, k⟩
  · rw [upd_ne r.gne.2.2.2]; exact r.obj
  · rw [upd_ne r.wne.1.symm]; exact r.ho
  · rw [upd_ne r.wne.2.1.symm]; exact r.ht
  · rw [upd_ne r.wne.2.2.symm]; exact r.hs
/-- fuel or end change -/
theorem RunA.field (r : RunA CR CF CS H g dx po pt ps pw ev xo xt xs kvs c) {fl : Int} {ev' : V} {ed : Option Ed} (h : REd H ed ev') : RunA CR CF CS (upd H g (.ins CR dx (fdG fl po ev' pt ps pw))) g dx po pt ps pw ev' xo xt xs kvs { c with fuel := fl, ed := ed } ∧ Kp H (upd H g (.ins CR dx (fdG fl po ev' pt ps pw))) := by
  have k : Kp H (upd H g (.ins CR dx (fdG fl po ev' pt ps pw))) := kp_run Oth.put r.obj
  refine ⟨⟨upd_same, ?_, ?_, ?_, ?_, r.nt, r.ns, r.ts, h.tups k.tup, Paired.imp' r.o fun _ _ q => q.tups k.tup, Paired.imp' r.t fun _ _ q => q.kp k, Paired.imp' r.s fun _ _ q => q.kp k, r.w.tups k.tup, r.kd⟩, k⟩
  · rw [upd_ne r.gne.1.symm]; exact r.ho
  · rw [upd_ne r.gne.2.1.symm]; exact r.ht
  · rw [upd_ne r.gne.2.2.1.symm]; exact r.hs
  · rw [upd_ne r.gne.2.2.2.symm]; exact r.hw
end
theorem rw_put {H : Hp} {kvs : List (List Key × V)} {f : Tab} {k : Int} {q : Str} {r : Option TE} {v : V} (h : RW H kvs f) (hq : q ∈ kindsL) (hr : RR H r v) : RW H (putK kvs (ky k q) v) (tset f k q r) := by
  refine ⟨fun k' q' => ?_, fun k' q' hn => ?_⟩
  · unfold tset
    rw [valV_put]
    by_cases e : k' = k ∧ q' = q
    · obtain ⟨rfl, rfl⟩ := e
      rw [if_pos ⟨rfl, rfl⟩, if_pos rfl]
      exact hr
    · rw [if_neg e, if_neg (fun z => e (ky_inj z))]
      exact h.1 k' q'
  · unfold tset
    rw [if_neg]
    · exact h.2 k' q' hn
    · rintro ⟨_, rfl⟩
      exact hn hq
theorem look_no {fs : List (Str × V)} {m : Str} (ks : List Str) (hk : fs.map Prod.fst = ks) (h : decide (m ∈ ks) = false) : fs.lookup m = none := by
  have h : m ∉ ks := of_decide_eq_false h
  rw [← hk] at h
  clear hk
  induction fs with
  | nil => rfl
  | cons e r ih =>
    rw [List.map_cons, List.mem_cons, not_or] at h
    obtain ⟨k, v⟩ := e
    rw [List.lookup_cons]
    have : (m == k) = false := by simpa using h.1
    rw [this]
    exact ih h.2
theorem noG {fl : Int} {po pt ps pw : Addr} {ev : V} {m : Str} (h : decide (m ∈ (["fuel", "outputs", "end", "stack", "settings", "todo"] : List Str)) = false) : (fdG fl po ev pt ps pw).lookup m = none := look_no _ rfl h
theorem noS {k : Int} {n d : V} {m : Str} (h : decide (m ∈ (["level", "names", "about"] : List Str)) = false) : (fdP k n d).lookup m = none := look_no _ rfl h
theorem mk_i {H : Hp} {p dx C : Addr} (np : H p = none) (ndx : H dx = none) : Same H (upd (upd H dx (.own p)) p (.ins C dx [])) ∧ (upd (upd H dx (.own p)) p (.ins C dx [])) p = some (.ins C dx []) :=
  ⟨fun b o e => by
    rw [upd_ne (ne_of_none e np), upd_ne (ne_of_none e ndx)]
    exact e, upd_same⟩
end Zt

set_option Elab.async false
set_option linter.all false
set_option maxRecDepth 100000
set_option maxHeartbeats 4000000
namespace Zt
open PySem L2 PySem.Spec PyProof.Rows Zg
local macro_rules | `(tactic| walk_at "sq") => `(tactic| first | exact SqL.of (by assumption) | exact .inl (SqL.of (by assumption)) | assumption | exact SqT.of (by assumption) | exact .inr (SqT.of (by assumption)) | exact SqL.of upd_same | exact .inl (SqL.of upd_same))
local macro_rules | `(tactic| walk_at "hp") => `(tactic| first | assumption | exact upd_same)
local macro_rules | `(tactic| walk_at "cond") => `(tactic| first | assumption | rfl | (apply And.intro <;> assumption) | decide | (show (0 : Int) < _; decide) | (apply And.intro <;> decide) | (apply Or.inr; apply And.intro <;> decide) | (apply Or.inl; apply And.intro <;> decide))
local macro_rules | `(tactic| walk_at "s") => `(tactic| first
  | (with_reducible apply iteF)
  | (with_reducible apply iteT)
  | (apply e1; rfl)
  | (apply e2; rfl; rfl)
  | (apply e4; rfl; rfl; walk_at "sq"; rfl)
  | (apply e4; rfl; rfl; walk_at "hp"; rfl)
  | (apply e2; rfl; walk_at "sq")
  | (apply eOr; rfl)
  | (apply eOrR; rfl)
  | (apply eTru; walk_at "sq")
  | (apply eTruT; walk_at "sq")
  | (apply And.intro; (walk_at "cond"))
  | (apply iteTr; rfl)
  | (apply iteFr; rfl)
  | (apply iteD; all_goals intro _)
  | (with_reducible apply tNext_i))
local macro_rules | `(tactic| walk_at "g") => `(tactic| repeat' ((fail_if_success (with_reducible apply seq_i)); (fail_if_success (with_reducible apply cut_i)); (walk_at "s")))
local macro_rules | `(tactic| walk_at "size") => `(tactic| first | (simp only [List.length_cons, List.length_nil]; decide) | decide)
local macro_rules | `(tactic| walk_at "newp") => `(tactic| (intro p hp; generalize hH : upd _ _ _ = H1; have st := new_facts hp hH; clear hH; obtain ⟨s, t⟩ := st))
local macro_rules | `(tactic| walk_at "new") => `(tactic| walk_at "g"; first | (apply And.intro; (focus (apply small100; walk_at "size")); walk_at "newp") | (walk_at "newp"))

theorem great {n : Nat} (h : n ≤ 10000000) : n ≤ sizeLine := Nat.le_trans h (by decide)
theorem Paired.at {α β : Type} {F : α → β → Prop} : ∀ {l₁ : List α} {l₂ : List β} {i : Nat}, Paired F l₁ l₂ → i < l₁.length → ∃ a b, l₁[i]? = some a ∧ l₂[i]? = some b ∧ F a b
  | _, _, _, .nil, h => by simp at h
  | _, _, 0, .cons r _, _ => ⟨_, _, rfl, rfl, r⟩
  | _, _, i + 1, .cons _ t, h => by
    obtain ⟨a, b, h1, h2, h3⟩ := Paired.at (i := i) t (by simpa using h)
    exact ⟨a, b, by simpa using h1, by simpa using h2, h3⟩
theorem Paired.of_ix {α β : Type} {F : α → β → Prop} : ∀ {l₁ : List α} {l₂ : List β}, l₁.length = l₂.length → (∀ (i : Nat) a b, l₁[i]? = some a → l₂[i]? = some b → F a b) → Paired F l₁ l₂
  | [], [], _, _ => .nil
  | a :: r, b :: t, h, f => .cons (f 0 a b rfl rfl) (Paired.of_ix (by simpa using h) fun i x y h1 h2 => f (i + 1) x y (by simpa using h1) (by simpa using h2))
  | [], _ :: _, h, _ => by simp at h
  | _ :: _, [], h, _ => by simp at h
theorem Paired.ix {α β : Type} {F : α → β → Prop} {l₁ : List α} {l₂ : List β} {i : Nat} {a : α} {b : β} (p : Paired F l₁ l₂) (h1 : l₁[i]? = some a) (h2 : l₂[i]? = some b) : F a b := by
  obtain ⟨a', b', e1, e2, f⟩ := Paired.at (i := i) p (List.getElem?_eq_some_iff.mp h1).1
  rw [h1] at e1
  rw [h2] at e2
  cases e1
  cases e2
  exact f
theorem Paired.app {α β : Type} {F : α → β → Prop} : ∀ {a : List α} {b : List β} {c : List α} {d : List β}, Paired F a b → Paired F c d → Paired F (a ++ c) (b ++ d)
  | _, _, _, _, .nil, h => h
  | _, _, _, _, .cons r t, h => .cons r (Paired.app t h)
theorem Paired.snoc' {α β : Type} {F : α → β → Prop} {l : List α} {m : List β} {a : α} {b : β} (p : Paired F l m) (h : F a b) : Paired F (l ++ [a]) (m ++ [b]) := Paired.app p (.cons h .nil)
theorem sIx_nat {n d i : Nat} (h : i ≤ n) : HT.sIx n d (some (i : Int)) = i := by
  rw [HT.sIx_nat, Nat.min_eq_left h]
theorem cut_whole {xs : List V} {lo hi : Option Int} (h : HT.sIx xs.length 0 lo = 0 ∧ HT.sIx xs.length xs.length hi = xs.length) : cutV xs lo hi = xs := by
  unfold cutV
  rw [h.1, h.2, List.drop_zero, Nat.sub_zero, List.take_length]
theorem slA_i {K : PySem.W.Frag} {H : Hp} {a : Addr} {xs : List V} {lo hi : Option Int} {Q : VK} (h : H a = some (.tup xs)) (q : ∀ p H', Same H H' → H' p = some (.tup (cutV xs lo hi)) → Q (.ref p) H') : rSlA K (.ref a) lo hi H Q := by
  refine ⟨a, xs, rfl, SqT.of h, fun hw => ?_, fun _ p hp => q p _ (Same.new hp) upd_same⟩
  refine q a H (Same.refl _) ?_
  rw [cut_whole hw]
  exact h
theorem noPart_i {σ : L2.St} {H : Hp} {Q : Option Int → Hp → Prop} (h : Q none H) : tNoPart σ H Q := h
theorem cut_from {xs : List V} {j : Nat} (h : j ≤ xs.length) : cutV xs (some (j : Int)) none = xs.drop j := by
  unfold cutV
  have e : HT.sIx xs.length 0 (some (j : Int)) = j := sIx_nat (n := xs.length) (d := 0) (i := j) h
  rw [e, HT.sIx_none]
  rw [List.take_of_length_le (by rw [List.length_drop]; omega)]
/-- a comprehension whose turns leave all but the new list as it was -/
theorem lc_rel {J : L2.It} {n : Nat} {G : Hp → Prop} {Y : Nat → Hp → V → Hp → Prop} (w : Walk J n G Y) {g : TG} {te : L2.TE} {vs : List Nat} {σ : L2.St} {H1 : Hp} {D : Addr} {Qd : Hp → Prop} (R : Nat → Hp → V → Prop) (hD : H1 D = none) (hn : n ≤ 100000)
    (mono : ∀ i H H' v, Oth D H H' → (∃ l, H D = some (.lst l)) → R i H v → R i H' v) (hG : ∀ H, Same H1 H → G H)
    (hs : ∀ i x H H' (Q : VK) (N : Hp → Prop), i < n → Same H1 H → Y i H x H' → (∀ y H4, Same H H4 → R i H4 y → Q y H4) → g x (wipe σ vs) H' fun σ2 H2 => wipe σ2 vs = wipe σ vs ∧ tYes σ2 H2 fun b H3 => if b = true then te σ2 H3 Q else N H3)
    (hd : ∀ H ys, Same H1 H → H D = some (.lst ys) → ys.length = n → (∀ i y, ys[i]? = some y → R i H y) → Qd H) :
    ∃ W : Nat → Nat → Hp → Prop, (∃ m, W 0 m (upd H1 D (.lst []))) ∧ ∀ i m H, W i m H →
      (J.stop i H ∧ Qd H) ∨ (J.go i H ∧ ∃ Nx : Hp → Prop, (∀ H', Nx H' → ∃ m', m' < m ∧ W (i + 1) m' H') ∧ ∀ x H', J.yld i H x H' → g x (wipe σ vs) H' fun σ2 H2 => wipe σ2 vs = wipe σ vs ∧ tYes σ2 H2 fun b H3 =>
        if b = true then te σ2 H3 fun y H4 => ∃ acc, H4 D = some (.lst acc) ∧ acc.length < sizeLine ∧ Nx (upd H4 D (.lst (acc ++ [y]))) else Nx H3) := by
  refine lc_it w (fun i H => Same H1 H ∧ ∃ ys, H D = some (.lst ys) ∧ ys.length = i ∧ ∀ j y, ys[j]? = some y → R j H y) ⟨Same.new hD, [], upd_same, rfl, fun j y e => by simp at e⟩ (fun i H _ p => hG H p.1) ?_ (fun H p => ?_)
  · rintro i x H H' hi ⟨s, ys, hys, hl, hr⟩ y
    refine hs i x H H' _ _ hi s y fun v H4 s4 r4 => ?_
    have h4 := s4 _ _ hys
    refine ⟨ys, h4, Nat.lt_of_lt_of_le (by omega) (small100 hn), fun b o e => ?_, ys ++ [v], upd_same, by rw [List.length_append, hl] <;> rfl, fun j z ez => ?_⟩
    · rw [upd_ne (ne_of_none e hD)]
      exact s4 _ _ (s b o e)
    · have oo : Oth D H4 (upd H4 D (.lst (ys ++ [v]))) := Oth.put
      by_cases hj : j < ys.length
      · rw [List.getElem?_append_left hj] at ez
        exact mono _ _ _ _ oo ⟨_, h4⟩ (mono _ _ _ _ (Same.oth s4) ⟨_, hys⟩ (hr j z ez))
      · rw [List.getElem?_append_right (by omega)] at ez
        have ej : j - ys.length = 0 := by
          have := (List.getElem?_eq_some_iff.mp ez).1
          simp at this
          omega
        rw [ej] at ez
        cases ez
        have : j = i := by omega
        subst this
        exact mono _ _ _ _ oo ⟨_, h4⟩ r4
  · obtain ⟨s, ys, hys, hl, hr⟩ := p
    exact hd H ys s hys hl hr
theorem yes_i {te : L2.TE} {σ : L2.St} {H : Hp} {Q : VK} {N : Hp → Prop} (h : te σ H Q) : tYes σ H fun b H3 => if b = true then te σ H3 Q else N H3 := by
  show (if true = true then te σ H Q else N H)
  rw [if_pos rfl]
  exact h
theorem ys_of {α β : Type} {dr : List α} {ys : List β} {f : α → β} (hl : ys.length = dr.length) (h : ∀ (i : Nat) y, ys[i]? = some y → ∃ d, dr[i]? = some d ∧ y = f d) : ys = dr.map f := by
  refine List.ext_getElem? fun i => ?_
  rw [List.getElem?_map]
  by_cases hi : i < ys.length
  · obtain ⟨d, e1, e2⟩ := h i _ (List.getElem?_eq_getElem hi)
    rw [List.getElem?_eq_getElem hi, e1, e2] <;> rfl
  · rw [List.getElem?_eq_none (by omega), List.getElem?_eq_none (by omega)] <;> rfl
/-! ### promises -/
inductive spPInit (C : Addr) : List V → Hp → VK → XK → Prop
  | mk {p dx : Addr} {k : Int} {n d : V} {H : Hp} {Q : VK} {E : XK} (hp : H p = some (.ins C dx [])) (q : ∀ H', Oth p H H' → H' p = some (.ins C dx (fdP k n d)) → Q .non H') : spPInit C [.ref p, .int k, n, d] H Q E
inductive spFInit (C : Addr) : List V → Hp → VK → XK → Prop
  | mk {p dx : Addr} {k : Int} {u s : V} {H : Hp} {Q : VK} {E : XK} (hp : H p = some (.ins C dx [])) (q : ∀ H', Oth p H H' → H' p = some (.ins C dx (fdF k u s)) → Q .non H') : spFInit C [.ref p, .int k, u, s] H Q E
inductive spRunInit (CR : Addr) : List V → Hp → VK → XK → Prop
  | mk {p dx : Addr} {fl : Int} {H : Hp} {Q : VK} {E : XK} (hp : H p = some (.ins CR dx [])) (q : ∀ H', Oth p H H' → ∀ po ps pw, H' p = some (.ins CR dx [("fuel", .int fl), ("outputs", .ref po), ("end", .non), ("stack", .ref ps), ("settings", .ref pw)]) → H' po = some (.lst []) → H' ps = some (.lst []) → H' pw = some (.dT []) → po ≠ ps → Q .non H') : spRunInit CR [.ref p, .int fl] H Q E
inductive spWalkInit (CR CF CS : Addr) : List V → Hp → VK → XK → Prop
  | mk {p dx : Addr} {fl : Int} {H : Hp} {Q : VK} {E : XK} (hp : H p = some (.ins CR dx [])) (q : ∀ H', Oth p H H' → RunAt CR CF CS H' p ⟨[], [], fl, [], fun _ _ => none, none⟩ → Q .non H') : spWalkInit CR CF CS [.ref p, .int fl] H Q E
inductive spBind (CF CS : Addr) : List V → Hp → VK → XK → Prop
  | mk {s u : V} {x : Str} {v : Vl} {k : Int} {en : En} {ab : Ab} {H : Hp} {Q : VK} {E : XK} (rs : RS CF CS H k en ab s) (rv : RV CF CS H v u) (q : ∀ s' H', Same H H' → RS CF CS H' k (.cons x v en) ab s' → Q s' H') : spBind CF CS [s, .str x, u] H Q E
section
variable {P : Program} {w : World} {K : PySem.W.Frag} {mg : Str → Option Value} {base : Heap} {aFunction aRun aRunB aPlace aForms aActions aOps : Addr} {k : Nat}
theorem ok_pinit (T : Tx w K mg aFunction aRun aRunB aPlace aForms aActions aOps) : MkX P w K mg base (k + 1) aPlace ["self", "level", "names", "about"] (spPInit aPlace) := by
  refine T.d_Place___init__.ok sc_Place___init__ (fun vs H Q E h => by cases h; rfl) (fun f cdv A outer s H vs Q E hr h => ?_)
  rcases h with ⟨hp, q⟩
  rename_i p dx lv n d
  refine ⟨_, (pss_cons (ps_fld (pv 0) (pv 1) rfl)
    (pss_cons (ps_fld (pv 0) (pv 2) rfl)
    (pss_one (ps_fld (pv 0) (pv 3) rfl)))), ?_⟩
  refine seq_i fun N hN => ?_
  walk_at "g"
  refine ⟨p, aPlace, dx, [], rfl, hp, T.cl_Place, T.n_Place_level, (by decide), ?_⟩
  refine hN _ _ ?_
  clear hN
  refine seq_i fun N hN => ?_
  walk_at "g"
  refine ⟨p, aPlace, dx, _, rfl, upd_same, T.cl_Place, T.n_Place_names, (by show 1 < 1000; decide), ?_⟩
  refine hN _ _ ?_
  walk_at "g"
  refine ⟨p, aPlace, dx, _, rfl, upd_same, T.cl_Place, T.n_Place_about, (by show 2 < 1000; decide), ?_⟩
  exact q _ (Oth.put.trans (Oth.put.trans Oth.put)) upd_same
theorem ok_finit (T : Tx w K mg aFunction aRun aRunB aPlace aForms aActions aOps) : MkX P w K mg base (k + 1) aFunction ["self", "level", "body", "scope"] (spFInit aFunction) := by
  refine T.d_Function___init__.ok sc_Function___init__ (fun vs H Q E h => by cases h; rfl) (fun f cdv A outer s H vs Q E hr h => ?_)
  rcases h with ⟨hp, q⟩
  rename_i p dx n u s'
  refine ⟨_, (pss_cons (ps_fld (pv 0) (pv 1) rfl)
    (pss_cons (ps_fld (pv 0) (pv 2) rfl)
    (pss_one (ps_fld (pv 0) (pv 3) rfl)))), ?_⟩
  refine seq_i fun N hN => ?_
  walk_at "g"
  refine ⟨p, aFunction, dx, [], rfl, hp, T.cl_Function, T.n_Function_level, (by decide), ?_⟩
  refine hN _ _ ?_
  clear hN
  refine seq_i fun N hN => ?_
  walk_at "g"
  refine ⟨p, aFunction, dx, _, rfl, upd_same, T.cl_Function, T.n_Function_body, (by show 1 < 1000; decide), ?_⟩
  refine hN _ _ ?_
  walk_at "g"
  refine ⟨p, aFunction, dx, _, rfl, upd_same, T.cl_Function, T.n_Function_scope, (by show 2 < 1000; decide), ?_⟩
  exact q _ (Oth.put.trans (Oth.put.trans Oth.put)) upd_same
theorem ok_rinit (T : Tx w K mg aFunction aRun aRunB aPlace aForms aActions aOps) : BsX P w K mg base (k + 1) aRunB "__init__" ["self", "fuel"] (spRunInit aRun) := by
  refine T.b_Run.ok sc_Run___init__ (fun vs H Q E h => by cases h; rfl) (fun f cdv A outer s H vs Q E hr h => ?_)
  rcases h with ⟨hp, q⟩
  rename_i p dx fl
  refine ⟨_, (pss_cons (ps_fld (pv 0) (pv 1) rfl)
    (pss_cons (ps_fld (pv 0) (pe_lst pa_nil) rfl)
    (pss_cons (ps_fld (pv 0) (pe_non) rfl)
    (pss_cons (ps_fld (pv 0) (pe_lst pa_nil) rfl)
    (pss_one (ps_fld (pv 0) (pe_dnewT) rfl)))))), ?_⟩
  refine seq_i fun N hN => ?_
  walk_at "g"
  refine ⟨p, aRun, dx, [], rfl, hp, T.cl_Run, T.n_Run_fuel, (by decide), ?_⟩
  refine hN _ _ ?_
  clear hN
  have o1 : Oth p H (upd H p (.ins aRun dx (putF "fuel" (V.int fl) []))) := Oth.put
  have h1 : (upd H p (.ins aRun dx (putF "fuel" (V.int fl) []))) p = some (.ins aRun dx [("fuel", V.int fl)]) := upd_same
  generalize upd H p (.ins aRun dx (putF "fuel" (V.int fl) [])) = H1 at *
  refine seq_i fun N hN => ?_
  walk_at "new"; rename_i po f2 H2 s2 t2
  have npo : p ≠ po := ne_of_none h1 f2
  refine ⟨_, rfl, p, aRun, dx, _, rfl, s2 _ _ h1, T.cl_Run, T.n_Run_outputs, (by show 1 < 1000; decide), ?_⟩
  refine hN _ _ ?_
  clear hN
  have h2 : (upd H2 p (.ins aRun dx (putF "outputs" (V.ref po) [("fuel", V.int fl)]))) p = some (.ins aRun dx [("fuel", V.int fl), ("outputs", V.ref po)]) := upd_same
  have t2 : (upd H2 p (.ins aRun dx (putF "outputs" (V.ref po) [("fuel", V.int fl)]))) po = some (.lst []) := by rw [upd_ne npo.symm]; exact t2
  have o2 : Oth p H (upd H2 p (.ins aRun dx (putF "outputs" (V.ref po) [("fuel", V.int fl)]))) := o1.trans ((Same.oth s2).trans Oth.put)
  generalize upd H2 p (.ins aRun dx (putF "outputs" (V.ref po) [("fuel", V.int fl)])) = H3 at *
  refine seq_i fun N hN => ?_
  walk_at "g"
  refine ⟨p, aRun, dx, _, rfl, h2, T.cl_Run, T.n_Run_end, (by show 2 < 1000; decide), ?_⟩
  refine hN _ _ ?_
  clear hN
  have h3 : (upd H3 p (.ins aRun dx (putF "end" V.non [("fuel", V.int fl), ("outputs", V.ref po)]))) p = some (.ins aRun dx [("fuel", V.int fl), ("outputs", V.ref po), ("end", V.non)]) := upd_same
  have t3 : (upd H3 p (.ins aRun dx (putF "end" V.non [("fuel", V.int fl), ("outputs", V.ref po)]))) po = some (.lst []) := by rw [upd_ne npo.symm]; exact t2
  have o3 : Oth p H (upd H3 p (.ins aRun dx (putF "end" V.non [("fuel", V.int fl), ("outputs", V.ref po)]))) := o2.trans Oth.put
  generalize upd H3 p (.ins aRun dx (putF "end" V.non [("fuel", V.int fl), ("outputs", V.ref po)])) = H6 at *
  refine seq_i fun N hN => ?_
  walk_at "new"; rename_i ps f7 H7 s7 t7
  have nps : p ≠ ps := ne_of_none h3 f7
  have nos : po ≠ ps := ne_of_none t3 f7
  refine ⟨_, rfl, p, aRun, dx, _, rfl, s7 _ _ h3, T.cl_Run, T.n_Run_stack, (by show 3 < 1000; decide), ?_⟩
  refine hN _ _ ?_
  clear hN
  have h5 : (upd H7 p (.ins aRun dx (putF "stack" (V.ref ps) [("fuel", V.int fl), ("outputs", V.ref po), ("end", V.non)]))) p = some (.ins aRun dx [("fuel", V.int fl), ("outputs", V.ref po), ("end", V.non), ("stack", V.ref ps)]) := upd_same
  have u4 : (upd H7 p (.ins aRun dx (putF "stack" (V.ref ps) [("fuel", V.int fl), ("outputs", V.ref po), ("end", V.non)]))) po = some (.lst []) := by rw [upd_ne npo.symm]; exact s7 _ _ t3
  have u7 : (upd H7 p (.ins aRun dx (putF "stack" (V.ref ps) [("fuel", V.int fl), ("outputs", V.ref po), ("end", V.non)]))) ps = some (.lst []) := by rw [upd_ne nps.symm]; exact t7
  have o5 : Oth p H (upd H7 p (.ins aRun dx (putF "stack" (V.ref ps) [("fuel", V.int fl), ("outputs", V.ref po), ("end", V.non)]))) := o3.trans ((Same.oth s7).trans Oth.put)
  generalize upd H7 p (.ins aRun dx (putF "stack" (V.ref ps) [("fuel", V.int fl), ("outputs", V.ref po), ("end", V.non)])) = H8 at *
  walk_at "newp"; rename_i pw f9 H9 s9 t9
  have npw : p ≠ pw := ne_of_none h5 f9
  refine ⟨_, rfl, p, aRun, dx, _, rfl, s9 _ _ h5, T.cl_Run, T.n_Run_settings, (by show 4 < 1000; decide), ?_⟩
  refine q _ (o5.trans ((Same.oth s9).trans Oth.put)) po ps pw upd_same ?_ ?_ ?_ nos
  · rw [upd_ne npo.symm]; exact s9 _ _ u4
  · rw [upd_ne nps.symm]; exact s9 _ _ u7
  · rw [upd_ne npw.symm]; exact t9
theorem ok_winit (T : Tx w K mg aFunction aRun aRunB aPlace aForms aActions aOps) (G_Run___init__ : BsX P w K mg base k aRunB "__init__" ["self", "fuel"] (spRunInit aRun)) : MkX P w K mg base (k + 1) aRun ["self", "fuel"] (spWalkInit aRun aFunction aPlace) := by
  refine T.d_Walk___init__.ok sc_Walk___init__ (fun vs H Q E h => by cases h; rfl) (fun f cdv A outer s H vs Q E hr h => ?_)
  rcases h with ⟨hp, q⟩
  rename_i p dx fl
  refine ⟨_, (pss_cons (ps_expr (pe_binit G_Run___init__ hr rfl T.mgb_Run (pa_cons (pv 0) (pa_cons (pv 1) pa_nil))))
    (pss_one (ps_fld (pv 0) (pe_lst pa_nil) rfl))), ?_⟩
  refine seq_i fun N hN => ?_
  walk_at "g"
  refine spRunInit.mk hp fun H1 o1 po ps pw h1 h2 h3 h4 nos => ?_
  refine hN _ _ ?_
  clear hN
  walk_at "new"; rename_i pt f9 H9 s9 t9
  have npt : p ≠ pt := ne_of_none h1 f9
  refine ⟨_, rfl, p, aRun, dx, _, rfl, s9 _ _ h1, T.cl_Run, T.n_Walk_todo, (by show 5 < 1000; decide), ?_⟩
  have npo : p ≠ po := ne_of h1 h2 (by intro q; cases q)
  have nps : p ≠ ps := ne_of h1 h3 (by intro q; cases q)
  have npw : p ≠ pw := ne_of h1 h4 (by intro q; cases q)
  refine q _ (o1.trans ((Same.oth s9).trans Oth.put)) ⟨dx, po, pt, ps, pw, .non, [], [], [], [], upd_same, ?_, ?_, ?_, ?_, ne_of_none h2 f9, nos, (ne_of_none h3 f9).symm, rfl, .nil, .nil, .nil, ⟨fun k q => rfl, fun k q _ => rfl⟩, .nil, fun k hk => by cases hk⟩
  · rw [upd_ne npo.symm]; exact s9 _ _ h2
  · rw [upd_ne npt.symm]; exact t9
  · rw [upd_ne nps.symm]; exact s9 _ _ h3
  · rw [upd_ne npw.symm]; exact s9 _ _ h4
theorem ok_bind (T : Tx w K mg aFunction aRun aRunB aPlace aForms aActions aOps) (G_Place___init__ : MkX P w K mg base k aPlace ["self", "level", "names", "about"] (spPInit aPlace)) : MtX P w K mg base (k + 1 + 1) aPlace "bind" ["self", "name", "value"] (spBind aFunction aPlace) := by
  refine T.d_Place_bind.ok sc_Place_bind (fun vs H Q E h => by cases h; rfl) (fun f cdv A outer s H vs Q E hr h => ?_)
  rcases h with ⟨rs, rv, q⟩
  rename_i sv u x v lv en ab
  refine ⟨_, (pss_one (ps_ret (pe_mk G_Place___init__ hr rfl T.mg_Place (pa_cons (pe_fld (pv 0) rfl) (pa_cons (pe_tup (pa_cons (pv 1) (pa_cons (pv 2) (pa_cons (pe_fld (pv 0) rfl) pa_nil)))) (pa_cons (pe_fld (pv 0) rfl) pa_nil)))))), ?_⟩
  obtain ⟨sa, dx, n, d, rfl, h1, h2, h3⟩ := rs
  walk_at "g"
  refine ⟨sa, aPlace, dx, _, _, rfl, h1, T.cl_Place, T.n_Place_level, rfl, ?_⟩
  walk_at "g"
  refine ⟨sa, aPlace, dx, _, _, rfl, h1, T.cl_Place, T.n_Place_names, rfl, ?_⟩
  walk_at "new"; rename_i p2 f2 H2 s2 t2
  walk_at "g"
  refine ⟨sa, aPlace, dx, _, _, rfl, s2 _ _ h1, T.cl_Place, T.n_Place_about, rfl, ?_⟩
  intro pn dn np ndn nen
  obtain ⟨s3, t3⟩ := mk_i (C := aPlace) np ndn
  generalize upd (upd H2 dn (.own pn)) pn (.ins aPlace dn []) = H3 at s3 t3 ⊢
  refine spPInit.mk t3 fun H4 o4 t4 => ⟨rfl, ?_⟩
  have s24 : Same H2 H4 := own_same np s3 o4
  have k : Kp H H4 := Same.kp (Same.trans s2 s24)
  refine q _ H4 (Same.trans s2 s24) ⟨pn, dn, _, _, rfl, t4, ?_, h3.kp k⟩
  rw [RE]
  exact ⟨p2, u, n, rfl, s24 _ _ t2, rv.kp k, h2.kp k⟩
end
theorem str_dec {a b : Str} (h : decide (V.str a = V.str b) = true) : a = b := V.str.inj (of_decide_eq_true h)
theorem str_decF {a b : Str} (h : decide (V.str a = V.str b) = false) : ¬ a = b := fun e => of_decide_eq_false h (congrArg V.str e)
/-! ### the run's own methods -/
/-- the config c at g becomes c' -/
def Act (CR CF CS : Addr) (H : Hp) (g : Addr) (c' : Cf) (Q : V → Hp → Prop) (v : V) : Prop := ∀ H', RunAt CR CF CS H' g c' → Kp H H' → Q v H'
inductive spVisitM (CR CF CS : Addr) : List V → Hp → VK → XK → Prop
  | mk {g : Addr} {v s : V} {c : Cf} {e : TE} {en : En} {ab : Ab} {k : Int} {H : Hp} {Q : VK} {E : XK} (r : RunAt CR CF CS H g c) (rp : RT H e v) (rs : RS CF CS H k en ab s) (hl : c.todo.length ≤ 20000) (q : Act CR CF CS H g (c.go e en ab k) Q .non) : spVisitM CR CF CS [.ref g, v, s] H Q E
inductive spAll (CR CF CS : Addr) : List V → Hp → VK → XK → Prop
  | mk {g t : Addr} {s : V} {us : List V} {c : Cf} {es : List TE} {en : En} {ab : Ab} {k : Int} {H : Hp} {Q : VK} {E : XK} (r : RunAt CR CF CS H g c) (ht : H t = some (.tup us)) (rp : Paired (RT H) es us) (rs : RS CF CS H k en ab s) (he : es.length ≤ 10) (hl : c.todo.length ≤ 19000)
    (q : Act CR CF CS H g { c with todo := es.map (fun e => .visit e en ab k) ++ c.todo } Q .non) : spAll CR CF CS [.ref g, .ref t, s] H Q E
inductive spStep (CR CF CS : Addr) : List V → Hp → VK → XK → Prop
  | mk {g : Addr} {c : Cf} {H : Hp} {Q : VK} {E : XK} (r : RunAt CR CF CS H g c) (q0 : c.fuel = 0 → Act CR CF CS H g { c with ed := some .more } Q (.bl false)) (q1 : c.fuel ≠ 0 → Act CR CF CS H g { c with fuel := c.fuel - 1 } Q (.bl true)) : spStep CR CF CS [.ref g] H Q E
inductive spStuck (CR CF CS : Addr) : List V → Hp → VK → XK → Prop
  | mk {g : Addr} {k : Int} {c : Cf} {H : Hp} {Q : VK} {E : XK} (r : RunAt CR CF CS H g c) (q : Act CR CF CS H g { c with ed := some (.stuck k) } Q .non) : spStuck CR CF CS [.ref g, .int k] H Q E
inductive spShown (CF CS : Addr) : List V → Hp → VK → XK → Prop
  | mk {u : V} {v : Vl} {H : Hp} {Q : VK} {E : XK} (r : RV CF CS H v u) (q : ∀ u' H', Same H H' → shV H' (shw v) u' → Q u' H') : spShown CF CS [u] H Q E
inductive spSetOn (CR CF CS : Addr) : List V → Hp → VK → XK → Prop
  | mk {g p : Addr} {lv : Int} {q' : Str} {u : V} {r' : TE} {c : Cf} {H : Hp} {Q : VK} {E : XK} (r : RunAt CR CF CS H g c) (hl : c.stk.length ≤ 20000) (hp : H p = some (.tup [.int lv, .str q'])) (hk : lvok lv = true) (hq : q' ∈ kindsL) (rr : RT H r' u) (q : Act CR CF CS H g { c with stk := .int 0 :: c.stk, tb := tset c.tb lv q' (some r') } Q .non) : spSetOn CR CF CS [.ref g, .ref p, u] H Q E
inductive spSetFor (CR CF CS : Addr) : List V → Hp → VK → XK → Prop
  | mk {g p : Addr} {lv : Int} {q' : Str} {u v s : V} {r' : TE} {c : Cf} {e : TE} {en : En} {ab : Ab} {k : Int} {H : Hp} {Q : VK} {E : XK} (r : RunAt CR CF CS H g c) (hl : c.todo.length ≤ 19000) (hp : H p = some (.tup [.int lv, .str q'])) (hk : lvok lv = true) (hq : q' ∈ kindsL) (rr : RT H r' u) (rp : RT H e v) (rs : RS CF CS H k en ab s)
    (q : Act CR CF CS H g { c with todo := .visit e en ab k :: .rest lv q' (c.tb lv q') :: c.todo, tb := tset c.tb lv q' (some r') } Q .non) : spSetFor CR CF CS [.ref g, .ref p, u, v, s] H Q E
inductive spRestore (CR CF CS : Addr) : List V → Hp → VK → XK → Prop
  | mk {g t p : Addr} {lv : Int} {q' : Str} {u : V} {r' : Option TE} {c : Cf} {H : Hp} {Q : VK} {E : XK} (r : RunAt CR CF CS H g c) (ht : H t = some (.tup [.ref p, u])) (hp : H p = some (.tup [.int lv, .str q'])) (hk : lvok lv = true) (hq : q' ∈ kindsL) (rr : RR H r' u) (q : Act CR CF CS H g { c with tb := tset c.tb lv q' r' } Q .non) : spRestore CR CF CS [.ref g, .ref t] H Q E
inductive spOpF (CR CF CS : Addr) (it : Int → It) : List V → Hp → VK → XK → Prop
  | mk {g : Addr} {k : Int} {c c' : Cf} {H : Hp} {Q : VK} {E : XK} (r : RunAt CR CF CS H g c) (b : Bd c) (h : stepIt c (it k) = some c') (q : Act CR CF CS H g c' Q .non) : spOpF CR CF CS it [.ref g, .int k] H Q E
/-- a chain of pairs -/
inductive Ch (H : Hp) (x : Str) : Nat → V → V → Prop
  | here {a : Addr} {u t : V} (h : H a = some (.tup [.str x, u, t])) : Ch H x 0 (.ref a) u
  | next {n : Nat} {a : Addr} {y : Str} {w t u : V} (h : H a = some (.tup [.str y, w, t])) (hy : y ≠ x) (c : Ch H x n t u) : Ch H x (n + 1) (.ref a) u
inductive spLook : List V → Hp → VK → XK → Prop
  | mk {n : Nat} {x : Str} {v u : V} {H : Hp} {Q : VK} {E : XK} (c : Ch H x n v u) (q : Q u H) : spLook [v, .str x] H Q E
inductive Er where
  | value (s : Sh) | stuck (k : Int) | more
def REr (H : Hp) : Er → V → Prop
  | .value s, v => ∃ a u, v = .ref a ∧ H a = some (.tup [.str "value", u]) ∧ shV H s u
  | .stuck k, v => ∃ a, v = .ref a ∧ H a = some (.tup [.str "stuck", .int k])
  | .more, v => ∃ a, v = .ref a ∧ H a = some (.tup [.str "more"])
theorem REr.tups {H H' : Hp} (h : Tups H H') : ∀ {x : Er} {v : V}, REr H x v → REr H' x v
  | .value _, _, ⟨a, u, e, q, s⟩ => ⟨a, u, e, h _ _ q, s.tups h⟩
  | .stuck _, _, ⟨a, e, q⟩ => ⟨a, e, h _ _ q⟩
  | .more, _, ⟨a, e, q⟩ => ⟨a, e, h _ _ q⟩
def RRun (H : Hp) (outs : List (Int × Sh)) (er : Er) (v : V) : Prop := ∃ p po ev xo, v = .ref p ∧ H p = some (.tup [.ref po, ev]) ∧ H po = some (.tup xo) ∧ Paired (RO H) outs xo ∧ REr H er ev
/-- how the configuration ends -/
def endOf (c : Cf) : Option Er := match c.ed with
  | some (.stuck k) => some (.stuck k)
  | some .more => some .more
  | none => match c.stk with
    | v :: _ => some (.value (shw v))
    | [] => none
/-- a run that has ended -/
def DoneAt (CR : Addr) (H : Hp) (g : Addr) (outs : List (Int × Sh)) (er : Er) : Prop := ∃ dx po pt ps pw ev fl xo, H g = some (.ins CR dx (fdG fl po ev pt ps pw)) ∧ H po = some (.lst xo) ∧ Paired (RO H) outs xo ∧ REr H er ev
inductive spFinish (CR CF CS : Addr) : List V → Hp → VK → XK → Prop
  | mk {g : Addr} {c : Cf} {v : Vl} {rest : List Vl} {H : Hp} {Q : VK} {E : XK} (r : RunAt CR CF CS H g c) (hs : c.stk = v :: rest) (q : ∀ H', Kp H H' → DoneAt CR H' g c.outs (.value (shw v)) → Q .non H') : spFinish CR CF CS [.ref g] H Q E
inductive spGoing (CR CF CS : Addr) : List V → Hp → VK → XK → Prop
  | mk {g : Addr} {c : Cf} {H : Hp} {Q : VK} {E : XK} (r : RunAt CR CF CS H g c) (he : (c.ed.isNone && !c.todo.isEmpty) = false → ∃ er, endOf c = some er) (q1 : (c.ed.isNone && !c.todo.isEmpty) = true → Q (.bl true) H) (q2 : ∀ er H', (c.ed.isNone && !c.todo.isEmpty) = false → endOf c = some er → Kp H H' → DoneAt CR H' g c.outs er → Q (.bl false) H') : spGoing CR CF CS [.ref g] H Q E
inductive spResult (CR CF CS : Addr) : List V → Hp → VK → XK → Prop
  | mk {g : Addr} {outs : List (Int × Sh)} {er : Er} {H : Hp} {Q : VK} {E : XK} (r : DoneAt CR H g outs er) (q : ∀ v H', Kp H H' → RRun H' outs er v → Q v H') : spResult CR CF CS [.ref g] H Q E
theorem walk_revT {K : PySem.W.Frag} {a : Addr} {xs : List V} : Walk (RT.ItvT K a xs.length) xs.length (fun H => SqT K H a xs) (fun i H x H' => H' = H ∧ xs[xs.length - 1 - i]? = some x) :=
  ⟨fun i H hi h => ⟨hi, xs, xs[xs.length - 1 - i]'(by omega), h, List.getElem?_eq_getElem _⟩, fun H h => Nat.le_refl _, fun i H x H' hi h y => ⟨y.1, y.2 xs h⟩⟩
theorem at_neg1 {α : Type} {xs : List α} {u : α} : atI (xs ++ [u]) (-1) = some u := by
  unfold atI ixN
  have hl : (xs ++ [u]).length = xs.length + 1 := by simp
  rw [hl, if_neg (by omega), if_pos (by omega)]
  have e : (-1 + ((xs.length + 1 : Nat) : Int)).toNat = xs.length := by omega
  show (xs ++ [u])[(-1 + ((xs.length + 1 : Nat) : Int)).toNat]? = _
  rw [e]
  simp
theorem RunA.popS {CR CF CS : Addr} {H : Hp} {g dx po pt ps pw : Addr} {ev : V} {xo xt xs : List V} {kvs : List (List Key × V)} {c : Cf} {v : Vl} {rest : List Vl} (r : RunA CR CF CS H g dx po pt ps pw ev xo xt xs kvs c) (hc : c.stk = v :: rest) :
    ∃ u xs', xs = xs' ++ [u] ∧ RV CF CS H v u ∧ xs[xs.length - 1]? = some u ∧ xs.dropLast = xs' ∧ RunA CR CF CS (upd H ps (.lst xs')) g dx po pt ps pw ev xo xt xs' kvs { c with stk := rest } ∧ Kp H (upd H ps (.lst xs')) := by
  have hs := r.s
  rw [hc] at hs
  generalize hx : xs.reverse = ys at hs
  cases hs with
  | cons rv hs =>
    rename_i u t
    have ex : xs = t.reverse ++ [u] := by
      have := congrArg List.reverse hx
      rw [List.reverse_reverse, List.reverse_cons] at this
      exact this
    obtain ⟨r2, k2⟩ := r.stack (xs' := t.reverse) (stk' := rest) (by rw [List.reverse_reverse]; exact hs)
    refine ⟨u, t.reverse, ex, rv, ?_, ?_, r2, k2⟩
    · rw [ex]
      simp
    · rw [ex]
      simp
theorem ch_E {CF CS : Addr} {H : Hp} {x : Str} {v : Vl} : ∀ {en : En} {n : V}, RE CF CS H en n → lookE en x = some v → ∃ m u, Ch H x m n u ∧ RV CF CS H v u
  | .nil, _, _, h => by cases h
  | .cons y w r, n, re, h => by
    rw [RE] at re
    obtain ⟨a, u, t, rfl, h1, h2, h3⟩ := re
    unfold lookE at h
    split at h
    · rename_i e
      subst e
      cases h
      exact ⟨0, u, .here h1, h2⟩
    · rename_i e
      obtain ⟨m, u', c, q⟩ := ch_E h3 h
      exact ⟨m + 1, u', .next h1 e c, q⟩
def isFn : Vl → Bool
  | .fn _ _ _ _ _ => true
  | .int _ => false
theorem isF {K : PySem.W.Frag} {CF CS : Addr} {H : Hp} {v : Vl} {u : V} {G : Bool → Prop} (i : IsF K CF) (cl : Cls K CF) (r : RV CF CS H v u) (q : G (isFn v)) : ∃ (x c : V) (t u' : Value) (b : Bool), [u, .ref CF] = [x, c] ∧ ClsV c u' ∧ TyX K H x t ∧ PySem.W.kitOne K t u' = some b ∧ G b := by
  cases v with
  | int j =>
    rw [RV] at r
    subst r
    exact ⟨_, _, .type "int", .ref CF, false, rfl, .own CF, .base (.int j), i.ne, q⟩
  | fn k x b en ab =>
    rw [RV] at r
    obtain ⟨a, dx, pb, u', s, dx2, n, d, rfl, h1, h2⟩ := r
    exact ⟨_, _, .ref CF, .ref CF, true, rfl, .own CF, .base (.ins h1 cl i.ha i.hn i.htk i.hm), i.me, q⟩
section
variable {P : Program} {w : World} {K : PySem.W.Frag} {mg : Str → Option Value} {base : Heap} {aFunction aRun aRunB aPlace aForms aActions aOps : Addr} {k : Nat}
theorem ok_visitM (T : Tx w K mg aFunction aRun aRunB aPlace aForms aActions aOps) : MtX P w K mg base (k + 1) aRun "visit" ["self", "expression", "scope"] (spVisitM aRun aFunction aPlace) := by
  refine T.d_Walk_visit.ok sc_Walk_visit (fun vs H Q E h => by cases h; rfl) (fun f cdv A outer s H vs Q E hr h => ?_)
  rcases h with ⟨r, rp, rs, hl, q⟩
  rename_i g v sv c e en ab lv
  refine ⟨_, (pss_one (ps_expr (pe_bm PySem.F.plainAttrs_list PySem.F.slot_list_append PySem.F.type_list_append mt_append (pe_fld (pv 0) rfl) (pa_cons (pe_tup (pa_cons (pe_str) (pa_cons (pv 1) (pa_cons (pv 2) pa_nil)))) pa_nil)))), ?_⟩
  obtain ⟨dx, po, pt, ps, pw, ev, xo, xt, xs, kvs, r⟩ := r
  have hlt := Paired.length' r.t
  rw [List.length_reverse] at hlt
  walk_at "g"
  refine ⟨g, aRun, dx, _, _, rfl, r.obj, T.cl_Run, T.n_Walk_todo, rfl, ?_⟩
  refine ⟨.inl ⟨rfl, _, SqL.of r.ht⟩, ?_⟩
  walk_at "new"; rename_i p2 f2 H2 s2 t2
  have r2 := r.mono s2
  walk_at "g"
  refine ⟨_, _, _, rfl, rfl, r2.ht, great' (by omega), ?_⟩
  have k2 := Same.kp s2
  have hit : RI aFunction aPlace H2 (.visit e en ab lv) (.ref p2) := ⟨p2, "visit", v, sv, rfl, t2, rfl, rp.tups k2.tup, rs.kp k2⟩
  obtain ⟨r3, k3⟩ := r2.todos (xt' := xt ++ [.ref p2]) (todo' := .visit e en ab lv :: c.todo) (by rw [List.reverse_append]; exact .cons hit r2.t)
  exact q _ ⟨_, _, _, _, _, _, _, _, _, _, r3⟩ (k2.trans k3)
theorem ok_step (T : Tx w K mg aFunction aRun aRunB aPlace aForms aActions aOps) : MtX P w K mg base (k + 1) aRun "step" ["self"] (spStep aRun aFunction aPlace) := by
  refine T.d_Run_step.ok sc_Run_step (fun vs H Q E h => by cases h; rfl) (fun f cdv A outer s H vs Q E hr h => ?_)
  rcases h with ⟨r, q0, q1⟩
  rename_i g c
  refine ⟨_, (pss_cons (ps_if (pt_cmpR op_eq (pe_fld (pv 0) rfl) (pe_int) (nomark _)) (pss_cons (ps_fld (pv 0) (pe_tup (pa_cons (pe_str) pa_nil)) rfl)
    (pss_one (ps_ret (pe_bl)))) pss_nil)
    (pss_cons (ps_fldaug (pv 0) (pe_int) in_sub)
    (pss_one (ps_ret (pe_bl))))), ?_⟩
  obtain ⟨dx, po, pt, ps, pw, ev, xo, xt, xs, kvs, r⟩ := r
  refine seq_i fun N hN => ?_
  walk_at "g"
  refine ⟨g, aRun, dx, _, _, rfl, r.obj, T.cl_Run, T.n_Run_fuel, rfl, ?_⟩
  walk_at "g"
  · rename_i e
    have e0 : c.fuel = 0 := V.int.inj (of_decide_eq_true e)
    refine seq_i fun N2 hN2 => ?_
    walk_at "new"; rename_i p2 f2 H2 s2 t2
    have r2 := r.mono s2
    refine ⟨_, rfl, g, aRun, dx, _, rfl, r2.obj, T.cl_Run, T.n_Run_end, (by show 6 < 1000; decide), ?_⟩
    refine hN2 _ _ ?_
    walk_at "g"
    obtain ⟨r3, k3⟩ := r2.field (fl := c.fuel) (ev' := .ref p2) (ed := some .more) ⟨p2, rfl, t2⟩
    exact q0 e0 _ ⟨_, _, _, _, _, _, _, _, _, _, r3⟩ ((Same.kp s2).trans k3)
  · rename_i e
    have e0 : c.fuel ≠ 0 := fun z => of_decide_eq_false e (congrArg V.int z)
    refine hN _ _ ?_
    clear hN
    refine seq_i fun N hN => ?_
    refine ⟨_, rfl, g, aRun, dx, _, _, rfl, r.obj, T.cl_Run, T.n_Run_fuel, rfl, ?_⟩
    walk_at "g"
    refine ⟨dx, _, r.obj, (by show 6 < 1000; decide), ?_⟩
    refine hN _ _ ?_
    walk_at "g"
    obtain ⟨r3, k3⟩ := r.field (fl := c.fuel - 1) (ev' := ev) (ed := c.ed) r.e
    exact q1 e0 _ ⟨_, _, _, _, _, _, _, _, _, _, r3⟩ k3
theorem ok_stuck (T : Tx w K mg aFunction aRun aRunB aPlace aForms aActions aOps) : MtX P w K mg base (k + 1) aRun "get_stuck" ["self", "level"] (spStuck aRun aFunction aPlace) := by
  refine T.d_Run_get_stuck.ok sc_Run_get_stuck (fun vs H Q E h => by cases h; rfl) (fun f cdv A outer s H vs Q E hr h => ?_)
  rcases h with ⟨r, q⟩
  rename_i g n c
  refine ⟨_, (pss_one (ps_fld (pv 0) (pe_tup (pa_cons (pe_str) (pa_cons (pv 1) pa_nil))) rfl)), ?_⟩
  obtain ⟨dx, po, pt, ps, pw, ev, xo, xt, xs, kvs, r⟩ := r
  walk_at "new"; rename_i p2 f2 H2 s2 t2
  have r2 := r.mono s2
  refine ⟨_, rfl, g, aRun, dx, _, rfl, r2.obj, T.cl_Run, T.n_Run_end, (by show 6 < 1000; decide), ?_⟩
  obtain ⟨r3, k3⟩ := r2.field (fl := c.fuel) (ev' := .ref p2) (ed := some (.stuck n)) ⟨p2, rfl, t2⟩
  exact q _ ⟨_, _, _, _, _, _, _, _, _, _, r3⟩ ((Same.kp s2).trans k3)
theorem ok_shown (T : Tx w K mg aFunction aRun aRunB aPlace aForms aActions aOps) : FnX P w K mg base (k + 1) "_shown" ["value"] (spShown aFunction aPlace) := by
  refine T.d__shown.ok sc__shown (fun vs H Q E h => by cases h; rfl) (fun f cdv A outer s H vs Q E hr h => ?_)
  rcases h with ⟨r, q⟩
  rename_i u v
  refine ⟨_, (pss_one (ps_ret (pe_ifExp (pt_val (pe_callB call_isi rfl T.z_isinstance (by decide +kernel) (pa_cons (pv 0) (pa_cons (pe_glob (v := .ref _) rfl T.mg_Function rfl) pa_nil)))) (pe_tup (pa_cons (pe_str) (pa_cons (pe_fld (pv 0) rfl) pa_nil))) (pv 0)))), ?_⟩
  walk_at "g"
  refine isF T.i_F T.cl_Function r ?_
  cases v with
  | int i =>
    rw [RV] at r
    subst r
    walk_at "g"
    exact q _ _ (Same.refl _) rfl
  | fn n x b en ab =>
    rw [RV] at r
    obtain ⟨a, dx, pb, u', s', dx2, n', d, rfl, h1, h2⟩ := r
    walk_at "g"
    refine ⟨a, aFunction, dx, _, _, rfl, h1, T.cl_Function, T.n_Function_level, rfl, ?_⟩
    walk_at "new"; rename_i p2 f2 H2 s2 t2
    exact q _ _ s2 ⟨p2, rfl, t2⟩
theorem ok_look (T : Tx w K mg aFunction aRun aRunB aPlace aForms aActions aOps) : FnX P w K mg base (k + 1) "look_up" ["names", "name"] spLook := by
  refine T.d_look_up.ok sc_look_up (fun vs H Q E h => by cases h; rfl) (fun f cdv A outer s H vs Q E hr h => ?_)
  rcases h with ⟨c, q⟩
  rename_i n x v u
  refine ⟨_, (pss_cons (ps_while PassesOwn.never (pt_cmpR op_ne (pe_ix ix_tup (pv 0) (pe_int) (fun _ _ => rfl)) (pv 1) (nomark _)) (pss_one (ps_set (i := 0) sc_look_up.nd rfl (.inl rfl) (pe_ix ix_tup (pv 0) (pe_int) (fun _ _ => rfl)))))
    (pss_one (ps_ret (pe_ix ix_tup (pv 0) (pe_int) (fun _ _ => rfl))))), ?_⟩
  refine seq_i fun N hN => ?_
  refine ⟨fun m σ H2 => ∃ v, σ = [some v, some (.str x)] ∧ H2 = H ∧ Ch H x m v u, ⟨n, v, rfl, rfl, c⟩, ?_⟩
  rintro m σ H2 ⟨v, rfl, rfl, c⟩
  cases c with
  | here h =>
    rename_i a t
    walk_at "g"
    · rename_i e
      simp at e
    refine hN _ _ ?_
    walk_at "g"
    exact q
  | next h hy c =>
    rename_i m a y w' t
    walk_at "g"
    · refine ⟨fun σ' H' => ∃ m', m' < m + 1 ∧ ∃ v, σ' = [some v, some (.str x)] ∧ H' = H2 ∧ Ch H2 x m' v u, fun _ _ h => h, ?_⟩
      walk_at "g"
      exact ⟨m, by omega, t, rfl, rfl, c⟩
    · rename_i e
      exact absurd (str_dec (by simpa using e)) hy
end
end Zt

set_option Elab.async false
set_option linter.all false
set_option maxRecDepth 100000
set_option maxHeartbeats 4000000
namespace Zt
open PySem L2 PySem.Spec PyProof.Rows Zg
local macro_rules | `(tactic| walk_at "sq") => `(tactic| first | exact SqL.of (by assumption) | exact .inl (SqL.of (by assumption)) | assumption | exact SqT.of (by assumption) | exact .inr (SqT.of (by assumption)) | exact SqL.of upd_same | exact .inl (SqL.of upd_same))
local macro_rules | `(tactic| walk_at "hp") => `(tactic| first | assumption | exact upd_same)
local macro_rules | `(tactic| walk_at "cond") => `(tactic| first | assumption | rfl | (apply And.intro <;> assumption) | decide | (show (0 : Int) < _; decide) | (apply And.intro <;> decide) | (apply Or.inr; apply And.intro <;> decide) | (apply Or.inl; apply And.intro <;> decide))
local macro_rules | `(tactic| walk_at "s") => `(tactic| first
  | (with_reducible apply iteF)
  | (with_reducible apply iteT)
  | (apply e1; rfl)
  | (apply e2; rfl; rfl)
  | (apply e4; rfl; rfl; walk_at "sq"; rfl)
  | (apply e4; rfl; rfl; walk_at "hp"; rfl)
  | (apply e2; rfl; walk_at "sq")
  | (apply eOr; rfl)
  | (apply eOrR; rfl)
  | (apply eTru; walk_at "sq")
  | (apply eTruT; walk_at "sq")
  | (apply And.intro; (walk_at "cond"))
  | (apply iteTr; rfl)
  | (apply iteFr; rfl)
  | (apply iteD; all_goals intro _)
  | (with_reducible apply tNext_i))
local macro_rules | `(tactic| walk_at "g") => `(tactic| repeat' ((fail_if_success (with_reducible apply seq_i)); (fail_if_success (with_reducible apply cut_i)); (walk_at "s")))
local macro_rules | `(tactic| walk_at "size") => `(tactic| first | (simp only [List.length_cons, List.length_nil]; decide) | decide)
local macro_rules | `(tactic| walk_at "newp") => `(tactic| (intro p hp; generalize hH : upd _ _ _ = H1; have st := new_facts hp hH; clear hH; obtain ⟨s, t⟩ := st))
local macro_rules | `(tactic| walk_at "new") => `(tactic| walk_at "g"; first | (apply And.intro; (focus (apply small100; walk_at "size")); walk_at "newp") | (walk_at "newp"))

section
variable {P : Program} {w : World} {K : PySem.W.Frag} {mg : Str → Option Value} {base : Heap} {aFunction aRun aRunB aPlace aForms aActions aOps : Addr} {k : Nat}
theorem ok_finish (T : Tx w K mg aFunction aRun aRunB aPlace aForms aActions aOps) (G__shown : FnX P w K mg base k "_shown" ["value"] (spShown aFunction aPlace)) : MtX P w K mg base (k + 1) aRun "finish" ["self"] (spFinish aRun aFunction aPlace) := by
  refine T.d_Run_finish.ok sc_Run_finish (fun vs H Q E h => by cases h; rfl) (fun f cdv A outer s H vs Q E hr h => ?_)
  rcases h with ⟨r, hst, q⟩
  rename_i g c v rest
  refine ⟨_, (pss_one (ps_fld (pv 0) (pe_tup (pa_cons (pe_str) (pa_cons (pe_fn G__shown hr rfl (pa_cons (pe_ix ix_list (pe_fld (pv 0) rfl) (pe_un un_neg (pe_int)) (fun _ _ => rfl)) pa_nil)) pa_nil))) rfl)), ?_⟩
  obtain ⟨dx, po, pt, ps, pw, ev, xo, xt, xs, kvs, r⟩ := r
  obtain ⟨u, xs', ex, rv, _⟩ := r.popS hst
  walk_at "g"
  refine ⟨g, aRun, dx, _, _, rfl, r.obj, T.cl_Run, T.n_Run_stack, rfl, ?_⟩
  walk_at "g"
  refine ⟨ps, _, _, _, rfl, rfl, SqL.of r.hs, (by rw [ex]; exact at_neg1), ?_⟩
  refine spShown.mk rv fun u' H2 s2 sh => ?_
  walk_at "new"; rename_i p3 f3 H3 s3 t3
  have s23 := Same.trans s2 s3
  refine ⟨_, rfl, g, aRun, dx, _, rfl, s23 _ _ r.obj, T.cl_Run, T.n_Run_end, (by show 6 < 1000; decide), ?_⟩
  have k3 : Kp H3 (upd H3 g (.ins aRun dx (putF "end" (V.ref p3) (fdG c.fuel po ev pt ps pw)))) := kp_run Oth.put (s23 _ _ r.obj)
  refine q _ ((Same.kp s23).trans k3) ⟨dx, po, pt, ps, pw, .ref p3, c.fuel, xo, upd_same, ?_, Paired.imp' r.o fun _ _ q => (q.tups (Same.tups s23)).tups k3.tup, ?_⟩
  · rw [upd_ne r.gne.1.symm]
    exact s23 _ _ r.ho
  · exact REr.tups k3.tup (x := .value (shw v)) ⟨p3, u', rfl, t3, sh.tups (Same.tups s3)⟩
theorem ok_going (T : Tx w K mg aFunction aRun aRunB aPlace aForms aActions aOps) (G_Run_finish : MtX P w K mg base k aRun "finish" ["self"] (spFinish aRun aFunction aPlace)) : MtX P w K mg base (k + 1) aRun "is_going" ["self"] (spGoing aRun aFunction aPlace) := by
  refine T.d_Walk_is_going.ok sc_Walk_is_going (fun vs H Q E h => by cases h; rfl) (fun f cdv A outer s H vs Q E hr h => ?_)
  rcases h with ⟨r, he, q1, q2⟩
  rename_i g c
  refine ⟨_, (Evl.pss_cut (ps_if (PW.pt (pw_and (pt_cmpR op_isN (pe_fld (pv 0) rfl) (pe_non) (nomark _)) (pw_and1 (pt_not (pt_truth (pe_fld (pv 0) rfl) (by intro _; rfl)))))) (pss_one (ps_expr (pe_mt0 T.cl_Walk G_Run_finish hr (pv 0)))) pss_nil)
    (pss_one (ps_ret (pe_cmpR op_isN (pe_fld (pv 0) rfl) (pe_non) (nomark _))))), ?_⟩
  obtain ⟨dx, po, pt, ps, pw, ev, xo, xt, xs, kvs, r⟩ := r
  have hlt := Paired.length' r.t
  rw [List.length_reverse] at hlt
  refine cut_i (fun σ' H' => σ' = [some (.ref g)] ∧ ((c.ed.isNone && !c.todo.isEmpty) = true ∧ H' = H ∨ ∃ er, (c.ed.isNone && !c.todo.isEmpty) = false ∧ endOf c = some er ∧ Kp H H' ∧ DoneAt aRun H' g c.outs er)) (fun N hN => ?_) ?_
  · walk_at "g"
    refine ⟨g, aRun, dx, _, _, rfl, r.obj, T.cl_Run, T.n_Run_end, rfl, ?_⟩
    refine ⟨rfl, ?_⟩
    have hev := r.e
    cases hed : c.ed with
    | none =>
      rw [hed] at hev
      cases (show ev = .non from hev)
      walk_at "g"
      refine ⟨g, aRun, dx, _, _, rfl, r.obj, T.cl_Run, T.n_Walk_todo, rfl, ?_⟩
      refine eTru (SqL.of r.ht) ?_
      cases htd : c.todo with
      | nil =>
        rw [htd] at hlt
        cases List.eq_nil_of_length_eq_zero hlt
        obtain ⟨er, her⟩ := he (by rw [hed, htd]; rfl)
        obtain ⟨v, rest, hst, ee⟩ : ∃ v rest, c.stk = v :: rest ∧ er = .value (shw v) := by
          unfold endOf at her
          rw [hed] at her
          cases hst : c.stk with
          | nil => rw [hst] at her; cases her
          | cons v rest =>
            rw [hst] at her
            cases her
            exact ⟨v, rest, rfl, rfl⟩
        subst ee
        walk_at "g"
        refine ⟨g, dx, _, rfl, r.obj, noG (by decide +kernel), ?_⟩
        walk_at "g"
        refine spFinish.mk ⟨_, _, _, _, _, _, _, _, _, _, r⟩ hst fun H' k' d' => ?_
        exact hN _ _ ⟨rfl, .inr ⟨_, by rw [hed, htd]; rfl, her, k', d'⟩⟩
      | cons i l =>
        rw [htd] at hlt
        have e : xt.isEmpty = false := by
          cases xt with
          | nil => simp at hlt
          | cons _ _ => rfl
        rw [e]
        walk_at "g"
        exact hN _ _ ⟨rfl, .inl ⟨by rw [hed, htd]; rfl, rfl⟩⟩
    | some d =>
      rw [hed] at hev
      have he1 : ∃ a er, ev = .ref a ∧ endOf c = some er ∧ REr H er ev := by
        unfold endOf
        rw [hed]
        cases d with
        | stuck j =>
          obtain ⟨a, e, h⟩ := hev
          exact ⟨a, _, e, rfl, a, e, h⟩
        | more =>
          obtain ⟨a, e, h⟩ := hev
          exact ⟨a, _, e, rfl, a, e, h⟩
      obtain ⟨a, er, rfl, her, hre⟩ := he1
      refine ⟨_, rfl, ?_⟩
      refine iteFr rfl ?_
      walk_at "g"
      exact hN _ _ ⟨rfl, .inr ⟨er, by rw [hed]; rfl, her, Kp.refl _, dx, po, pt, ps, pw, _, _, xo, r.obj, r.ho, r.o, hre⟩⟩
  · rintro σ' H' ⟨rfl, ⟨h1, rfl⟩ | ⟨er, h1, h2, k1, hd⟩⟩
    · have hev := r.e
      cases hed : c.ed with
      | some d => rw [hed] at h1; cases h1
      | none =>
        rw [hed] at hev
        cases (show ev = .non from hev)
        walk_at "g"
        refine ⟨g, aRun, dx, _, _, rfl, r.obj, T.cl_Run, T.n_Run_end, rfl, ?_⟩
        refine ⟨rfl, ?_⟩
        exact q1 h1
    · obtain ⟨dx2, po2, pt2, ps2, pw2, ev2, fl2, xo2, g1, g2, g3, g4⟩ := id hd
      have e2 : ∃ a, ev2 = .ref a := by
        cases er with
        | value s => obtain ⟨a, u, e, _⟩ := g4; exact ⟨a, e⟩
        | stuck j => obtain ⟨a, e, _⟩ := g4; exact ⟨a, e⟩
        | more => obtain ⟨a, e, _⟩ := g4; exact ⟨a, e⟩
      obtain ⟨a, rfl⟩ := e2
      walk_at "g"
      refine ⟨g, aRun, dx2, _, _, rfl, g1, T.cl_Run, T.n_Run_end, rfl, ?_⟩
      refine ⟨rfl, ?_⟩
      exact q2 er _ h1 h2 k1 hd
theorem ok_result (T : Tx w K mg aFunction aRun aRunB aPlace aForms aActions aOps) : MtX P w K mg base (k + 1) aRun "result" ["self"] (spResult aRun aFunction aPlace) := by
  refine T.d_Run_result.ok sc_Run_result (fun vs H Q E h => by cases h; rfl) (fun f cdv A outer s H vs Q E hr h => ?_)
  rcases h with ⟨r, q⟩
  rename_i g outs er
  refine ⟨_, (pss_one (ps_ret (pe_tup (pa_cons (pe_callTy call_tuple_of rfl T.z_tuple (by decide +kernel) (pa_cons (pe_fld (pv 0) rfl) pa_nil)) (pa_cons (pe_fld (pv 0) rfl) pa_nil))))), ?_⟩
  obtain ⟨dx, po, pt, ps, pw, ev, fl, xo, h2, h1, o1, e1⟩ := r
  walk_at "g"
  refine ⟨g, aRun, dx, _, _, rfl, h2, T.cl_Run, T.n_Run_outputs, rfl, ?_⟩
  refine ⟨po, xo, rfl, .inl ⟨SqL.of h1, ?_⟩⟩
  walk_at "newp"; rename_i p2 f2 H2 s2 t2
  walk_at "g"
  refine ⟨g, aRun, dx, _, _, rfl, s2 _ _ h2, T.cl_Run, T.n_Run_end, rfl, ?_⟩
  walk_at "new"; rename_i p3 f3 H3 s3 t3
  have s23 := Same.trans s2 s3
  exact q _ H3 (Same.kp s23) ⟨p3, p2, ev, xo, rfl, t3, s3 _ _ t2, Paired.imp' o1 fun _ _ r => r.tups (Same.tups s23), e1.tups (Same.tups s23)⟩
theorem ok_all (T : Tx w K mg aFunction aRun aRunB aPlace aForms aActions aOps) (G_Walk_visit : MtX P w K mg base k aRun "visit" ["self", "expression", "scope"] (spVisitM aRun aFunction aPlace)) : MtX P w K mg base (k + 1) aRun "visit_all" ["self", "expressions", "scope"] (spAll aRun aFunction aPlace) := by
  refine T.d_Walk_visit_all.ok sc_Walk_visit_all (fun vs H Q E h => by cases h; rfl) (fun f cdv A outer s H vs Q E hr h => ?_)
  rcases h with ⟨r, ht, rp, rs, he, hl, q⟩
  rename_i g t sv us c es en ab lv
  refine ⟨_, (pss_one (ps_for PassesOwn.never rfl (RT.pi_revA rfl T.z_reversed (pv 1)) (pg_name (i := 3) sc_Walk_visit_all.nd rfl (.inl rfl)) (pss_one (ps_expr (pe_mt T.cl_Walk G_Walk_visit hr (pv 0) (pa_cons (pv 3) (pa_cons (pv 2) pa_nil))))))), ?_⟩
  have hul := Paired.length' rp
  walk_at "g"
  refine ⟨t, us, rfl, .inr ⟨SqT.of ht, ?_⟩⟩
  refine for_it walk_revT (fun i σ H' => ∃ u3, σ = [some (.ref g), some (.ref t), some sv, u3] ∧ Kp H H' ∧ RunAt aRun aFunction aPlace H' g { c with todo := ((es.drop (es.length - i)).map (fun e => It.visit e en ab lv)) ++ c.todo }) ⟨none, rfl, Kp.refl H, ?_⟩ (fun i σ H' _ h => SqT.of (h.choose_spec.2.1.tup _ _ ht)) (fun i x σ H' H2 hi h y => ?_) (fun σ H' h => ?_)
  · rw [Nat.sub_zero, List.drop_length]
    exact r
  · obtain ⟨u3, rfl, k1, r1⟩ := h
    obtain ⟨rfl, ex⟩ := y
    obtain ⟨e, he1, re⟩ : ∃ e, es[us.length - 1 - i]? = some e ∧ RT H e x := by
      obtain ⟨e, x', h1, h2, h3⟩ := Paired.at (i := us.length - 1 - i) rp (by omega)
      rw [ex] at h2
      cases h2
      exact ⟨e, h1, h3⟩
    obtain ⟨dx, po, pt, ps, pw, ev, xo, xt, xs, kvs, r1'⟩ := id r1
    walk_at "g"
    refine ⟨g, dx, _, rfl, r1'.obj, noG (by decide +kernel), ?_⟩
    walk_at "g"
    refine spVisitM.mk r1 (re.tups k1.tup) (rs.kp k1) ?_ fun H3 r3 k3 => ?_
    · show (((es.drop (es.length - i)).map (fun e => It.visit e en ab lv)) ++ c.todo).length ≤ 20000
      rw [List.length_append, List.length_map, List.length_drop]
      omega
    · refine ⟨_, rfl, k1.trans k3, ?_⟩
      have e1 : es.drop (es.length - (i + 1)) = e :: es.drop (es.length - i) := by
        have hlt : es.length - (i + 1) < es.length := by omega
        rw [List.drop_eq_getElem_cons hlt]
        have e2 : es.length - (i + 1) + 1 = es.length - i := by omega
        have e3 : us.length - 1 - i = es.length - (i + 1) := by omega
        rw [e2]
        rw [e3, List.getElem?_eq_getElem hlt] at he1
        rw [Option.some.inj he1]
      rw [e1]
      exact r3
  · obtain ⟨u3, rfl, k1, r1⟩ := h
    refine q _ ?_ k1
    rw [hul, Nat.sub_self, List.drop_zero] at r1
    exact r1
end
end Zt

set_option Elab.async false
set_option linter.all false
set_option maxRecDepth 100000
set_option maxHeartbeats 4000000
namespace Zt
open PySem L2 PySem.Spec PyProof.Rows Zg
local macro_rules | `(tactic| walk_at "sq") => `(tactic| first | exact SqL.of (by assumption) | exact .inl (SqL.of (by assumption)) | assumption | exact SqT.of (by assumption) | exact .inr (SqT.of (by assumption)) | exact SqL.of upd_same | exact .inl (SqL.of upd_same))
local macro_rules | `(tactic| walk_at "hp") => `(tactic| first | assumption | exact upd_same)
local macro_rules | `(tactic| walk_at "cond") => `(tactic| first | assumption | rfl | (apply And.intro <;> assumption) | decide | (show (0 : Int) < _; decide) | (apply And.intro <;> decide) | (apply Or.inr; apply And.intro <;> decide) | (apply Or.inl; apply And.intro <;> decide))
local macro_rules | `(tactic| walk_at "s") => `(tactic| first
  | (with_reducible apply iteF)
  | (with_reducible apply iteT)
  | (apply e1; rfl)
  | (apply e2; rfl; rfl)
  | (apply e4; rfl; rfl; walk_at "sq"; rfl)
  | (apply e4; rfl; rfl; walk_at "hp"; rfl)
  | (apply e2; rfl; walk_at "sq")
  | (apply eOr; rfl)
  | (apply eOrR; rfl)
  | (apply eTru; walk_at "sq")
  | (apply eTruT; walk_at "sq")
  | (apply And.intro; (walk_at "cond"))
  | (apply iteTr; rfl)
  | (apply iteFr; rfl)
  | (apply iteD; all_goals intro _)
  | (with_reducible apply tNext_i))
local macro_rules | `(tactic| walk_at "g") => `(tactic| repeat' ((fail_if_success (with_reducible apply seq_i)); (fail_if_success (with_reducible apply cut_i)); (walk_at "s")))
local macro_rules | `(tactic| walk_at "size") => `(tactic| first | (simp only [List.length_cons, List.length_nil]; decide) | decide)
local macro_rules | `(tactic| walk_at "newp") => `(tactic| (intro p hp; generalize hH : upd _ _ _ = H1; have st := new_facts hp hH; clear hH; obtain ⟨s, t⟩ := st))
local macro_rules | `(tactic| walk_at "new") => `(tactic| walk_at "g"; first | (apply And.intro; (focus (apply small100; walk_at "size")); walk_at "newp") | (walk_at "newp"))

inductive spChoose (CR CF CS : Addr) : List V → Hp → VK → XK → Prop
  | mk {g t : Addr} {lk k : Int} {s x0 x1 : V} {c : Cf} {v : Vl} {rest : List Vl} {en : En} {ab : Ab} {e1 e2 : TE} {H : Hp} {Q : VK} {E : XK} (r : RunAt CR CF CS H g c) (hst : c.stk = v :: rest) (hl : c.todo.length ≤ 20000) (ht : H t = some (.tup [x0, x1])) (rs : RS CF CS H k en ab s) (r1 : RT H e1 x0) (r2 : RT H e2 x1)
    (q0 : isFn v = true → Act CR CF CS H g { c with stk := rest, ed := some (.stuck lk) } Q .non) (q1 : ∀ i, v = .int i → Act CR CF CS H g { c with stk := rest, todo := .visit (if i = 0 then e2 else e1) en ab k :: c.todo } Q .non) : spChoose CR CF CS [.ref g, .int lk, .ref t, s] H Q E
inductive spDecide (CR CF CS : Addr) : List V → Hp → VK → XK → Prop
  | mk {g : Addr} {k : Int} {c : Cf} {v : Vl} {rest : List Vl} {H : Hp} {Q : VK} {E : XK} (r : RunAt CR CF CS H g c) (hst : c.stk = v :: rest) (q0 : isFn v = true → Act CR CF CS H g { c with stk := rest, ed := some (.stuck k) } Q .non) (q1 : ∀ i, v = .int i → Act CR CF CS H g { c with stk := rest } Q (.bl (decide (i ≠ 0)))) : spDecide CR CF CS [.ref g, .int k] H Q E
inductive spApply (CR CF CS : Addr) : List V → Hp → VK → XK → Prop
  | mk {g : Addr} {u1 u : V} {c : Cf} {v : Vl} {k : Int} {x : Str} {b : TE} {en : En} {ab : Ab} {H : Hp} {Q : VK} {E : XK} (r : RunAt CR CF CS H g c) (rv1 : RV CF CS H (.fn k x b en ab) u1) (rv : RV CF CS H v u) (hl : c.todo.length ≤ 20000) (q : Act CR CF CS H g { c with todo := .visit b (.cons x v en) ab k :: c.todo } Q .non) : spApply CR CF CS [.ref g, u1, u] H Q E
inductive spOperate (CR CF CS : Addr) : List V → Hp → VK → XK → Prop
  | mk {g : Addr} {k : Int} {x : Str} {it : It} {c c' : Cf} {H : Hp} {Q : VK} {E : XK} (r : RunAt CR CF CS H g c) (b : Bd c) (hw : (∃ o : Opw, x = o.str ∧ it = .oper o k) ∨ (x = "say" ∧ it = .says k)) (h : stepIt c it = some c') (q : Act CR CF CS H g c' Q .non) : spOperate CR CF CS [.ref g, .str x, .int k] H Q E
def SdOps (CR CF CS : Addr) (n : Str) : Option Sp :=
  if n = "_call" then some (spOpF CR CF CS (.oper .call)) else if n = "_sum" then some (spOpF CR CF CS (.oper .sum)) else if n = "_less" then some (spOpF CR CF CS (.oper .less)) else if n = "_say" then some (spOpF CR CF CS .says) else none
theorem step_two {c c' : Cf} {o : Opw} {k : Int} (h : stepIt c (.oper o k) = some c') : ∃ v2 v1 r, c.stk = v2 :: v1 :: r := by
  have h : operIt c k o = some c' := h
  cases hs : c.stk with
  | nil => cases o <;> (simp only [operIt, hs] at h; cases h)
  | cons v2 l =>
    cases l with
    | nil => cases o <;> (simp only [operIt, hs] at h; cases h)
    | cons v1 r => exact ⟨v2, v1, r, rfl⟩
section
variable {P : Program} {w : World} {K : PySem.W.Frag} {mg : Str → Option Value} {base : Heap} {aFunction aRun aRunB aPlace aForms aActions aOps : Addr} {k : Nat}
theorem ok_setOn (T : Tx w K mg aFunction aRun aRunB aPlace aForms aActions aOps) : MtX P w K mg base (k + 1) aRun "set_on" ["self", "key", "setting"] (spSetOn aRun aFunction aPlace) := by
  refine T.d_Run_set_on.ok sc_Run_set_on (fun vs H Q E h => by cases h; rfl) (fun f cdv A outer s H vs Q E hr h => ?_)
  rcases h with ⟨r, hl, hp, hk, hq, rr, q⟩
  rename_i g p lv q' u r' c
  refine ⟨_, (pss_cons (ps_dput (hu_of hr) (pe_fld (pv 0) rfl) (pv 1) (pv 2) rfl)
    (pss_one (ps_expr (pe_bm PySem.F.plainAttrs_list PySem.F.slot_list_append PySem.F.type_list_append mt_append (pe_fld (pv 0) rfl) (pa_cons (pe_int) pa_nil))))), ?_⟩
  obtain ⟨dx, po, pt, ps, pw, ev, xo, xt, xs, kvs, r⟩ := r
  have hls := Paired.length' r.s
  rw [List.length_reverse] at hls
  refine seq_i fun N hN => ?_
  walk_at "g"
  refine ⟨g, aRun, dx, _, _, rfl, r.obj, T.cl_Run, T.n_Run_settings, rfl, ?_⟩
  have hkl := r.kd.len
  refine ⟨_, rfl, pw, _, rfl, DPut.t (k := ky lv q') r.hw hp (great' (by omega)), ?_⟩
  obtain ⟨r1, k1⟩ := r.setw (kvs' := putK kvs (ky lv q') u) (f := tset c.tb lv q' (some r')) (rw_put r.w hq rr) (r.kd.put (mem_kys hk hq))
  generalize upd H pw (.dT (putK kvs (ky lv q') u)) = H1 at *
  refine hN _ _ ?_
  walk_at "g"
  refine ⟨g, aRun, dx, _, _, rfl, r1.obj, T.cl_Run, T.n_Run_stack, rfl, ?_⟩
  refine ⟨.inl ⟨rfl, _, SqL.of r1.hs⟩, ?_⟩
  walk_at "g"
  refine ⟨_, _, _, rfl, rfl, r1.hs, great' (by omega), ?_⟩
  obtain ⟨r2, k2⟩ := r1.stack (xs' := xs ++ [.int 0]) (stk' := .int 0 :: c.stk) (by rw [List.reverse_append]; exact .cons (by rw [RV]) r1.s)
  exact q _ ⟨_, _, _, _, _, _, _, _, _, _, r2⟩ (k1.trans k2)
theorem ok_restore (T : Tx w K mg aFunction aRun aRunB aPlace aForms aActions aOps) : MtX P w K mg base (k + 1) aRun "restore" ["self", "change"] (spRestore aRun aFunction aPlace) := by
  refine T.d_Walk_restore.ok sc_Walk_restore (fun vs H Q E h => by cases h; rfl) (fun f cdv A outer s H vs Q E hr h => ?_)
  rcases h with ⟨r, ht, hp, hk, hq, rr, q⟩
  rename_i g t p lv q' u r' c
  refine ⟨_, (pss_cons (ps_asg (pv 1) (pg_tup rfl (pgs_cons (pg_name (i := 2) sc_Walk_restore.nd rfl (.inl rfl)) (pgs_cons (pg_name (i := 3) sc_Walk_restore.nd rfl (.inl rfl)) pgs_nil))))
    (pss_one (ps_dput (hu_of hr) (pe_fld (pv 0) rfl) (pv 2) (pv 3) rfl))), ?_⟩
  obtain ⟨dx, po, pt, ps, pw, ev, xo, xt, xs, kvs, r⟩ := r
  have hkl := r.kd.len
  refine seq_i fun N hN => ?_
  walk_at "g"
  refine ⟨_, _, rfl, _, _, rfl, rfl, ?_⟩
  refine hN _ _ ?_
  walk_at "g"
  refine ⟨g, aRun, dx, _, _, rfl, r.obj, T.cl_Run, T.n_Run_settings, rfl, ?_⟩
  refine ⟨_, rfl, pw, _, rfl, DPut.t (k := ky lv q') r.hw hp (great' (by omega)), ?_⟩
  obtain ⟨r1, k1⟩ := r.setw (kvs' := putK kvs (ky lv q') u) (f := tset c.tb lv q' r') (rw_put r.w hq rr) (r.kd.put (mem_kys hk hq))
  exact q _ ⟨_, _, _, _, _, _, _, _, _, _, r1⟩ k1
theorem ok_setFor (T : Tx w K mg aFunction aRun aRunB aPlace aForms aActions aOps) (G_Walk_visit : MtX P w K mg base k aRun "visit" ["self", "expression", "scope"] (spVisitM aRun aFunction aPlace)) : MtX P w K mg base (k + 1) aRun "set_for" ["self", "key", "setting", "body", "scope"] (spSetFor aRun aFunction aPlace) := by
  refine T.d_Walk_set_for.ok sc_Walk_set_for (fun vs H Q E h => by cases h; rfl) (fun f cdv A outer s H vs Q E hr h => ?_)
  rcases h with ⟨r, hl, hp, hk, hq, rr, rp, rs, q⟩
  rename_i g p lv q' u v sv r' c e en ab lk
  refine ⟨_, (pss_cons (ps_expr (pe_bm PySem.F.plainAttrs_list PySem.F.slot_list_append PySem.F.type_list_append mt_append (pe_fld (pv 0) rfl) (pa_cons (pe_tup (pa_cons (pe_str) (pa_cons (pe_tup (pa_cons (pv 1) (pa_cons (pe_dget2 (hu_of hr) (pe_fld (pv 0) rfl) (pv 1) (pe_int) ⟨rfl, rfl, rfl, rfl⟩) pa_nil))) (pa_cons (pv 4) pa_nil)))) pa_nil)))
    (pss_cons (ps_expr (pe_mt T.cl_Walk G_Walk_visit hr (pv 0) (pa_cons (pv 3) (pa_cons (pv 4) pa_nil))))
    (pss_one (ps_dput (hu_of hr) (pe_fld (pv 0) rfl) (pv 1) (pv 2) rfl)))), ?_⟩
  obtain ⟨dx, po, pt, ps, pw, ev, xo, xt, xs, kvs, r⟩ := r
  have hlt := Paired.length' r.t
  rw [List.length_reverse] at hlt
  refine seq_i fun N hN => ?_
  walk_at "g"
  refine ⟨g, aRun, dx, _, _, rfl, r.obj, T.cl_Run, T.n_Walk_todo, rfl, ?_⟩
  refine ⟨.inl ⟨rfl, _, SqL.of r.ht⟩, ?_⟩
  walk_at "g"
  refine ⟨g, aRun, dx, _, _, rfl, r.obj, T.cl_Run, T.n_Run_settings, rfl, ?_⟩
  refine ⟨pw, rfl, .inr ⟨kvs, .inl r.hw⟩, ?_⟩
  walk_at "g"
  refine ⟨_, DGet.t (k := ky lv q') r.hw hp, ?_⟩
  have hbe := r.w.1 lv q'
  generalize (valV kvs (ky lv q')).getD (.int 0) = be at hbe ⊢
  walk_at "new"; rename_i p2 f2 H2 s2 t2
  walk_at "new"; rename_i p3 f3 H3 s3 t3
  have s23 := Same.trans s2 s3
  have r3 := r.mono s23
  have k3 := Same.kp s23
  walk_at "g"
  refine ⟨_, _, _, rfl, rfl, r3.ht, great' (by omega), ?_⟩
  have hit : RI aFunction aPlace H3 (.rest lv q' (c.tb lv q')) (.ref p3) := ⟨p3, "restore", .ref p2, sv, rfl, t3, rfl, hq, p2, p, be, rfl, s3 _ _ t2, s23 _ _ hp, hbe.tups (Same.tups s23)⟩
  obtain ⟨r4, k4⟩ := r3.todos (xt' := xt ++ [.ref p3]) (todo' := .rest lv q' (c.tb lv q') :: c.todo) (by rw [List.reverse_append]; exact .cons hit r3.t)
  have k34 := k3.trans k4
  have hp4 := k34.tup _ _ hp
  generalize upd H3 pt (.lst (xt ++ [.ref p3])) = H4 at *
  refine hN _ _ ?_
  clear hN
  refine seq_i fun N hN => ?_
  walk_at "g"
  refine ⟨g, dx, _, rfl, r4.obj, noG (by decide +kernel), ?_⟩
  walk_at "g"
  refine spVisitM.mk ⟨_, _, _, _, _, _, _, _, _, _, r4⟩ (rp.tups k34.tup) (rs.kp k34) (by show (It.rest lv q' (c.tb lv q') :: c.todo).length ≤ 20000; rw [List.length_cons]; omega) fun H5 r5 k5 => ?_
  obtain ⟨dx5, po5, pt5, ps5, pw5, ev5, xo5, xt5, xs5, kvs5, r5⟩ := r5
  have hkl := r5.kd.len
  have hp5 := k5.tup _ _ hp4
  refine hN _ _ ?_
  walk_at "g"
  refine ⟨g, aRun, dx5, _, _, rfl, r5.obj, T.cl_Run, T.n_Run_settings, rfl, ?_⟩
  refine ⟨_, rfl, pw5, _, rfl, DPut.t (k := ky lv q') r5.hw hp5 (great' (by omega)), ?_⟩
  obtain ⟨r6, k6⟩ := r5.setw (kvs' := putK kvs5 (ky lv q') u) (f := tset c.tb lv q' (some r')) (rw_put r5.w hq ((rr.tups k34.tup).tups k5.tup)) (r5.kd.put (mem_kys hk hq))
  exact q _ ⟨_, _, _, _, _, _, _, _, _, _, r6⟩ ((k34.trans k5).trans k6)
theorem ok_decide (T : Tx w K mg aFunction aRun aRunB aPlace aForms aActions aOps) (G_Run_get_stuck : MtX P w K mg base k aRun "get_stuck" ["self", "level"] (spStuck aRun aFunction aPlace)) : MtX P w K mg base (k + 1) aRun "decide" ["self", "level"] (spDecide aRun aFunction aPlace) := by
  refine T.d_Run_decide.ok sc_Run_decide (fun vs H Q E h => by cases h; rfl) (fun f cdv A outer s H vs Q E hr h => ?_)
  rcases h with ⟨r, hst, q0, q1⟩
  rename_i g n c v rest
  refine ⟨_, (pss_cons (ps_set (i := 2) sc_Run_decide.nd rfl (.inl rfl) (pe_bm0 PySem.F.plainAttrs_list PySem.F.slot_list_pop PySem.F.type_list_pop mt_pop (pe_fld (pv 0) rfl)))
    (pss_cons (ps_if (pt_val (pe_callB call_isi rfl T.z_isinstance (by decide +kernel) (pa_cons (pv 2) (pa_cons (pe_glob (v := .ref _) rfl T.mg_Function rfl) pa_nil)))) (pss_cons (ps_expr (pe_mt T.cl_Walk G_Run_get_stuck hr (pv 0) (pa_cons (pv 1) pa_nil)))
    (pss_one (ps_ret (pe_non)))) pss_nil)
    (pss_one (ps_ret (pe_cmpR op_ne (pv 2) (pe_int) (nomark _)))))), ?_⟩
  obtain ⟨dx, po, pt, ps, pw, ev, xo, xt, xs, kvs, r⟩ := r
  obtain ⟨u, xs', ex, rv, hlast, hdrop, r1, k1⟩ := r.popS hst
  refine seq_i fun N hN => ?_
  walk_at "g"
  refine ⟨g, aRun, dx, _, _, rfl, r.obj, T.cl_Run, T.n_Run_stack, rfl, ?_⟩
  refine ⟨.inl ⟨rfl, _, SqL.of r.hs⟩, ?_⟩
  refine ⟨_, _, _, rfl, rfl, r.hs, hlast, ?_⟩
  rw [hdrop]
  have rv1 := rv.kp k1
  have q0 := fun h => fun (H' : Hp) (r : RunAt aRun aFunction aPlace H' g _) (k : Kp (upd H ps (.lst xs')) H') => q0 h H' r (k1.trans k)
  generalize upd H ps (.lst xs') = H1 at *
  refine hN _ _ ?_
  clear hN
  refine seq_i fun N hN => ?_
  walk_at "g"
  refine isF T.i_F T.cl_Function rv1 ?_
  cases v with
  | fn k' x b en' ab' =>
    walk_at "g"
    refine ⟨g, dx, _, rfl, r1.obj, noG (by decide +kernel), ?_⟩
    walk_at "g"
    refine spStuck.mk ⟨_, _, _, _, _, _, _, _, _, _, r1⟩ fun H' r' k' => ?_
    exact q0 rfl H' r' k'
  | int i =>
    rw [RV] at rv1
    subst rv1
    walk_at "g"
    refine hN _ _ ?_
    walk_at "g"
    have e : (!decide (V.int i = V.int 0)) = decide (i ≠ 0) := by
      by_cases z : i = 0
      · subst z; rfl
      · have : ¬ V.int i = V.int 0 := fun q => z (V.int.inj q)
        simp [z, this]
    have qq := q1 i rfl _ ⟨_, _, _, _, _, _, _, _, _, _, r1⟩ k1
    rw [← e] at qq
    exact qq
theorem ok_choose (T : Tx w K mg aFunction aRun aRunB aPlace aForms aActions aOps) (G_Walk_visit : MtX P w K mg base k aRun "visit" ["self", "expression", "scope"] (spVisitM aRun aFunction aPlace)) (G_Run_decide : MtX P w K mg base k aRun "decide" ["self", "level"] (spDecide aRun aFunction aPlace)) :
    MtX P w K mg base (k + 1) aRun "choose" ["self", "level", "branches", "scope"] (spChoose aRun aFunction aPlace) := by
  refine T.d_Walk_choose.ok sc_Walk_choose (fun vs H Q E h => by cases h; rfl) (fun f cdv A outer s H vs Q E hr h => ?_)
  rcases h with ⟨r, hst, hl, ht, rs, re1, re2, q0, q1⟩
  rename_i g t n lv sv x0 x1 c v rest en ab e1 e2
  refine ⟨_, (pss_cons (ps_set (i := 4) sc_Walk_choose.nd rfl (.inl rfl) (pe_mt T.cl_Walk G_Run_decide hr (pv 0) (pa_cons (pv 1) pa_nil)))
    (pss_one (ps_if (pt_cmpR op_notN (pv 4) (pe_non) (nomark _)) (pss_one (ps_expr (pe_mt T.cl_Walk G_Walk_visit hr (pv 0) (pa_cons (pe_ifExp (pt_val (pv 4)) (pe_ix ix_tup (pv 2) (pe_int) (fun _ _ => rfl)) (pe_ix ix_tup (pv 2) (pe_int) (fun _ _ => rfl))) (pa_cons (pv 3) pa_nil))))) pss_nil))), ?_⟩
  obtain ⟨dx, po, pt, ps, pw, ev, xo, xt, xs, kvs, r⟩ := id r
  refine seq_i fun N hN => ?_
  walk_at "g"
  refine ⟨g, dx, _, rfl, r.obj, noG (by decide +kernel), ?_⟩
  walk_at "g"
  refine spDecide.mk ⟨_, _, _, _, _, _, _, _, _, _, r⟩ hst (fun hf H1 r1 k1 => ?_) (fun i hi H1 r1 k1 => ?_)
  · refine hN _ _ ?_
    walk_at "g"
    exact q0 hf H1 r1 k1
  · refine hN _ _ ?_
    obtain ⟨dx1, po1, pt1, ps1, pw1, ev1, xo1, xt1, xs1, kvs1, r1'⟩ := id r1
    have ht1 := k1.tup _ _ ht
    have rs1 := rs.kp k1
    have qq := q1 i hi
    walk_at "g"
    refine ⟨g, dx1, _, rfl, r1'.obj, noG (by decide +kernel), ?_⟩
    walk_at "g"
    · rename_i e
      have e : i ≠ 0 := fun z => by
        subst z
        simp at e
      rw [if_neg e] at qq
      exact spVisitM.mk (c := { c with stk := rest }) r1 (re1.tups k1.tup) rs1 hl (fun H' r k => qq H' r (k1.trans k))
    · rename_i e
      have e : i = 0 := by
        have := e
        simp at this
        exact this
      rw [if_pos e] at qq
      exact spVisitM.mk (c := { c with stk := rest }) r1 (re2.tups k1.tup) rs1 hl (fun H' r k => qq H' r (k1.trans k))
theorem ok_apply (T : Tx w K mg aFunction aRun aRunB aPlace aForms aActions aOps) (G_Walk_visit : MtX P w K mg base k aRun "visit" ["self", "expression", "scope"] (spVisitM aRun aFunction aPlace)) (G_Place_bind : MtX P w K mg base k aPlace "bind" ["self", "name", "value"] (spBind aFunction aPlace)) :
    MtX P w K mg base (k + 1) aRun "apply" ["self", "function", "value"] (spApply aRun aFunction aPlace) := by
  refine T.d_Walk_apply.ok sc_Walk_apply (fun vs H Q E h => by cases h; rfl) (fun f cdv A outer s H vs Q E hr h => ?_)
  rcases h with ⟨r, rv1, rv, hl, q⟩
  rename_i g u1 u c v k' x b en' ab'
  refine ⟨_, (pss_cons (ps_asg (pe_fld (pv 1) rfl) (pg_tup rfl (pgs_cons (pg_name (i := 3) sc_Walk_apply.nd rfl (.inl rfl)) (pgs_cons (pg_name (i := 4) sc_Walk_apply.nd rfl (.inl rfl)) pgs_nil))))
    (pss_one (ps_expr (pe_mt T.cl_Walk G_Walk_visit hr (pv 0) (pa_cons (pv 4) (pa_cons (pe_mt T.cl_Place G_Place_bind hr (pe_fld (pv 1) rfl) (pa_cons (pv 3) (pa_cons (pv 2) pa_nil))) pa_nil)))))), ?_⟩
  obtain ⟨dx, po, pt, ps, pw, ev, xo, xt, xs, kvs, r⟩ := id r
  rw [RV] at rv1
  obtain ⟨a, dxa, pb, ub, sa, dx2, n2, d2, rfl, h1, hb, h2, h3, h4, h5⟩ := rv1
  have rs2 : RS aFunction aPlace H k' en' ab' (.ref sa) := ⟨sa, dx2, n2, d2, rfl, h3, h4, h5⟩
  refine seq_i fun N hN => ?_
  walk_at "g"
  refine ⟨a, aFunction, dxa, _, _, rfl, h1, T.cl_Function, T.n_Function_body, rfl, ?_⟩
  refine ⟨_, _, rfl, SqT.of hb, rfl, _, _, rfl, _, _, rfl, rfl, ?_⟩
  refine hN _ _ ?_
  clear hN
  walk_at "g"
  refine ⟨g, dx, _, rfl, r.obj, noG (by decide +kernel), ?_⟩
  walk_at "g"
  refine ⟨a, aFunction, dxa, _, _, rfl, h1, T.cl_Function, T.n_Function_scope, rfl, ?_⟩
  refine ⟨sa, dx2, _, rfl, h3, noS (by decide +kernel), ?_⟩
  walk_at "g"
  refine spBind.mk rs2 rv fun s' H4 s4 rs4 => ?_
  walk_at "g"
  exact spVisitM.mk ⟨_, _, _, _, _, _, _, _, _, _, r.mono s4⟩ (h2.tups (Same.tups s4)) rs4 hl (fun H5 r5 k5 => q _ r5 ((Same.kp s4).trans k5))
theorem ok_sum (T : Tx w K mg aFunction aRun aRunB aPlace aForms aActions aOps) (G_Run_get_stuck : MtX P w K mg base k aRun "get_stuck" ["self", "level"] (spStuck aRun aFunction aPlace)) : FnX P w K mg base (k + 1) "_sum" ["run", "level"] (spOpF aRun aFunction aPlace (.oper .sum)) := by
  refine T.d__sum.ok sc__sum (fun vs H Q E h => by cases h; rfl) (fun f cdv A outer s H vs Q E hr h => ?_)
  rcases h with ⟨r, b, h, q⟩
  rename_i g n c c'
  refine ⟨_, (pss_cons (ps_set (i := 2) sc__sum.nd rfl (.inl rfl) (pe_bm0 PySem.F.plainAttrs_list PySem.F.slot_list_pop PySem.F.type_list_pop mt_pop (pe_fld (pv 0) rfl)))
    (pss_cons (ps_set (i := 3) sc__sum.nd rfl (.inl rfl) (pe_bm0 PySem.F.plainAttrs_list PySem.F.slot_list_pop PySem.F.type_list_pop mt_pop (pe_fld (pv 0) rfl)))
    (pss_one (ps_if (PW.pt (pw_or (pt_val (pe_callB call_isi rfl T.z_isinstance (by decide +kernel) (pa_cons (pv 3) (pa_cons (pe_glob (v := .ref _) rfl T.mg_Function rfl) pa_nil)))) (pw_or1 (pt_val (pe_callB call_isi rfl T.z_isinstance (by decide +kernel) (pa_cons (pv 2) (pa_cons (pe_glob (v := .ref _) rfl T.mg_Function rfl) pa_nil))))))) (pss_one (ps_expr (pe_mt T.cl_Walk G_Run_get_stuck hr (pv 0) (pa_cons (pv 1) pa_nil)))) (pss_one (ps_expr (pe_bm PySem.F.plainAttrs_list PySem.F.slot_list_append PySem.F.type_list_append mt_append (pe_fld (pv 0) rfl) (pa_cons (pe_op op_add (pv 3) (pv 2)) pa_nil)))))))), ?_⟩
  obtain ⟨v2, v1, rest, hst⟩ := step_two h
  obtain ⟨dx, po, pt, ps, pw, ev, xo, xt, xs, kvs, r⟩ := r
  obtain ⟨u2, xs', ex, rv, hlast, hdrop, r1, k1⟩ := r.popS hst
  obtain ⟨u1, xs2, ex2, rv1, hlast2, hdrop2, r2, k2⟩ := r1.popS rfl
  refine seq_i fun N hN => ?_
  walk_at "g"
  refine ⟨g, aRun, dx, _, _, rfl, r.obj, T.cl_Run, T.n_Run_stack, rfl, ?_⟩
  refine ⟨.inl ⟨rfl, _, SqL.of r.hs⟩, ?_⟩
  refine ⟨_, _, _, rfl, rfl, r.hs, hlast, ?_⟩
  rw [hdrop]
  have rv := rv.kp (k1.trans k2)
  generalize upd H ps (.lst xs') = H1 at *
  refine hN _ _ ?_
  clear hN
  refine seq_i fun N hN => ?_
  walk_at "g"
  refine ⟨g, aRun, dx, _, _, rfl, r1.obj, T.cl_Run, T.n_Run_stack, rfl, ?_⟩
  refine ⟨.inl ⟨rfl, _, SqL.of r1.hs⟩, ?_⟩
  refine ⟨_, _, _, rfl, rfl, r1.hs, hlast2, ?_⟩
  rw [hdrop2]
  have rv1 := rv1.kp k2
  generalize upd H1 ps (.lst xs2) = H2 at *
  refine hN _ _ ?_
  clear hN
  have k12 := k1.trans k2
  have hls := Paired.length' r2.s
  rw [List.length_reverse] at hls
  have hbs := b.stk
  rw [hst] at hbs
  simp only [List.length_cons] at hbs
  have hls : xs2.length = rest.length := hls
  have h : some (endR { c with stk := rest } (arith .sum n v1 v2)) = some c' := by
    rw [← h]
    simp only [stepIt, operIt, saysIt, hst]
  cases h
  walk_at "g"
  refine isF T.i_F T.cl_Function rv1 ?_
  cases v1 with
  | fn k' x bb en' ab' =>
    walk_at "g"
    refine ⟨g, dx, _, rfl, r2.obj, noG (by decide +kernel), ?_⟩
    walk_at "g"
    exact spStuck.mk ⟨_, _, _, _, _, _, _, _, _, _, r2⟩ (fun H' r k => q H' r (k12.trans k))
  | int i =>
    walk_at "g"
    refine isF T.i_F T.cl_Function rv ?_
    cases v2 with
    | fn k' x bb en' ab' =>
      walk_at "g"
      refine ⟨g, dx, _, rfl, r2.obj, noG (by decide +kernel), ?_⟩
      walk_at "g"
      exact spStuck.mk ⟨_, _, _, _, _, _, _, _, _, _, r2⟩ (fun H' r k => q H' r (k12.trans k))
    | int j =>
      rw [RV] at rv rv1
      subst rv
      subst rv1
      walk_at "g"
      refine ⟨g, aRun, dx, _, _, rfl, r2.obj, T.cl_Run, T.n_Run_stack, rfl, ?_⟩
      refine ⟨.inl ⟨rfl, _, SqL.of r2.hs⟩, ?_⟩
      walk_at "g"
      refine ⟨_, _, _, rfl, rfl, r2.hs, great' (by omega), ?_⟩
      obtain ⟨r3, k3⟩ := r2.stack (xs' := xs2 ++ [.int (i + j)]) (stk' := .int (i + j) :: rest) (by rw [List.reverse_append]; exact .cons (by rw [RV]) r2.s)
      exact q _ ⟨_, _, _, _, _, _, _, _, _, _, r3⟩ (k12.trans k3)
theorem ok_less (T : Tx w K mg aFunction aRun aRunB aPlace aForms aActions aOps) (G_Run_get_stuck : MtX P w K mg base k aRun "get_stuck" ["self", "level"] (spStuck aRun aFunction aPlace)) : FnX P w K mg base (k + 1) "_less" ["run", "level"] (spOpF aRun aFunction aPlace (.oper .less)) := by
  refine T.d__less.ok sc__less (fun vs H Q E h => by cases h; rfl) (fun f cdv A outer s H vs Q E hr h => ?_)
  rcases h with ⟨r, b, h, q⟩
  rename_i g n c c'
  refine ⟨_, (pss_cons (ps_set (i := 2) sc__less.nd rfl (.inl rfl) (pe_bm0 PySem.F.plainAttrs_list PySem.F.slot_list_pop PySem.F.type_list_pop mt_pop (pe_fld (pv 0) rfl)))
    (pss_cons (ps_set (i := 3) sc__less.nd rfl (.inl rfl) (pe_bm0 PySem.F.plainAttrs_list PySem.F.slot_list_pop PySem.F.type_list_pop mt_pop (pe_fld (pv 0) rfl)))
    (pss_one (ps_if (PW.pt (pw_or (pt_val (pe_callB call_isi rfl T.z_isinstance (by decide +kernel) (pa_cons (pv 3) (pa_cons (pe_glob (v := .ref _) rfl T.mg_Function rfl) pa_nil)))) (pw_or1 (pt_val (pe_callB call_isi rfl T.z_isinstance (by decide +kernel) (pa_cons (pv 2) (pa_cons (pe_glob (v := .ref _) rfl T.mg_Function rfl) pa_nil))))))) (pss_one (ps_expr (pe_mt T.cl_Walk G_Run_get_stuck hr (pv 0) (pa_cons (pv 1) pa_nil)))) (pss_one (ps_expr (pe_bm PySem.F.plainAttrs_list PySem.F.slot_list_append PySem.F.type_list_append mt_append (pe_fld (pv 0) rfl) (pa_cons (pe_ifExp (pt_cmpR op_lt (pv 3) (pv 2) (nomark _)) (pe_int) (pe_int)) pa_nil)))))))), ?_⟩
  obtain ⟨v2, v1, rest, hst⟩ := step_two h
  obtain ⟨dx, po, pt, ps, pw, ev, xo, xt, xs, kvs, r⟩ := r
  obtain ⟨u2, xs', ex, rv, hlast, hdrop, r1, k1⟩ := r.popS hst
  obtain ⟨u1, xs2, ex2, rv1, hlast2, hdrop2, r2, k2⟩ := r1.popS rfl
  refine seq_i fun N hN => ?_
  walk_at "g"
  refine ⟨g, aRun, dx, _, _, rfl, r.obj, T.cl_Run, T.n_Run_stack, rfl, ?_⟩
  refine ⟨.inl ⟨rfl, _, SqL.of r.hs⟩, ?_⟩
  refine ⟨_, _, _, rfl, rfl, r.hs, hlast, ?_⟩
  rw [hdrop]
  have rv := rv.kp (k1.trans k2)
  generalize upd H ps (.lst xs') = H1 at *
  refine hN _ _ ?_
  clear hN
  refine seq_i fun N hN => ?_
  walk_at "g"
  refine ⟨g, aRun, dx, _, _, rfl, r1.obj, T.cl_Run, T.n_Run_stack, rfl, ?_⟩
  refine ⟨.inl ⟨rfl, _, SqL.of r1.hs⟩, ?_⟩
  refine ⟨_, _, _, rfl, rfl, r1.hs, hlast2, ?_⟩
  rw [hdrop2]
  have rv1 := rv1.kp k2
  generalize upd H1 ps (.lst xs2) = H2 at *
  refine hN _ _ ?_
  clear hN
  have k12 := k1.trans k2
  have hls := Paired.length' r2.s
  rw [List.length_reverse] at hls
  have hbs := b.stk
  rw [hst] at hbs
  simp only [List.length_cons] at hbs
  have hls : xs2.length = rest.length := hls
  have h : some (endR { c with stk := rest } (arith .less n v1 v2)) = some c' := by
    rw [← h]
    simp only [stepIt, operIt, saysIt, hst]
  cases h
  walk_at "g"
  refine isF T.i_F T.cl_Function rv1 ?_
  cases v1 with
  | fn k' x bb en' ab' =>
    walk_at "g"
    refine ⟨g, dx, _, rfl, r2.obj, noG (by decide +kernel), ?_⟩
    walk_at "g"
    exact spStuck.mk ⟨_, _, _, _, _, _, _, _, _, _, r2⟩ (fun H' r k => q H' r (k12.trans k))
  | int i =>
    walk_at "g"
    refine isF T.i_F T.cl_Function rv ?_
    cases v2 with
    | fn k' x bb en' ab' =>
      walk_at "g"
      refine ⟨g, dx, _, rfl, r2.obj, noG (by decide +kernel), ?_⟩
      walk_at "g"
      exact spStuck.mk ⟨_, _, _, _, _, _, _, _, _, _, r2⟩ (fun H' r k => q H' r (k12.trans k))
    | int j =>
      rw [RV] at rv rv1
      subst rv
      subst rv1
      walk_at "g"
      refine ⟨g, aRun, dx, _, _, rfl, r2.obj, T.cl_Run, T.n_Run_stack, rfl, ?_⟩
      refine ⟨.inl ⟨rfl, _, SqL.of r2.hs⟩, ?_⟩
      have fin : ∀ m : Int, (if i < j then (1 : Int) else 0) = m → Q .non (upd H2 ps (.lst (xs2 ++ [.int m]))) := by
        rintro m rfl
        obtain ⟨r3, k3⟩ := r2.stack (xs' := xs2 ++ [.int (if i < j then 1 else 0)]) (stk' := .int (if i < j then 1 else 0) :: rest) (by rw [List.reverse_append]; exact .cons (by rw [RV]) r2.s)
        exact q _ ⟨_, _, _, _, _, _, _, _, _, _, r3⟩ (k12.trans k3)
      walk_at "g"
      all_goals rename_i e
      all_goals walk_at "g"
      all_goals refine ⟨_, _, _, rfl, rfl, r2.hs, great' (by omega), ?_⟩
      all_goals first | exact fin 1 (if_pos (of_decide_eq_true e)) | exact fin 0 (if_neg (of_decide_eq_false e))
theorem ok_call (T : Tx w K mg aFunction aRun aRunB aPlace aForms aActions aOps) (G_Run_get_stuck : MtX P w K mg base k aRun "get_stuck" ["self", "level"] (spStuck aRun aFunction aPlace)) (G_Run_step : MtX P w K mg base k aRun "step" ["self"] (spStep aRun aFunction aPlace)) (G_Walk_apply : MtX P w K mg base k aRun "apply" ["self", "function", "value"] (spApply aRun aFunction aPlace)) : FnX P w K mg base (k + 1) "_call" ["run", "level"] (spOpF aRun aFunction aPlace (.oper .call)) := by
  refine T.d__call.ok sc__call (fun vs H Q E h => by cases h; rfl) (fun f cdv A outer s H vs Q E hr h => ?_)
  rcases h with ⟨r, b, h, q⟩
  rename_i g n c c'
  refine ⟨_, (pss_cons (ps_set (i := 2) sc__call.nd rfl (.inl rfl) (pe_bm0 PySem.F.plainAttrs_list PySem.F.slot_list_pop PySem.F.type_list_pop mt_pop (pe_fld (pv 0) rfl)))
    (pss_cons (ps_set (i := 3) sc__call.nd rfl (.inl rfl) (pe_bm0 PySem.F.plainAttrs_list PySem.F.slot_list_pop PySem.F.type_list_pop mt_pop (pe_fld (pv 0) rfl)))
    (pss_one (ps_if (PW.pt (pw_or (pt_not (pt_val (pe_callB call_isi rfl T.z_isinstance (by decide +kernel) (pa_cons (pv 3) (pa_cons (pe_glob (v := .ref _) rfl T.mg_Function rfl) pa_nil))))) (pw_or1 (pt_cmpR op_ne (pe_fld (pv 3) rfl) (pv 1) (nomark _))))) (pss_one (ps_expr (pe_mt T.cl_Walk G_Run_get_stuck hr (pv 0) (pa_cons (pv 1) pa_nil)))) (pss_one (ps_if (pt_val (pe_mt0 T.cl_Walk G_Run_step hr (pv 0))) (pss_one (ps_expr (pe_mt T.cl_Walk G_Walk_apply hr (pv 0) (pa_cons (pv 3) (pa_cons (pv 2) pa_nil))))) pss_nil)))))), ?_⟩
  obtain ⟨v2, v1, rest, hst⟩ := step_two h
  obtain ⟨dx, po, pt, ps, pw, ev, xo, xt, xs, kvs, r⟩ := r
  obtain ⟨u2, xs', ex, rv, hlast, hdrop, r1, k1⟩ := r.popS hst
  obtain ⟨u1, xs2, ex2, rv1, hlast2, hdrop2, r2, k2⟩ := r1.popS rfl
  refine seq_i fun N hN => ?_
  walk_at "g"
  refine ⟨g, aRun, dx, _, _, rfl, r.obj, T.cl_Run, T.n_Run_stack, rfl, ?_⟩
  refine ⟨.inl ⟨rfl, _, SqL.of r.hs⟩, ?_⟩
  refine ⟨_, _, _, rfl, rfl, r.hs, hlast, ?_⟩
  rw [hdrop]
  have rv := rv.kp (k1.trans k2)
  generalize upd H ps (.lst xs') = H1 at *
  refine hN _ _ ?_
  clear hN
  refine seq_i fun N hN => ?_
  walk_at "g"
  refine ⟨g, aRun, dx, _, _, rfl, r1.obj, T.cl_Run, T.n_Run_stack, rfl, ?_⟩
  refine ⟨.inl ⟨rfl, _, SqL.of r1.hs⟩, ?_⟩
  refine ⟨_, _, _, rfl, rfl, r1.hs, hlast2, ?_⟩
  rw [hdrop2]
  have rv1 := rv1.kp k2
  generalize upd H1 ps (.lst xs2) = H2 at *
  refine hN _ _ ?_
  clear hN
  have k12 := k1.trans k2
  have hbt := b.todo
  simp only [stepIt, operIt, saysIt, hst] at h
  walk_at "g"
  refine isF T.i_F T.cl_Function rv1 ?_
  cases v1 with
  | int i =>
    have h : some { c with stk := rest, ed := some (.stuck n) } = some c' := h
    cases h
    walk_at "g"
    refine ⟨g, dx, _, rfl, r2.obj, noG (by decide +kernel), ?_⟩
    walk_at "g"
    exact spStuck.mk ⟨_, _, _, _, _, _, _, _, _, _, r2⟩ (fun H' r k => q H' r (k12.trans k))
  | fn k' x bb en' ab' =>
    have h : (if k' = n then (if c.fuel = 0 then some { c with stk := rest, ed := some .more } else some { c with todo := .visit bb (.cons x v2 en') ab' n :: c.todo, stk := rest, fuel := c.fuel - 1 }) else some { c with stk := rest, ed := some (.stuck n) }) = some c' := h
    have rv1' := rv1
    rw [RV] at rv1
    obtain ⟨a, dxa, pb, ub, sa, dx2, n2, d2, rfl, h1, hb, h2, h3, h4, h5⟩ := rv1
    walk_at "g"
    refine ⟨a, aFunction, dxa, _, _, rfl, h1, T.cl_Function, T.n_Function_level, rfl, ?_⟩
    walk_at "g"
    · rename_i e
      have e : k' ≠ n := fun z => by
        subst z
        simp at e
      rw [if_neg e] at h
      cases h
      refine ⟨g, dx, _, rfl, r2.obj, noG (by decide +kernel), ?_⟩
      walk_at "g"
      exact spStuck.mk ⟨_, _, _, _, _, _, _, _, _, _, r2⟩ (fun H' r k => q H' r (k12.trans k))
    · rename_i e
      have e : k' = n := by
        have := e
        simp at this
        exact this
      rw [if_pos e] at h
      subst e
      refine ⟨g, dx, _, rfl, r2.obj, noG (by decide +kernel), ?_⟩
      walk_at "g"
      refine spStep.mk ⟨_, _, _, _, _, _, _, _, _, _, r2⟩ (fun hf H3 r3 k3 => ?_) (fun hf H3 r3 k3 => ?_)
      · have hf : c.fuel = 0 := hf
        rw [if_pos hf] at h
        cases h
        walk_at "g"
        exact q _ r3 (k12.trans k3)
      · have hf : c.fuel ≠ 0 := hf
        rw [if_neg hf] at h
        cases h
        obtain ⟨dx3, po3, pt3, ps3, pw3, ev3, xo3, xt3, xs3, kvs3, r3⟩ := r3
        have k13 := k12.trans k3
        walk_at "g"
        refine ⟨g, dx3, _, rfl, r3.obj, noG (by decide +kernel), ?_⟩
        walk_at "g"
        exact spApply.mk ⟨_, _, _, _, _, _, _, _, _, _, r3⟩ (rv1'.kp k3) (rv.kp k3) (by show c.todo.length ≤ 20000; omega) (fun H5 r5 k5 => q _ r5 (k13.trans k5))
theorem ok_say (T : Tx w K mg aFunction aRun aRunB aPlace aForms aActions aOps) (G__shown : FnX P w K mg base k "_shown" ["value"] (spShown aFunction aPlace)) : FnX P w K mg base (k + 1) "_say" ["run", "level"] (spOpF aRun aFunction aPlace .says) := by
  refine T.d__say.ok sc__say (fun vs H Q E h => by cases h; rfl) (fun f cdv A outer s H vs Q E hr h => ?_)
  rcases h with ⟨r, b, h, q⟩
  rename_i g n c c'
  refine ⟨_, (pss_one (ps_expr (pe_bm PySem.F.plainAttrs_list PySem.F.slot_list_append PySem.F.type_list_append mt_append (pe_fld (pv 0) rfl) (pa_cons (pe_tup (pa_cons (pv 1) (pa_cons (pe_fn G__shown hr rfl (pa_cons (pe_ix ix_list (pe_fld (pv 0) rfl) (pe_un un_neg (pe_int)) (fun _ _ => rfl)) pa_nil)) pa_nil))) pa_nil)))), ?_⟩
  obtain ⟨dx, po, pt, ps, pw, ev, xo, xt, xs, kvs, r⟩ := r
  cases hst : c.stk with
  | nil =>
    simp only [stepIt, operIt, saysIt, hst] at h
    cases h
  | cons v rest =>
    simp only [stepIt, operIt, saysIt, hst] at h
    cases h
    obtain ⟨u, xs', ex, rv, _⟩ := r.popS hst
    have hlo := Paired.length' r.o
    have hbo := b.outs
    walk_at "g"
    refine ⟨g, aRun, dx, _, _, rfl, r.obj, T.cl_Run, T.n_Run_outputs, rfl, ?_⟩
    refine ⟨.inl ⟨rfl, _, SqL.of r.ho⟩, ?_⟩
    walk_at "g"
    refine ⟨g, aRun, dx, _, _, rfl, r.obj, T.cl_Run, T.n_Run_stack, rfl, ?_⟩
    walk_at "g"
    refine ⟨ps, _, _, _, rfl, rfl, SqL.of r.hs, (by rw [ex]; exact at_neg1), ?_⟩
    refine spShown.mk rv fun u' H2 s2 sh => ?_
    walk_at "new"; rename_i p3 f3 H3 s3 t3
    have s23 := Same.trans s2 s3
    have r3 := r.mono s23
    walk_at "g"
    refine ⟨_, _, _, rfl, rfl, r3.ho, great' (by omega), ?_⟩
    obtain ⟨r4, k4⟩ := r3.print (xo' := xo ++ [.ref p3]) (outs' := c.outs ++ [(n, shw v)]) (Paired.snoc' r3.o ⟨p3, u', rfl, t3, sh.tups (Same.tups s3)⟩)
    rw [hst] at r4
    exact q _ ⟨_, _, _, _, _, _, _, _, _, _, r4⟩ ((Same.kp s23).trans k4)
theorem ok_operate (T : Tx w K mg aFunction aRun aRunB aPlace aForms aActions aOps) (A_Run_operate : ∀ n sp, SdOps aRun aFunction aPlace n = some sp → ∃ ps, FnX P w K mg base k n ps sp) : MtX P w K mg base (k + 1) aRun "operate" ["self", "word", "level"] (spOperate aRun aFunction aPlace) := by
  refine T.d_Run_operate.ok sc_Run_operate (fun vs H Q E h => by cases h; rfl) (fun f cdv A outer s H vs Q E hr h => ?_)
  rcases h with ⟨r, b, hw, h, q⟩
  rename_i g n x it c c'
  refine ⟨_, (pss_cons (ps_set (i := 3) sc_Run_operate.nd rfl (.inl rfl) (pe_ix ix_kdict (pe_glob (v := .ref _) rfl T.m_OPERATIONS rfl) (pv 1) (fun _ _ => rfl)))
    (pss_one (ps_expr (pe_callD _ A_Run_operate hr (i := 3) rfl (.inl rfl) (pa_cons (pv 0) (pa_cons (pv 2) pa_nil)))))), ?_⟩
  obtain ⟨nm, sp, h1, h2, h3⟩ : ∃ (nm : Str) (sp : Sp), (x, nm) ∈ opsL ∧ SdOps aRun aFunction aPlace nm = some sp ∧ ∀ Q' : VK, Act aRun aFunction aPlace H g c' Q' .non → sp [.ref g, .int n] H Q' E0 := by
    rcases hw with ⟨o, rfl, rfl⟩ | ⟨rfl, rfl⟩
    · cases o with
      | call => exact ⟨"_call", _, by decide +kernel, rfl, fun Q' q => .mk r b h q⟩
      | sum => exact ⟨"_sum", _, by decide +kernel, rfl, fun Q' q => .mk r b h q⟩
      | less => exact ⟨"_less", _, by decide +kernel, rfl, fun Q' q => .mk r b h q⟩
    · exact ⟨"_say", _, by decide +kernel, rfl, fun Q' q => .mk r b h q⟩
  obtain ⟨fa, m1, m2⟩ := T.f_OPS x nm h1
  refine seq_i fun N hN => ?_
  walk_at "g"
  refine ⟨aOps, x, .ref fa, rfl, rfl, m2, ?_⟩
  refine hN _ _ ?_
  walk_at "g"
  refine ⟨nm, fa, sp, rfl, m1, h2, ?_⟩
  walk_at "g"
  exact h3 _ q
end
end Zt

set_option Elab.async false
set_option linter.all false
set_option maxRecDepth 100000
set_option maxHeartbeats 4000000
namespace Zt
open PySem L2 PySem.Spec PyProof.Rows Zg
local macro_rules | `(tactic| walk_at "sq") => `(tactic| first | exact SqL.of (by assumption) | exact .inl (SqL.of (by assumption)) | assumption | exact SqT.of (by assumption) | exact .inr (SqT.of (by assumption)) | exact SqL.of upd_same | exact .inl (SqL.of upd_same))
local macro_rules | `(tactic| walk_at "hp") => `(tactic| first | assumption | exact upd_same)
local macro_rules | `(tactic| walk_at "cond") => `(tactic| first | assumption | rfl | (apply And.intro <;> assumption) | decide | (show (0 : Int) < _; decide) | (apply And.intro <;> decide) | (apply Or.inr; apply And.intro <;> decide) | (apply Or.inl; apply And.intro <;> decide))
local macro_rules | `(tactic| walk_at "s") => `(tactic| first
  | (with_reducible apply iteF)
  | (with_reducible apply iteT)
  | (apply e1; rfl)
  | (apply e2; rfl; rfl)
  | (apply e4; rfl; rfl; walk_at "sq"; rfl)
  | (apply e4; rfl; rfl; walk_at "hp"; rfl)
  | (apply e2; rfl; walk_at "sq")
  | (apply eOr; rfl)
  | (apply eOrR; rfl)
  | (apply eTru; walk_at "sq")
  | (apply eTruT; walk_at "sq")
  | (apply And.intro; (walk_at "cond"))
  | (apply iteTr; rfl)
  | (apply iteFr; rfl)
  | (apply iteD; all_goals intro _)
  | (with_reducible apply tNext_i))
local macro_rules | `(tactic| walk_at "g") => `(tactic| repeat' ((fail_if_success (with_reducible apply seq_i)); (fail_if_success (with_reducible apply cut_i)); (walk_at "s")))
local macro_rules | `(tactic| walk_at "size") => `(tactic| first | (simp only [List.length_cons, List.length_nil]; decide) | decide)
local macro_rules | `(tactic| walk_at "newp") => `(tactic| (intro p hp; generalize hH : upd _ _ _ = H1; have st := new_facts hp hH; clear hH; obtain ⟨s, t⟩ := st))
local macro_rules | `(tactic| walk_at "new") => `(tactic| walk_at "g"; first | (apply And.intro; (focus (apply small100; walk_at "size")); walk_at "newp") | (walk_at "newp"))

def fcode : TE → Nat
  | .num _ => 0
  | .name _ => 1
  | .fn _ _ => 2
  | .op _ _ _ => 3
  | .say _ => 3
  | .iff _ _ _ => 4
  | .lett _ _ _ => 5
  | .rule _ _ _ => 6
  | .keep _ _ => 7
  | .part _ => 8
  | .witha _ => 9
  | .usual => 10
  | .do1 _ => 11
  | .do2 _ _ => 11
inductive spForm (CR CF CS : Addr) (n : Nat) : List V → Hp → VK → XK → Prop
  | mk {g : Addr} {v s : V} {c c' : Cf} {e : TE} {en : En} {ab : Ab} {k : Int} {H : Hp} {Q : VK} {E : XK} (r : RunAt CR CF CS H g c) (rp : RT H e v) (rs : RS CF CS H k en ab s) (b : Bd c) (hn : fcode e = n) (h : bvis c en ab k e = some c') (q : Act CR CF CS H g c' Q .non) : spForm CR CF CS n [.ref g, v, s] H Q E
/-- in the built-in way: all, or the changeable kinds alone -/
inductive spBuilt (CR CF CS : Addr) (all : Bool) : List V → Hp → VK → XK → Prop
  | mk {g : Addr} {v s : V} {c c' : Cf} {e : TE} {en : En} {ab : Ab} {k : Int} {H : Hp} {Q : VK} {E : XK} (r : RunAt CR CF CS H g c) (rp : RT H e v) (rs : RS CF CS H k en ab s) (b : Bd c) (hn : all = true ∨ ch e = true) (h : bvis c en ab k e = some c') (q : Act CR CF CS H g c' Q .non) : spBuilt CR CF CS all [.ref g, v, s] H Q E
inductive spPartOf : List V → Hp → VK → XK → Prop
  | mk {e p : TE} {i : Nat} {v : V} {H : Hp} {Q : VK} {E : XK} (rp : RT H e v) (h : partAt e i = some p) (q : ∀ u, RT H p u → Q u H) : spPartOf [v, .int i] H Q E
def SdForms (CR CF CS : Addr) (all : Bool) (n : Str) : Option Sp :=
  if n = "_num" then some (spForm CR CF CS 0) else if n = "_name" then some (spForm CR CF CS 1) else if n = "_fn" then some (spForm CR CF CS 2) else if n = "_operation" then some (spForm CR CF CS 3)
  else if n = "_if" then some (spForm CR CF CS 4) else if n = "_let" then some (spForm CR CF CS 5) else if all = false then none else if n = "_rule" then some (spForm CR CF CS 6) else if n = "_keep" then some (spForm CR CF CS 7)
  else if n = "_part" then some (spForm CR CF CS 8) else if n = "_with" then some (spForm CR CF CS 9) else if n = "_usual" then some (spForm CR CF CS 10) else if n = "_do" then some (spForm CR CF CS 11) else none
theorem rt_word {CR CF CS : Addr} {all : Bool} {H : Hp} {e : TE} {v : V} (r : RT H e v) (hc : all = true ∨ ch e = true) : ∃ (a : Addr) (rest : List V) (nm : Str), v = .ref a ∧ H a = some (.tup (.str (wd e) :: rest)) ∧ (wd e, nm) ∈ formsL ∧ SdForms CR CF CS all nm = some (spForm CR CF CS (fcode e)) := by
  have ha : ch e = false → all = true := fun h => hc.elim id fun z => Bool.noConfusion (h.symm.trans z)
  cases e with
  | num n =>
    obtain ⟨a, rfl, h⟩ := r
    exact ⟨a, _, "_num", rfl, h, List.mem_of_getElem? (i := 0) rfl, rfl⟩
  | name x =>
    obtain ⟨a, rfl, h⟩ := r
    exact ⟨a, _, "_name", rfl, h, List.mem_of_getElem? (i := 1) rfl, rfl⟩
  | fn x b =>
    obtain ⟨a, u, rfl, h, _⟩ := r
    exact ⟨a, _, "_fn", rfl, h, List.mem_of_getElem? (i := 2) rfl, rfl⟩
  | op o e f =>
    obtain ⟨a, u, w, rfl, h, _⟩ := r
    cases o
    · exact ⟨a, _, "_operation", rfl, h, List.mem_of_getElem? (i := 3) rfl, rfl⟩
    · exact ⟨a, _, "_operation", rfl, h, List.mem_of_getElem? (i := 4) rfl, rfl⟩
    · exact ⟨a, _, "_operation", rfl, h, List.mem_of_getElem? (i := 5) rfl, rfl⟩
  | iff c e f =>
    obtain ⟨a, t, u, w, rfl, h, _⟩ := r
    exact ⟨a, _, "_if", rfl, h, List.mem_of_getElem? (i := 6) rfl, rfl⟩
  | lett x e f =>
    obtain ⟨a, u, w, rfl, h, _⟩ := r
    exact ⟨a, _, "_let", rfl, h, List.mem_of_getElem? (i := 7) rfl, rfl⟩
  | say e =>
    obtain ⟨a, u, rfl, h, _⟩ := r
    exact ⟨a, _, "_operation", rfl, h, List.mem_of_getElem? (i := 8) rfl, rfl⟩
  | rule q r b =>
    obtain ⟨a, u, w, rfl, h, _⟩ := r
    cases ha rfl
    exact ⟨a, _, "_rule", rfl, h, List.mem_of_getElem? (i := 9) rfl, rfl⟩
  | keep q r =>
    obtain ⟨a, u, rfl, h, _⟩ := r
    cases ha rfl
    exact ⟨a, _, "_keep", rfl, h, List.mem_of_getElem? (i := 10) rfl, rfl⟩
  | part i =>
    obtain ⟨a, rfl, h⟩ := r
    cases ha rfl
    exact ⟨a, _, "_part", rfl, h, List.mem_of_getElem? (i := 11) rfl, rfl⟩
  | witha e =>
    obtain ⟨a, u, rfl, h, _⟩ := r
    cases ha rfl
    exact ⟨a, _, "_with", rfl, h, List.mem_of_getElem? (i := 12) rfl, rfl⟩
  | usual =>
    obtain ⟨a, rfl, h⟩ := r
    cases ha rfl
    exact ⟨a, _, "_usual", rfl, h, List.mem_of_getElem? (i := 13) rfl, rfl⟩
  | do1 e =>
    obtain ⟨a, t, u, rfl, h, _⟩ := r
    cases ha rfl
    exact ⟨a, _, "_do", rfl, h, List.mem_of_getElem? (i := 14) rfl, rfl⟩
  | do2 e f =>
    obtain ⟨a, t, u, w, rfl, h, _⟩ := r
    cases ha rfl
    exact ⟨a, _, "_do", rfl, h, List.mem_of_getElem? (i := 14) rfl, rfl⟩
theorem not_whole1 {v0 : V} {xs : List V} : ¬ (HT.sIx (v0 :: xs).length 0 (some 1) = 0 ∧ HT.sIx (v0 :: xs).length (v0 :: xs).length none = (v0 :: xs).length) := by
  intro h
  have e : HT.sIx (v0 :: xs).length 0 (some 1) = 1 := sIx_nat (n := (v0 :: xs).length) (d := 0) (i := 1) (by simp)
  rw [e] at h
  omega
section
variable {P : Program} {w : World} {K : PySem.W.Frag} {mg : Str → Option Value} {base : Heap} {aFunction aRun aRunB aPlace aForms aActions aOps : Addr} {k : Nat}
/-- a value comes onto the stack -/
theorem push_i {CR CF CS : Addr} {H : Hp} {g dx po pt ps pw : Addr} {ev : V} {xo xt xs : List V} {kvs : List (List Key × V)} {c : Cf} {v : Vl} {u : V} (r : RunA CR CF CS H g dx po pt ps pw ev xo xt xs kvs c) (rv : RV CF CS H v u) : RunAt CR CF CS (upd H ps (.lst (xs ++ [u]))) g (c.push v) ∧ Kp H (upd H ps (.lst (xs ++ [u]))) := by
  obtain ⟨r2, k2⟩ := r.stack (xs' := xs ++ [u]) (stk' := v :: c.stk) (by rw [List.reverse_append]; exact .cons rv r.s)
  exact ⟨⟨_, _, _, _, _, _, _, _, _, _, r2⟩, k2⟩
theorem item_i {CR CF CS : Addr} {H : Hp} {g dx po pt ps pw : Addr} {ev : V} {xo xt xs : List V} {kvs : List (List Key × V)} {c : Cf} {i : It} {u : V} (r : RunA CR CF CS H g dx po pt ps pw ev xo xt xs kvs c) (ri : RI CF CS H i u) : RunAt CR CF CS (upd H pt (.lst (xt ++ [u]))) g { c with todo := i :: c.todo } ∧ Kp H (upd H pt (.lst (xt ++ [u]))) := by
  obtain ⟨r2, k2⟩ := r.todos (xt' := xt ++ [u]) (todo' := i :: c.todo) (by rw [List.reverse_append]; exact .cons ri r.t)
  exact ⟨⟨_, _, _, _, _, _, _, _, _, _, r2⟩, k2⟩
theorem ok_num (T : Tx w K mg aFunction aRun aRunB aPlace aForms aActions aOps) : FnX P w K mg base (k + 1) "_num" ["going", "node", "_"] (spForm aRun aFunction aPlace 0) := by
  refine T.d__num.ok sc__num (fun vs H Q E h => by cases h; rfl) (fun f cdv A outer s H vs Q E hr h => ?_)
  rcases h with ⟨r, rp, rs, b, hn, h, q⟩
  rename_i g v sv c c' e en ab lv
  refine ⟨_, (pss_one (ps_expr (pe_bm PySem.F.plainAttrs_list PySem.F.slot_list_append PySem.F.type_list_append mt_append (pe_fld (pv 0) rfl) (pa_cons (pe_ix ix_tup (pv 1) (pe_int) (fun _ _ => rfl)) pa_nil)))), ?_⟩
  obtain ⟨dx, po, pt, ps, pw, ev, xo, xt, xs, kvs, r⟩ := r
  have hls := Paired.length' r.s
  rw [List.length_reverse] at hls
  have hbs := b.stk
  have hlt := Paired.length' r.t
  rw [List.length_reverse] at hlt
  have hbt := b.todo
  cases e <;> cases hn
  rename_i n
  cases h
  obtain ⟨a, rfl, ha⟩ := rp
  walk_at "g"
  refine ⟨g, aRun, dx, _, _, rfl, r.obj, T.cl_Run, T.n_Run_stack, rfl, ?_⟩
  refine ⟨.inl ⟨rfl, _, SqL.of r.hs⟩, ?_⟩
  walk_at "g"
  refine ⟨_, _, _, rfl, rfl, r.hs, great' (by omega), ?_⟩
  obtain ⟨r2, k2⟩ := push_i (v := .int n) r (by rw [RV])
  exact q _ r2 k2
theorem ok_name (T : Tx w K mg aFunction aRun aRunB aPlace aForms aActions aOps) (G_look_up : FnX P w K mg base k "look_up" ["names", "name"] spLook) : FnX P w K mg base (k + 1) "_name" ["going", "node", "place"] (spForm aRun aFunction aPlace 1) := by
  refine T.d__name.ok sc__name (fun vs H Q E h => by cases h; rfl) (fun f cdv A outer s H vs Q E hr h => ?_)
  rcases h with ⟨r, rp, rs, b, hn, h, q⟩
  rename_i g v sv c c' e en ab lv
  refine ⟨_, (pss_one (ps_expr (pe_bm PySem.F.plainAttrs_list PySem.F.slot_list_append PySem.F.type_list_append mt_append (pe_fld (pv 0) rfl) (pa_cons (pe_fn G_look_up hr rfl (pa_cons (pe_fld (pv 2) rfl) (pa_cons (pe_ix ix_tup (pv 1) (pe_int) (fun _ _ => rfl)) pa_nil))) pa_nil)))), ?_⟩
  obtain ⟨dx, po, pt, ps, pw, ev, xo, xt, xs, kvs, r⟩ := r
  have hls := Paired.length' r.s
  rw [List.length_reverse] at hls
  have hbs := b.stk
  have hlt := Paired.length' r.t
  rw [List.length_reverse] at hlt
  have hbt := b.todo
  cases e <;> cases hn
  rename_i x
  obtain ⟨a, rfl, ha⟩ := rp
  obtain ⟨sa, dxs, n, d, rfl, h1, h2, h3⟩ := rs
  have h : (match lookE en x with | some v => some (c.push v) | none => none) = some c' := h
  split at h
  rotate_left
  · cases h
  rename_i v hv
  cases h
  obtain ⟨m, u, ch, rv⟩ := ch_E h2 hv
  walk_at "g"
  refine ⟨g, aRun, dx, _, _, rfl, r.obj, T.cl_Run, T.n_Run_stack, rfl, ?_⟩
  refine ⟨.inl ⟨rfl, _, SqL.of r.hs⟩, ?_⟩
  walk_at "g"
  refine ⟨sa, aPlace, dxs, _, _, rfl, h1, T.cl_Place, T.n_Place_names, rfl, ?_⟩
  walk_at "g"
  refine spLook.mk ch ?_
  refine ⟨_, _, _, rfl, rfl, r.hs, great' (by omega), ?_⟩
  obtain ⟨r2, k2⟩ := push_i (v := v) r rv
  exact q _ r2 k2
theorem ok_fn (T : Tx w K mg aFunction aRun aRunB aPlace aForms aActions aOps) (G_Function___init__ : MkX P w K mg base k aFunction ["self", "level", "body", "scope"] (spFInit aFunction)) : FnX P w K mg base (k + 1 + 1) "_fn" ["going", "node", "place"] (spForm aRun aFunction aPlace 2) := by
  refine T.d__fn.ok sc__fn (fun vs H Q E h => by cases h; rfl) (fun f cdv A outer s H vs Q E hr h => ?_)
  rcases h with ⟨r, rp, rs, b, hn, h, q⟩
  rename_i g v sv c c' e en ab lv
  refine ⟨_, (pss_one (ps_expr (pe_bm PySem.F.plainAttrs_list PySem.F.slot_list_append PySem.F.type_list_append mt_append (pe_fld (pv 0) rfl) (pa_cons (pe_mk G_Function___init__ hr rfl T.mg_Function (pa_cons (pe_fld (pv 2) rfl) (pa_cons (pe_tup (pa_cons (pe_ix ix_tup (pv 1) (pe_int) (fun _ _ => rfl)) (pa_cons (pe_ix ix_tup (pv 1) (pe_int) (fun _ _ => rfl)) pa_nil))) (pa_cons (pv 2) pa_nil)))) pa_nil)))), ?_⟩
  obtain ⟨dx, po, pt, ps, pw, ev, xo, xt, xs, kvs, r⟩ := r
  have hls := Paired.length' r.s
  rw [List.length_reverse] at hls
  have hbs := b.stk
  have hlt := Paired.length' r.t
  rw [List.length_reverse] at hlt
  have hbt := b.todo
  cases e <;> cases hn
  rename_i x bb
  obtain ⟨a, u, rfl, ha, rb⟩ := rp
  obtain ⟨sa, dxs, n2, d, rfl, h1, h2, h3⟩ := rs
  cases h
  walk_at "g"
  refine ⟨g, aRun, dx, _, _, rfl, r.obj, T.cl_Run, T.n_Run_stack, rfl, ?_⟩
  refine ⟨.inl ⟨rfl, _, SqL.of r.hs⟩, ?_⟩
  walk_at "g"
  refine ⟨sa, aPlace, dxs, _, _, rfl, h1, T.cl_Place, T.n_Place_level, rfl, ?_⟩
  walk_at "new"; rename_i pb fb Hb sb tb
  walk_at "g"
  intro pn dn np ndn nen
  obtain ⟨s4, t4⟩ := mk_i (C := aFunction) np ndn
  generalize upd (upd Hb dn (.own pn)) pn (.ins aFunction dn []) = H4 at s4 t4 ⊢
  refine spFInit.mk t4 fun H5 o5 t5 => ⟨rfl, ?_⟩
  have sb5 : Same Hb H5 := own_same np s4 o5
  have s5 : Same H H5 := Same.trans sb sb5
  have k5 := Same.kp s5
  have r5 := r.mono s5
  refine ⟨_, _, _, rfl, rfl, r5.hs, great' (by omega), ?_⟩
  obtain ⟨r6, k6⟩ := push_i (v := .fn lv x bb en ab) r5 (by rw [RV]; exact ⟨pn, dn, pb, u, sa, dxs, n2, d, rfl, t5, sb5 _ _ tb, rb.tups k5.tup, s5 _ _ h1, h2.kp k5, h3.kp k5⟩)
  exact q _ r6 (k5.trans k6)
theorem ok_operation (T : Tx w K mg aFunction aRun aRunB aPlace aForms aActions aOps) (G_Walk_visit_all : MtX P w K mg base k aRun "visit_all" ["self", "expressions", "scope"] (spAll aRun aFunction aPlace)) : FnX P w K mg base (k + 1) "_operation" ["going", "node", "place"] (spForm aRun aFunction aPlace 3) := by
  refine T.d__operation.ok sc__operation (fun vs H Q E h => by cases h; rfl) (fun f cdv A outer s H vs Q E hr h => ?_)
  rcases h with ⟨r, rp, rs, b, hn, h, q⟩
  rename_i g v sv c c' e en ab lv
  refine ⟨_, (pss_cons (ps_expr (pe_bm PySem.F.plainAttrs_list PySem.F.slot_list_append PySem.F.type_list_append mt_append (pe_fld (pv 0) rfl) (pa_cons (pe_tup (pa_cons (pe_str) (pa_cons (pe_ix ix_tup (pv 1) (pe_int) (fun _ _ => rfl)) (pa_cons (pv 2) pa_nil)))) pa_nil)))
    (pss_one (ps_expr (pe_mt T.cl_Walk G_Walk_visit_all hr (pv 0) (pa_cons (pe_slice sl_tupA (pv 1) (po_some (pe_int)) po_none) (pa_cons (pv 2) pa_nil)))))), ?_⟩
  obtain ⟨dx, po, pt, ps, pw, ev, xo, xt, xs, kvs, r⟩ := r
  have hls := Paired.length' r.s
  rw [List.length_reverse] at hls
  have hbs := b.stk
  have hlt := Paired.length' r.t
  rw [List.length_reverse] at hlt
  have hbt := b.todo
  obtain ⟨it, es, a, y, us, rfl, ha, hes, hl2, hc', hri⟩ : ∃ (it : It) (es : List TE) (a : Addr) (y : Str) (us : List V), v = .ref a ∧ H a = some (.tup (.str y :: us)) ∧ Paired (RT H) es us ∧ es.length ≤ 2 ∧ c' = { c with todo := es.map (fun e => .visit e en ab lv) ++ it :: c.todo } ∧ ∀ (H' : Hp) (p : Addr), Kp H H' → H' p = some (.tup [.str "operate", .str y, sv]) → RI aFunction aPlace H' it (.ref p) := by
    cases e <;> cases hn
    · rename_i o e1 e2
      cases h
      obtain ⟨a, u1, u2, rfl, ha, r1, r2⟩ := rp
      exact ⟨.oper o lv, [e1, e2], a, o.str, [u1, u2], rfl, ha, .cons r1 (.cons r2 .nil), Nat.le_refl 2, rfl, fun H' p kk hp => ⟨p, "operate", .str o.str, sv, rfl, hp, rfl, rfl, en, ab, rs.kp kk⟩⟩
    · rename_i e1
      cases h
      obtain ⟨a, u1, rfl, ha, r1⟩ := rp
      exact ⟨.says lv, [e1], a, "say", [u1], rfl, ha, .cons r1 .nil, (by show 1 ≤ 2; omega), rfl, fun H' p kk hp => ⟨p, "operate", .str "say", sv, rfl, hp, rfl, rfl, en, ab, rs.kp kk⟩⟩
  refine seq_i fun N hN => ?_
  walk_at "g"
  refine ⟨g, aRun, dx, _, _, rfl, r.obj, T.cl_Run, T.n_Walk_todo, rfl, ?_⟩
  refine ⟨.inl ⟨rfl, _, SqL.of r.ht⟩, ?_⟩
  walk_at "g"
  refine ⟨a, _, _, _, rfl, rfl, SqT.of ha, at0, ?_⟩
  walk_at "new"; rename_i p2 f2 H2 s2 t2
  have r2 := r.mono s2
  walk_at "g"
  refine ⟨_, _, _, rfl, rfl, r2.ht, great' (by omega), ?_⟩
  obtain ⟨r3, k3⟩ := item_i r2 (hri H2 p2 (Same.kp s2) t2)
  have k23 := (Same.kp s2).trans k3
  generalize upd H2 pt (.lst (xt ++ [.ref p2])) = H3 at *
  refine hN _ _ ?_
  obtain ⟨dx3, po3, pt3, ps3, pw3, ev3, xo3, xt3, xs3, kvs3, r3'⟩ := id r3
  walk_at "g"
  refine ⟨g, dx3, _, rfl, r3'.obj, noG (by decide +kernel), ?_⟩
  walk_at "g"
  have ha3 := k23.tup _ _ ha
  refine noPart_i ?_
  refine slA_i ha3 fun q4 H4 s4 t4 => ?_
  have e4 : cutV (.str y :: us) (some 1) none = us := cut_from (xs := .str y :: us) (j := 1) (by simp)
  rw [e4] at t4
  walk_at "g"
  have k4 := Same.kp s4
  have k24 := k23.trans k4
  refine spAll.mk ⟨_, _, _, _, _, _, _, _, _, _, r3'.mono s4⟩ t4 (Paired.imp' hes fun _ _ r => r.tups k24.tup) (rs.kp k24) (by omega) (by show (it :: c.todo).length ≤ 19000; rw [List.length_cons]; omega) fun H5 r5 k5 => ?_
  subst hc'
  exact q _ r5 (k24.trans k5)
theorem ok_if (T : Tx w K mg aFunction aRun aRunB aPlace aForms aActions aOps) (G_Walk_visit : MtX P w K mg base k aRun "visit" ["self", "expression", "scope"] (spVisitM aRun aFunction aPlace)) : FnX P w K mg base (k + 1) "_if" ["going", "node", "place"] (spForm aRun aFunction aPlace 4) := by
  refine T.d__if.ok sc__if (fun vs H Q E h => by cases h; rfl) (fun f cdv A outer s H vs Q E hr h => ?_)
  rcases h with ⟨r, rp, rs, b, hn, h, q⟩
  rename_i g v sv c c' e en ab lv
  refine ⟨_, (pss_cons (ps_expr (pe_bm PySem.F.plainAttrs_list PySem.F.slot_list_append PySem.F.type_list_append mt_append (pe_fld (pv 0) rfl) (pa_cons (pe_tup (pa_cons (pe_str) (pa_cons (pe_slice sl_tupA (pv 1) (po_some (pe_int)) po_none) (pa_cons (pv 2) pa_nil)))) pa_nil)))
    (pss_one (ps_expr (pe_mt T.cl_Walk G_Walk_visit hr (pv 0) (pa_cons (pe_ix ix_tup (pv 1) (pe_int) (fun _ _ => rfl)) (pa_cons (pv 2) pa_nil)))))), ?_⟩
  obtain ⟨dx, po, pt, ps, pw, ev, xo, xt, xs, kvs, r⟩ := r
  have hls := Paired.length' r.s
  rw [List.length_reverse] at hls
  have hbs := b.stk
  have hlt := Paired.length' r.t
  rw [List.length_reverse] at hlt
  have hbt := b.todo
  cases e <;> cases hn
  rename_i c1 e1 e2
  cases h
  obtain ⟨a, t, u1, u2, rfl, ha, re0, re1, re2⟩ := rp
  refine seq_i fun N hN => ?_
  walk_at "g"
  refine ⟨g, aRun, dx, _, _, rfl, r.obj, T.cl_Run, T.n_Walk_todo, rfl, ?_⟩
  refine ⟨.inl ⟨rfl, _, SqL.of r.ht⟩, ?_⟩
  walk_at "g"
  have e4 : cutV [V.str "if", t, u1, u2] (some 2) none = [u1, u2] := cut_from (xs := [V.str "if", t, u1, u2]) (j := 2) (by simp)
  refine ⟨fun hw => absurd hw.1 ?_, fun _ => ?_⟩
  · have e5 : HT.sIx [V.str "if", t, u1, u2].length 0 (some 2) = 2 := sIx_nat (n := [V.str "if", t, u1, u2].length) (d := 0) (i := 2) (by simp)
    rw [e5]
    decide
  walk_at "newp"; rename_i q1 f1 H1 s1 t1
  rw [e4] at t1
  walk_at "new"; rename_i p2 f2 H2 s2 t2
  have s12 := Same.trans s1 s2
  have r2 := r.mono s12
  walk_at "g"
  refine ⟨_, _, _, rfl, rfl, r2.ht, great' (by omega), ?_⟩
  have k2 := Same.kp s12
  obtain ⟨r3, k3⟩ := item_i (i := .choose e1 e2 en ab lv) r2 ⟨p2, "choose", .ref q1, sv, rfl, t2, rfl, rs.kp k2, q1, u1, u2, rfl, s2 _ _ t1, re1.tups k2.tup, re2.tups k2.tup⟩
  have k23 := k2.trans k3
  generalize upd H2 pt (.lst (xt ++ [.ref p2])) = H3 at *
  refine hN _ _ ?_
  obtain ⟨dx3, po3, pt3, ps3, pw3, ev3, xo3, xt3, xs3, kvs3, r3'⟩ := id r3
  have ha3 := k23.tup _ _ ha
  walk_at "g"
  refine ⟨g, dx3, _, rfl, r3'.obj, noG (by decide +kernel), ?_⟩
  walk_at "g"
  refine spVisitM.mk r3 (re0.tups k23.tup) (rs.kp k23) (by show (It.choose e1 e2 en ab lv :: c.todo).length ≤ 20000; rw [List.length_cons]; omega) fun H5 r5 k5 => ?_
  exact q _ r5 (k23.trans k5)
theorem ok_let (T : Tx w K mg aFunction aRun aRunB aPlace aForms aActions aOps) (G_Walk_visit : MtX P w K mg base k aRun "visit" ["self", "expression", "scope"] (spVisitM aRun aFunction aPlace)) : FnX P w K mg base (k + 1) "_let" ["going", "node", "place"] (spForm aRun aFunction aPlace 5) := by
  refine T.d__let.ok sc__let (fun vs H Q E h => by cases h; rfl) (fun f cdv A outer s H vs Q E hr h => ?_)
  rcases h with ⟨r, rp, rs, b, hn, h, q⟩
  rename_i g v sv c c' e en ab lv
  refine ⟨_, (pss_cons (ps_expr (pe_bm PySem.F.plainAttrs_list PySem.F.slot_list_append PySem.F.type_list_append mt_append (pe_fld (pv 0) rfl) (pa_cons (pe_tup (pa_cons (pe_str) (pa_cons (pv 1) (pa_cons (pv 2) pa_nil)))) pa_nil)))
    (pss_one (ps_expr (pe_mt T.cl_Walk G_Walk_visit hr (pv 0) (pa_cons (pe_ix ix_tup (pv 1) (pe_int) (fun _ _ => rfl)) (pa_cons (pv 2) pa_nil)))))), ?_⟩
  obtain ⟨dx, po, pt, ps, pw, ev, xo, xt, xs, kvs, r⟩ := r
  have hls := Paired.length' r.s
  rw [List.length_reverse] at hls
  have hbs := b.stk
  have hlt := Paired.length' r.t
  rw [List.length_reverse] at hlt
  have hbt := b.todo
  cases e <;> cases hn
  rename_i x e1 e2
  cases h
  obtain ⟨a, u1, u2, rfl, ha, re1, re2⟩ := rp
  refine seq_i fun N hN => ?_
  walk_at "g"
  refine ⟨g, aRun, dx, _, _, rfl, r.obj, T.cl_Run, T.n_Walk_todo, rfl, ?_⟩
  refine ⟨.inl ⟨rfl, _, SqL.of r.ht⟩, ?_⟩
  walk_at "new"; rename_i p2 f2 H2 s2 t2
  have r2 := r.mono s2
  walk_at "g"
  refine ⟨_, _, _, rfl, rfl, r2.ht, great' (by omega), ?_⟩
  have k2 := Same.kp s2
  obtain ⟨r3, k3⟩ := item_i (i := .bind x e2 en ab lv) r2 ⟨p2, "bind", .ref a, sv, rfl, t2, rfl, rs.kp k2, a, u1, u2, rfl, s2 _ _ ha, re2.tups k2.tup⟩
  have k23 := k2.trans k3
  generalize upd H2 pt (.lst (xt ++ [.ref p2])) = H3 at *
  refine hN _ _ ?_
  obtain ⟨dx3, po3, pt3, ps3, pw3, ev3, xo3, xt3, xs3, kvs3, r3'⟩ := id r3
  have ha3 := k23.tup _ _ ha
  walk_at "g"
  refine ⟨g, dx3, _, rfl, r3'.obj, noG (by decide +kernel), ?_⟩
  walk_at "g"
  refine spVisitM.mk r3 (re1.tups k23.tup) (rs.kp k23) (by show (It.bind x e2 en ab lv :: c.todo).length ≤ 20000; rw [List.length_cons]; omega) fun H5 r5 k5 => ?_
  exact q _ r5 (k23.trans k5)
theorem ok_with (T : Tx w K mg aFunction aRun aRunB aPlace aForms aActions aOps) (G_Walk_visit : MtX P w K mg base k aRun "visit" ["self", "expression", "scope"] (spVisitM aRun aFunction aPlace)) : FnX P w K mg base (k + 1) "_with" ["going", "node", "place"] (spForm aRun aFunction aPlace 9) := by
  refine T.d__with.ok sc__with (fun vs H Q E h => by cases h; rfl) (fun f cdv A outer s H vs Q E hr h => ?_)
  rcases h with ⟨r, rp, rs, b, hn, h, q⟩
  rename_i g v sv c c' e en ab lv
  refine ⟨_, (pss_cons (ps_expr (pe_bm PySem.F.plainAttrs_list PySem.F.slot_list_append PySem.F.type_list_append mt_append (pe_fld (pv 0) rfl) (pa_cons (pe_tup (pa_cons (pe_str) (pa_cons (pe_non) (pa_cons (pv 2) pa_nil)))) pa_nil)))
    (pss_one (ps_expr (pe_mt T.cl_Walk G_Walk_visit hr (pv 0) (pa_cons (pe_ix ix_tup (pv 1) (pe_int) (fun _ _ => rfl)) (pa_cons (pv 2) pa_nil)))))), ?_⟩
  obtain ⟨dx, po, pt, ps, pw, ev, xo, xt, xs, kvs, r⟩ := r
  have hls := Paired.length' r.s
  rw [List.length_reverse] at hls
  have hbs := b.stk
  have hlt := Paired.length' r.t
  rw [List.length_reverse] at hlt
  have hbt := b.todo
  cases e <;> cases hn
  rename_i e1
  cases h
  obtain ⟨a, u1, rfl, ha, re1⟩ := rp
  refine seq_i fun N hN => ?_
  walk_at "g"
  refine ⟨g, aRun, dx, _, _, rfl, r.obj, T.cl_Run, T.n_Walk_todo, rfl, ?_⟩
  refine ⟨.inl ⟨rfl, _, SqL.of r.ht⟩, ?_⟩
  walk_at "new"; rename_i p2 f2 H2 s2 t2
  have r2 := r.mono s2
  walk_at "g"
  refine ⟨_, _, _, rfl, rfl, r2.ht, great' (by omega), ?_⟩
  have k2 := Same.kp s2
  obtain ⟨r3, k3⟩ := item_i (i := .bindb en ab lv) r2 ⟨p2, "bind below", .non, sv, rfl, t2, rfl, rs.kp k2⟩
  have k23 := k2.trans k3
  generalize upd H2 pt (.lst (xt ++ [.ref p2])) = H3 at *
  refine hN _ _ ?_
  obtain ⟨dx3, po3, pt3, ps3, pw3, ev3, xo3, xt3, xs3, kvs3, r3'⟩ := id r3
  have ha3 := k23.tup _ _ ha
  walk_at "g"
  refine ⟨g, dx3, _, rfl, r3'.obj, noG (by decide +kernel), ?_⟩
  walk_at "g"
  refine spVisitM.mk r3 (re1.tups k23.tup) (rs.kp k23) (by show (It.bindb en ab lv :: c.todo).length ≤ 20000; rw [List.length_cons]; omega) fun H5 r5 k5 => ?_
  exact q _ r5 (k23.trans k5)
theorem ok_do (T : Tx w K mg aFunction aRun aRunB aPlace aForms aActions aOps) (G_Walk_visit_all : MtX P w K mg base k aRun "visit_all" ["self", "expressions", "scope"] (spAll aRun aFunction aPlace)) : FnX P w K mg base (k + 1) "_do" ["going", "node", "place"] (spForm aRun aFunction aPlace 11) := by
  refine T.d__do.ok sc__do (fun vs H Q E h => by cases h; rfl) (fun f cdv A outer s H vs Q E hr h => ?_)
  rcases h with ⟨r, rp, rs, b, hn, h, q⟩
  rename_i g v sv c c' e en ab lv
  refine ⟨_, (pss_cons (ps_expr (pe_bm PySem.F.plainAttrs_list PySem.F.slot_list_append PySem.F.type_list_append mt_append (pe_fld (pv 0) rfl) (pa_cons (pe_tup (pa_cons (pe_str) (pa_cons (pe_non) (pa_cons (pv 2) pa_nil)))) pa_nil)))
    (pss_one (ps_expr (pe_mt T.cl_Walk G_Walk_visit_all hr (pv 0) (pa_cons (pe_ix ix_tup (pv 1) (pe_int) (fun _ _ => rfl)) (pa_cons (pv 2) pa_nil)))))), ?_⟩
  obtain ⟨dx, po, pt, ps, pw, ev, xo, xt, xs, kvs, r⟩ := r
  have hls := Paired.length' r.s
  rw [List.length_reverse] at hls
  have hbs := b.stk
  have hlt := Paired.length' r.t
  rw [List.length_reverse] at hlt
  have hbt := b.todo
  obtain ⟨es, a, t, us, rfl, ha, ht, hes, hl2, hc'⟩ : ∃ (es : List TE) (a t : Addr) (us : List V), v = .ref a ∧ H a = some (.tup [.str "do", .ref t]) ∧ H t = some (.tup us) ∧ Paired (RT H) es us ∧ es.length ≤ 2 ∧ c' = { c with todo := es.map (fun e => .visit e en ab lv) ++ .operb en ab lv :: c.todo } := by
    cases e <;> cases hn
    · cases h
      obtain ⟨a, t, u1, rfl, ha, ht, r1⟩ := rp
      exact ⟨[_], a, t, [u1], rfl, ha, ht, .cons r1 .nil, (by show 1 ≤ 2; omega), rfl⟩
    · cases h
      obtain ⟨a, t, u1, u2, rfl, ha, ht, r1, r2⟩ := rp
      exact ⟨[_, _], a, t, [u1, u2], rfl, ha, ht, .cons r1 (.cons r2 .nil), Nat.le_refl 2, rfl⟩
  refine seq_i fun N hN => ?_
  walk_at "g"
  refine ⟨g, aRun, dx, _, _, rfl, r.obj, T.cl_Run, T.n_Walk_todo, rfl, ?_⟩
  refine ⟨.inl ⟨rfl, _, SqL.of r.ht⟩, ?_⟩
  walk_at "new"; rename_i p2 f2 H2 s2 t2
  have r2 := r.mono s2
  walk_at "g"
  refine ⟨_, _, _, rfl, rfl, r2.ht, great' (by omega), ?_⟩
  have k2 := Same.kp s2
  obtain ⟨r3, k3⟩ := item_i (i := .operb en ab lv) r2 ⟨p2, "operate below", .non, sv, rfl, t2, rfl, rs.kp k2⟩
  have k23 := k2.trans k3
  generalize upd H2 pt (.lst (xt ++ [.ref p2])) = H3 at *
  refine hN _ _ ?_
  obtain ⟨dx3, po3, pt3, ps3, pw3, ev3, xo3, xt3, xs3, kvs3, r3'⟩ := id r3
  have ha3 := k23.tup _ _ ha
  walk_at "g"
  refine ⟨g, dx3, _, rfl, r3'.obj, noG (by decide +kernel), ?_⟩
  walk_at "g"
  refine spAll.mk r3 (k23.tup _ _ ht) (Paired.imp' hes fun _ _ r => r.tups k23.tup) (rs.kp k23) (by omega) (by show (It.operb en ab lv :: c.todo).length ≤ 19000; rw [List.length_cons]; omega) fun H5 r5 k5 => ?_
  subst hc'
  exact q _ r5 (k23.trans k5)
theorem ok_rule (T : Tx w K mg aFunction aRun aRunB aPlace aForms aActions aOps) (G_Walk_set_for : MtX P w K mg base k aRun "set_for" ["self", "key", "setting", "body", "scope"] (spSetFor aRun aFunction aPlace)) : FnX P w K mg base (k + 1) "_rule" ["going", "node", "place"] (spForm aRun aFunction aPlace 6) := by
  refine T.d__rule.ok sc__rule (fun vs H Q E h => by cases h; rfl) (fun f cdv A outer s H vs Q E hr h => ?_)
  rcases h with ⟨r, rp, rs, b, hn, h, q⟩
  rename_i g v sv c c' e en ab lv
  refine ⟨_, (pss_one (ps_expr (pe_mt T.cl_Walk G_Walk_set_for hr (pv 0) (pa_cons (pe_tup (pa_cons (pe_fld (pv 2) rfl) (pa_cons (pe_ix ix_tup (pv 1) (pe_int) (fun _ _ => rfl)) pa_nil))) (pa_cons (pe_ix ix_tup (pv 1) (pe_int) (fun _ _ => rfl)) (pa_cons (pe_ix ix_tup (pv 1) (pe_int) (fun _ _ => rfl)) (pa_cons (pv 2) pa_nil))))))), ?_⟩
  obtain ⟨dx, po, pt, ps, pw, ev, xo, xt, xs, kvs, r⟩ := r
  have hls := Paired.length' r.s
  rw [List.length_reverse] at hls
  have hbs := b.stk
  have hlt := Paired.length' r.t
  rw [List.length_reverse] at hlt
  have hbt := b.todo
  cases e <;> cases hn
  rename_i q' r' e1
  obtain ⟨a, u1, u2, rfl, ha, re1, re2, hq⟩ := rp
  obtain ⟨sa, dxs, n, d, rfl, h1, h2, h3⟩ := id rs
  have h : (if lvok lv = true then some { c with todo := .visit e1 en ab lv :: .rest lv q' (c.tb lv q') :: c.todo, tb := tset c.tb lv q' (some r') } else none) = some c' := h
  split at h
  rotate_left
  · cases h
  rename_i hk
  cases h
  walk_at "g"
  refine ⟨g, dx, _, rfl, r.obj, noG (by decide +kernel), ?_⟩
  walk_at "g"
  refine ⟨sa, aPlace, dxs, _, _, rfl, h1, T.cl_Place, T.n_Place_level, rfl, ?_⟩
  walk_at "new"; rename_i p2 f2 H2 s2 t2
  have k2 := Same.kp s2
  have ha2 := s2 _ _ ha
  walk_at "g"
  exact spSetFor.mk ⟨_, _, _, _, _, _, _, _, _, _, r.mono s2⟩ (by omega) t2 hk hq (re1.tups k2.tup) (re2.tups k2.tup) (rs.kp k2) (fun H5 r5 k5 => q _ r5 (k2.trans k5))
theorem ok_keep (T : Tx w K mg aFunction aRun aRunB aPlace aForms aActions aOps) (G_Run_set_on : MtX P w K mg base k aRun "set_on" ["self", "key", "setting"] (spSetOn aRun aFunction aPlace)) : FnX P w K mg base (k + 1) "_keep" ["going", "node", "place"] (spForm aRun aFunction aPlace 7) := by
  refine T.d__keep.ok sc__keep (fun vs H Q E h => by cases h; rfl) (fun f cdv A outer s H vs Q E hr h => ?_)
  rcases h with ⟨r, rp, rs, b, hn, h, q⟩
  rename_i g v sv c c' e en ab lv
  refine ⟨_, (pss_one (ps_expr (pe_mt T.cl_Walk G_Run_set_on hr (pv 0) (pa_cons (pe_tup (pa_cons (pe_fld (pv 2) rfl) (pa_cons (pe_ix ix_tup (pv 1) (pe_int) (fun _ _ => rfl)) pa_nil))) (pa_cons (pe_ix ix_tup (pv 1) (pe_int) (fun _ _ => rfl)) pa_nil))))), ?_⟩
  obtain ⟨dx, po, pt, ps, pw, ev, xo, xt, xs, kvs, r⟩ := r
  have hls := Paired.length' r.s
  rw [List.length_reverse] at hls
  have hbs := b.stk
  have hlt := Paired.length' r.t
  rw [List.length_reverse] at hlt
  have hbt := b.todo
  cases e <;> cases hn
  rename_i q' r'
  obtain ⟨a, u1, rfl, ha, re1, hq⟩ := rp
  obtain ⟨sa, dxs, n, d, rfl, h1, h2, h3⟩ := id rs
  have h : (if lvok lv = true then some { c with stk := .int 0 :: c.stk, tb := tset c.tb lv q' (some r') } else none) = some c' := h
  split at h
  rotate_left
  · cases h
  rename_i hk
  cases h
  walk_at "g"
  refine ⟨g, dx, _, rfl, r.obj, noG (by decide +kernel), ?_⟩
  walk_at "g"
  refine ⟨sa, aPlace, dxs, _, _, rfl, h1, T.cl_Place, T.n_Place_level, rfl, ?_⟩
  walk_at "new"; rename_i p2 f2 H2 s2 t2
  have k2 := Same.kp s2
  have ha2 := s2 _ _ ha
  walk_at "g"
  exact spSetOn.mk ⟨_, _, _, _, _, _, _, _, _, _, r.mono s2⟩ (by omega) t2 hk hq (re1.tups k2.tup) (fun H5 r5 k5 => q _ r5 (k2.trans k5))
theorem ok_part_of (T : Tx w K mg aFunction aRun aRunB aPlace aForms aActions aOps) : FnX P w K mg base (k + 1) "part_of" ["node", "number"] spPartOf := by
  refine T.d_part_of.ok sc_part_of (fun vs H Q E h => by cases h; rfl) (fun f cdv A outer s H vs Q E hr h => ?_)
  rcases h with ⟨rp, h, q⟩
  rename_i e p i v
  refine ⟨_, (pss_one (ps_ret (pe_ifExp (pt_cmpR op_eq (pe_ix ix_tup (pv 0) (pe_int) (fun _ _ => rfl)) (pe_str) (nomark _)) (pe_ix ix_tup (pv 0) (pe_int) (fun _ _ => rfl)) (pe_ix ix_tup (pv 0) (pe_op op_add (pe_int) (pv 1)) (fun _ _ => rfl))))), ?_⟩
  cases e with
  | op o e1 e2 =>
    obtain ⟨a, u1, u2, rfl, ha, re1, re2⟩ := rp
    have hw : ¬ o.str = "let" := by cases o <;> exact (by decide +kernel)
    match i, h with
    | 0, h =>
      cases h
      walk_at "g"
      · rename_i e
        exact absurd (str_dec e) hw
      exact q _ re1
    | 1, h =>
      cases h
      walk_at "g"
      · rename_i e
        exact absurd (str_dec e) hw
      exact q _ re2
    | n + 2, h => cases h
  | iff c e1 e2 =>
    obtain ⟨a, t, u1, u2, rfl, ha, re0, re1, re2⟩ := rp
    match i, h with
    | 0, h =>
      cases h
      walk_at "g"
      exact q _ re0
    | 1, h =>
      cases h
      walk_at "g"
      exact q _ re1
    | 2, h =>
      cases h
      walk_at "g"
      exact q _ re2
    | n + 3, h => cases h
  | lett x e1 e2 =>
    obtain ⟨a, u1, u2, rfl, ha, re1, re2⟩ := rp
    match i, h with
    | 0, h =>
      cases h
      walk_at "g"
      exact q _ re1
    | n + 1, h => cases h
  | say e1 =>
    obtain ⟨a, u1, rfl, ha, re1⟩ := rp
    match i, h with
    | 0, h =>
      cases h
      walk_at "g"
      exact q _ re1
    | n + 1, h => cases h
  | num n => cases h
  | name x => cases h
  | fn x b => cases h
  | rule q r b => cases h
  | keep q r => cases h
  | part i => cases h
  | witha a => cases h
  | usual => cases h
  | do1 a => cases h
  | do2 a b => cases h
theorem ok_part (T : Tx w K mg aFunction aRun aRunB aPlace aForms aActions aOps) (G_Walk_visit : MtX P w K mg base k aRun "visit" ["self", "expression", "scope"] (spVisitM aRun aFunction aPlace)) (G_Run_step : MtX P w K mg base k aRun "step" ["self"] (spStep aRun aFunction aPlace)) (G_part_of : FnX P w K mg base k "part_of" ["node", "number"] spPartOf) : FnX P w K mg base (k + 1) "_part" ["going", "node", "place"] (spForm aRun aFunction aPlace 8) := by
  refine T.d__part.ok sc__part (fun vs H Q E h => by cases h; rfl) (fun f cdv A outer s H vs Q E hr h => ?_)
  rcases h with ⟨r, rp, rs, b, hn, h, q⟩
  rename_i g v sv c c' e en ab lv
  refine ⟨_, (pss_cons (ps_asg (pe_fld (pv 2) rfl) (pg_tup rfl (pgs_cons (pg_name (i := 3) sc__part.nd rfl (.inl rfl)) (pgs_cons (pg_name (i := 4) sc__part.nd rfl (.inl rfl)) pgs_nil))))
    (pss_one (ps_if (pt_val (pe_mt0 T.cl_Walk G_Run_step hr (pv 0))) (pss_one (ps_expr (pe_mt T.cl_Walk G_Walk_visit hr (pv 0) (pa_cons (pe_fn G_part_of hr rfl (pa_cons (pv 3) (pa_cons (pe_ix ix_tup (pv 1) (pe_int) (fun _ _ => rfl)) pa_nil))) (pa_cons (pv 4) pa_nil))))) pss_nil))), ?_⟩
  obtain ⟨dx, po, pt, ps, pw, ev, xo, xt, xs, kvs, r⟩ := r
  have hls := Paired.length' r.s
  rw [List.length_reverse] at hls
  have hbs := b.stk
  have hlt := Paired.length' r.t
  rw [List.length_reverse] at hlt
  have hbt := b.todo
  cases e <;> cases hn
  rename_i i
  obtain ⟨a, rfl, ha⟩ := rp
  obtain ⟨sa, dxs, n, d, rfl, h1, h2, h3⟩ := id rs
  cases ab with
  | none => cases h
  | some eb enb abb =>
  rw [RB] at h3
  obtain ⟨ta, ub, sb, dxb, nb, db, rfl, g1, g2, g3, g4, g5⟩ := h3
  have rsb : RS aFunction aPlace H (lv - 1) enb abb (.ref sb) := ⟨sb, dxb, nb, db, rfl, g3, g4, g5⟩
  have h : (match partAt eb i with | some p => c.step fun c => some (c.go p enb abb (lv - 1)) | none => none) = some c' := h
  split at h
  rotate_left
  · cases h
  rename_i p hp
  have h : (if c.fuel = 0 then some { c with ed := some .more } else some (Cf.go { c with fuel := c.fuel - 1 } p enb abb (lv - 1))) = some c' := h
  refine seq_i fun N hN => ?_
  walk_at "g"
  refine ⟨sa, aPlace, dxs, _, _, rfl, h1, T.cl_Place, T.n_Place_about, rfl, ?_⟩
  refine ⟨ta, _, rfl, SqT.of g1, rfl, _, _, rfl, _, _, rfl, rfl, ?_⟩
  refine hN _ _ ?_
  clear hN
  walk_at "g"
  refine ⟨g, dx, _, rfl, r.obj, noG (by decide +kernel), ?_⟩
  walk_at "g"
  refine spStep.mk ⟨_, _, _, _, _, _, _, _, _, _, r⟩ (fun hf H3 r3 k3 => ?_) (fun hf H3 r3 k3 => ?_)
  · rw [if_pos hf] at h
    cases h
    walk_at "g"
    exact q _ r3 k3
  · rw [if_neg hf] at h
    cases h
    obtain ⟨dx3, po3, pt3, ps3, pw3, ev3, xo3, xt3, xs3, kvs3, r3'⟩ := id r3
    have ha3 := k3.tup _ _ ha
    walk_at "g"
    refine ⟨g, dx3, _, rfl, r3'.obj, noG (by decide +kernel), ?_⟩
    walk_at "g"
    refine spPartOf.mk (g2.tups k3.tup) hp fun u ru => ?_
    walk_at "g"
    exact spVisitM.mk r3 ru (rsb.kp k3) (by show c.todo.length ≤ 20000; omega) fun H5 r5 k5 => q _ r5 (k3.trans k5)
theorem ok_usual (T : Tx w K mg aFunction aRun aRunB aPlace aForms aActions aOps) (G_Run_step : MtX P w K mg base k aRun "step" ["self"] (spStep aRun aFunction aPlace)) (G__visit_built_in : FnX P w K mg base k "_visit_built_in" ["going", "node", "place"] (spBuilt aRun aFunction aPlace false)) : FnX P w K mg base (k + 1) "_usual" ["going", "_", "place"] (spForm aRun aFunction aPlace 10) := by
  refine T.d__usual.ok sc__usual (fun vs H Q E h => by cases h; rfl) (fun f cdv A outer s H vs Q E hr h => ?_)
  rcases h with ⟨r, rp, rs, b, hn, h, q⟩
  rename_i g v sv c c' e en ab lv
  refine ⟨_, (pss_cons (ps_asg (pe_fld (pv 2) rfl) (pg_tup rfl (pgs_cons (pg_name (i := 3) sc__usual.nd rfl (.inl rfl)) (pgs_cons (pg_name (i := 4) sc__usual.nd rfl (.inl rfl)) pgs_nil))))
    (pss_one (ps_if (pt_val (pe_mt0 T.cl_Walk G_Run_step hr (pv 0))) (pss_one (ps_expr (pe_fn G__visit_built_in hr rfl (pa_cons (pv 0) (pa_cons (pv 3) (pa_cons (pv 4) pa_nil)))))) pss_nil))), ?_⟩
  obtain ⟨dx, po, pt, ps, pw, ev, xo, xt, xs, kvs, r⟩ := r
  have hls := Paired.length' r.s
  rw [List.length_reverse] at hls
  have hbs := b.stk
  have hlt := Paired.length' r.t
  rw [List.length_reverse] at hlt
  have hbt := b.todo
  cases e <;> cases hn
  obtain ⟨sa, dxs, n, d, rfl, h1, h2, h3⟩ := id rs
  cases ab with
  | none => cases h
  | some eb enb abb =>
  rw [RB] at h3
  obtain ⟨ta, ub, sb, dxb, nb, db, rfl, g1, g2, g3, g4, g5⟩ := h3
  have rsb : RS aFunction aPlace H (lv - 1) enb abb (.ref sb) := ⟨sb, dxb, nb, db, rfl, g3, g4, g5⟩
  have h : (if c.fuel = 0 then some { c with ed := some .more } else bvis0 { c with fuel := c.fuel - 1 } enb abb (lv - 1) eb) = some c' := h
  refine seq_i fun N hN => ?_
  walk_at "g"
  refine ⟨sa, aPlace, dxs, _, _, rfl, h1, T.cl_Place, T.n_Place_about, rfl, ?_⟩
  refine ⟨ta, _, rfl, SqT.of g1, rfl, _, _, rfl, _, _, rfl, rfl, ?_⟩
  refine hN _ _ ?_
  clear hN
  walk_at "g"
  refine ⟨g, dx, _, rfl, r.obj, noG (by decide +kernel), ?_⟩
  walk_at "g"
  refine spStep.mk ⟨_, _, _, _, _, _, _, _, _, _, r⟩ (fun hf H3 r3 k3 => ?_) (fun hf H3 r3 k3 => ?_)
  · rw [if_pos hf] at h
    cases h
    walk_at "g"
    exact q _ r3 k3
  · rw [if_neg hf] at h
    have hch : ch eb = true := by cases eb <;> first | rfl | cases h
    obtain ⟨dx3, po3, pt3, ps3, pw3, ev3, xo3, xt3, xs3, kvs3, r3'⟩ := id r3
    walk_at "g"
    exact spBuilt.mk r3 (g2.tups k3.tup) (rsb.kp k3) ⟨b.todo, b.stk, b.outs⟩ (.inr hch) (by rw [bvis_ch hch]; exact h) fun H5 r5 k5 => q _ r5 (k3.trans k5)
theorem ok_built {all : Bool} (T : Tx w K mg aFunction aRun aRunB aPlace aForms aActions aOps) (A__visit_built_in : ∀ n sp, SdForms aRun aFunction aPlace all n = some sp → ∃ ps, FnX P w K mg base k n ps sp) : FnX P w K mg base (k + 1) "_visit_built_in" ["going", "node", "place"] (spBuilt aRun aFunction aPlace all) := by
  refine T.d__visit_built_in.ok sc__visit_built_in (fun vs H Q E h => by cases h; rfl) (fun f cdv A outer s H vs Q E hr h => ?_)
  rcases h with ⟨r, rp, rs, b, hn, h, q⟩
  rename_i g v sv c c' e en ab lv
  refine ⟨_, (pss_cons (ps_set (i := 3) sc__visit_built_in.nd rfl (.inl rfl) (pe_ix ix_kdict (pe_glob (v := .ref _) rfl T.m_BUILT_IN rfl) (pe_ix ix_tup (pv 1) (pe_int) (fun _ _ => rfl)) (fun _ _ => rfl)))
    (pss_one (ps_expr (pe_callD _ A__visit_built_in hr (i := 3) rfl (.inl rfl) (pa_cons (pv 0) (pa_cons (pv 1) (pa_cons (pv 2) pa_nil))))))), ?_⟩
  obtain ⟨a, rest, nm, rfl, ha, h1, h2⟩ := rt_word (CR := aRun) (CF := aFunction) (CS := aPlace) rp hn
  obtain ⟨fa, m1, m2⟩ := T.f_FORMS (wd e) nm h1
  refine seq_i fun N hN => ?_
  walk_at "g"
  refine ⟨a, _, _, _, rfl, rfl, SqT.of ha, at0, ?_⟩
  refine ⟨aForms, wd e, .ref fa, rfl, rfl, m2, ?_⟩
  refine hN _ _ ?_
  walk_at "g"
  refine ⟨nm, fa, _, rfl, m1, h2, ?_⟩
  walk_at "g"
  exact .mk r rp rs b rfl h q
end
end Zt

set_option Elab.async false
set_option linter.all false
set_option maxRecDepth 100000
set_option maxHeartbeats 4000000
namespace Zt
open PySem L2 PySem.Spec PyProof.Rows Zg
local macro_rules | `(tactic| walk_at "sq") => `(tactic| first | exact SqL.of (by assumption) | exact .inl (SqL.of (by assumption)) | assumption | exact SqT.of (by assumption) | exact .inr (SqT.of (by assumption)) | exact SqL.of upd_same | exact .inl (SqL.of upd_same))
local macro_rules | `(tactic| walk_at "hp") => `(tactic| first | assumption | exact upd_same)
local macro_rules | `(tactic| walk_at "cond") => `(tactic| first | assumption | rfl | (apply And.intro <;> assumption) | decide | (show (0 : Int) < _; decide) | (apply And.intro <;> decide) | (apply Or.inr; apply And.intro <;> decide) | (apply Or.inl; apply And.intro <;> decide))
local macro_rules | `(tactic| walk_at "s") => `(tactic| first
  | (with_reducible apply iteF)
  | (with_reducible apply iteT)
  | (apply e1; rfl)
  | (apply e2; rfl; rfl)
  | (apply e4; rfl; rfl; walk_at "sq"; rfl)
  | (apply e4; rfl; rfl; walk_at "hp"; rfl)
  | (apply e2; rfl; walk_at "sq")
  | (apply eOr; rfl)
  | (apply eOrR; rfl)
  | (apply eTru; walk_at "sq")
  | (apply eTruT; walk_at "sq")
  | (apply And.intro; (walk_at "cond"))
  | (apply iteTr; rfl)
  | (apply iteFr; rfl)
  | (apply iteD; all_goals intro _)
  | (with_reducible apply tNext_i))
local macro_rules | `(tactic| walk_at "g") => `(tactic| repeat' ((fail_if_success (with_reducible apply seq_i)); (fail_if_success (with_reducible apply cut_i)); (walk_at "s")))
local macro_rules | `(tactic| walk_at "size") => `(tactic| first | (simp only [List.length_cons, List.length_nil]; decide) | decide)
local macro_rules | `(tactic| walk_at "newp") => `(tactic| (intro p hp; generalize hH : upd _ _ _ = H1; have st := new_facts hp hH; clear hH; obtain ⟨s, t⟩ := st))
local macro_rules | `(tactic| walk_at "new") => `(tactic| walk_at "g"; first | (apply And.intro; (focus (apply small100; walk_at "size")); walk_at "newp") | (walk_at "newp"))

inductive spAct (CR CF CS : Addr) (w : Str) : List V → Hp → VK → XK → Prop
  | mk {g : Addr} {t s : V} {c c' : Cf} {i : It} {H : Hp} {Q : VK} {E : XK} (r : RunAt CR CF CS H g c) (ri : RIw CF CS H i w t s) (b : Bd c) (h : stepIt c i = some c') (q : Act CR CF CS H g c' Q .non) : spAct CR CF CS w [.ref g, t, s] H Q E
inductive spBindF (CR CF CS : Addr) : List V → Hp → VK → XK → Prop
  | mk {g a : Addr} {x : Str} {cv u s : V} {e : TE} {en : En} {ab : Ab} {k : Int} {c c' : Cf} {H : Hp} {Q : VK} {E : XK} (r : RunAt CR CF CS H g c) (ha : H a = some (.tup [.str "let", .str x, cv, u])) (re : RT H e u) (rs : RS CF CS H k en ab s) (b : Bd c) (h : bindIt c x e en ab k = some c') (q : Act CR CF CS H g c' Q .non) : spBindF CR CF CS [.ref g, .ref a, s] H Q E
def SdActs (CR CF CS : Addr) (n : Str) : Option Sp :=
  if n = "_visit" then some (spAct CR CF CS "visit") else if n = "_operate" then some (spAct CR CF CS "operate") else if n = "_choose" then some (spAct CR CF CS "choose") else if n = "_bind" then some (spAct CR CF CS "bind")
  else if n = "_restore" then some (spAct CR CF CS "restore") else if n = "_bind_below" then some (spAct CR CF CS "bind below") else if n = "_operate_below" then some (spAct CR CF CS "operate below") else none
theorem visit_no {c : Cf} {e : TE} {en : En} {ab : Ab} {k : Int} (h : c.tb k (wd e) = none) : visitIt c e en ab k = bvis c en ab k e := by
  unfold visitIt
  split
  · rw [h]
  · rfl
theorem visit_yes {c : Cf} {e r : TE} {en : En} {ab : Ab} {k : Int} (h : c.tb k (wd e) = some r) (hc : ch e = true) : visitIt c e en ab k = some (c.go r .nil (.some e en ab) (k + 1)) := by
  unfold visitIt
  rw [if_pos hc, h]
theorem rt_tup {H : Hp} {e : TE} {v : V} (r : RT H e v) : ∃ a rest, v = .ref a ∧ H a = some (.tup (.str (wd e) :: rest)) := by
  obtain ⟨a, rest, nm, h1, h2, _⟩ := rt_word (CR := 0) (CF := 0) (CS := 0) (all := true) r (.inl rfl)
  exact ⟨a, rest, h1, h2⟩
section
variable {P : Program} {w : World} {K : PySem.W.Frag} {mg : Str → Option Value} {base : Heap} {aFunction aRun aRunB aPlace aForms aActions aOps : Addr} {k : Nat}
theorem ok_visit_ (T : Tx w K mg aFunction aRun aRunB aPlace aForms aActions aOps) (G_Walk_visit : MtX P w K mg base (k + 1) aRun "visit" ["self", "expression", "scope"] (spVisitM aRun aFunction aPlace)) (G__visit_built_in : FnX P w K mg base (k + 1) "_visit_built_in" ["going", "node", "place"] (spBuilt aRun aFunction aPlace true)) (G_Place___init__ : MkX P w K mg base k aPlace ["self", "level", "names", "about"] (spPInit aPlace)) : FnX P w K mg base (k + 1 + 1) "_visit" ["going", "node", "place"] (spAct aRun aFunction aPlace "visit") := by
  refine T.d__visit.ok sc__visit (fun vs H Q E h => by cases h; rfl) (fun f cdv A outer s H vs Q E hr h => ?_)
  rcases h with ⟨r, ri, b, h, q⟩
  rename_i g v sv c c' i
  refine ⟨_, (pss_cons (ps_set (i := 3) sc__visit.nd rfl (.inl rfl) (pe_dget2 (hu_of hr) (pe_fld (pv 0) rfl) (pe_tup (pa_cons (pe_fld (pv 2) rfl) (pa_cons (pe_ix ix_tup (pv 1) (pe_int) (fun _ _ => rfl)) pa_nil))) (pe_int) ⟨rfl, rfl, rfl, rfl⟩))
    (pss_one (ps_if (pt_cmpR (op_eqTI hr.units0) (pv 3) (pe_int) (nomark _)) (pss_one (ps_expr (pe_fn G__visit_built_in hr rfl (pa_cons (pv 0) (pa_cons (pv 1) (pa_cons (pv 2) pa_nil)))))) (pss_one (ps_expr (pe_mt T.cl_Walk G_Walk_visit hr (pv 0) (pa_cons (pv 3) (pa_cons (pe_mk G_Place___init__ hr rfl T.mg_Place (pa_cons (pe_op op_add (pe_fld (pv 2) rfl) (pe_int)) (pa_cons (pe_non) (pa_cons (pe_tup (pa_cons (pv 1) (pa_cons (pv 2) pa_nil))) pa_nil)))) pa_nil)))))))), ?_⟩
  have hbt := b.todo
  obtain ⟨dx, po, pt, ps, pw, ev, xo, xt, xs, kvs, r'⟩ := id r
  cases i with
  | oper o lv => exact absurd ri.1 (by decide +kernel)
  | says lv => exact absurd ri.1 (by decide +kernel)
  | choose e1 e2 en ab lv => exact absurd ri.1 (by decide +kernel)
  | bind x e1 en ab lv => exact absurd ri.1 (by decide +kernel)
  | rest lv q' r0 => exact absurd ri.1 (by decide +kernel)
  | bindb en ab lv => exact absurd ri.1 (by decide +kernel)
  | operb en ab lv => exact absurd ri.1 (by decide +kernel)
  | visit e en ab lv =>
  obtain ⟨_, rp, rs⟩ := ri
  obtain ⟨a, rest, rfl, ha⟩ := rt_tup rp
  obtain ⟨sa, dxs, n, d, rfl, h1, h2, h3⟩ := id rs
  refine seq_i fun N hN => ?_
  walk_at "g"
  refine ⟨g, aRun, dx, _, _, rfl, r'.obj, T.cl_Run, T.n_Run_settings, rfl, ?_⟩
  refine ⟨pw, rfl, .inr ⟨kvs, .inl r'.hw⟩, ?_⟩
  walk_at "g"
  refine ⟨sa, aPlace, dxs, _, _, rfl, h1, T.cl_Place, T.n_Place_level, rfl, ?_⟩
  walk_at "g"
  refine ⟨a, _, _, _, rfl, rfl, SqT.of ha, at0, ?_⟩
  walk_at "new"; rename_i p2 f2 H2 s2 t2
  have r2 := r'.mono s2
  have k2 := Same.kp s2
  walk_at "g"
  refine ⟨_, DGet.t (k := ky lv (wd e)) r2.hw t2, ?_⟩
  have hbe := r2.w.1 lv (wd e)
  generalize (valV kvs (ky lv (wd e))).getD (.int 0) = be at hbe ⊢
  refine hN _ _ ?_
  clear hN
  have h : visitIt c e en ab lv = some c' := h
  cases htb : c.tb lv (wd e) with
  | none =>
    rw [htb] at hbe
    cases (show be = .int 0 from hbe)
    rw [visit_no htb] at h
    refine ⟨_, rfl, 0, rfl, .inl ⟨0, rfl, ?_⟩⟩
    walk_at "g"
    exact spBuilt.mk ⟨_, _, _, _, _, _, _, _, _, _, r2⟩ (rp.tups k2.tup) (rs.kp k2) b (.inl rfl) h fun H5 r5 k5 => q _ r5 (k2.trans k5)
  | some r1 =>
    rw [htb] at hbe
    have hbe : RT H2 r1 be := hbe
    obtain ⟨ba, brest, rfl, hba⟩ := rt_tup hbe
    have hch : ch e = true := by
      cases hc : ch e with
      | true => rfl
      | false =>
        have := r2.w.2 lv (wd e) (ch_not hc)
        rw [this] at htb
        cases htb
    rw [visit_yes htb hch] at h
    cases h
    refine ⟨_, rfl, 0, rfl, .inr ⟨ba, _, rfl, hba, ?_⟩⟩
    walk_at "g"
    refine ⟨g, dx, _, rfl, r2.obj, noG (by decide +kernel), ?_⟩
    walk_at "g"
    refine ⟨sa, aPlace, dxs, _, _, rfl, s2 _ _ h1, T.cl_Place, T.n_Place_level, rfl, ?_⟩
    walk_at "g"
    walk_at "new"; rename_i p3 f3 H3 s3 t3
    intro pn dn np ndn nen
    obtain ⟨s4, t4⟩ := mk_i (C := aPlace) np ndn
    generalize upd (upd H3 dn (.own pn)) pn (.ins aPlace dn []) = H4 at s4 t4 ⊢
    refine spPInit.mk t4 fun H5 o5 t5 => ⟨rfl, ?_⟩
    have s35 : Same H3 H5 := own_same np s4 o5
    have s25 : Same H2 H5 := Same.trans s3 s35
    have s05 : Same H H5 := Same.trans s2 s25
    have k5 := Same.kp s05
    obtain ⟨sa', dxs', n', d', e', g1, g2, g3⟩ := rs.kp k5
    cases e'
    have rs5 : RS aFunction aPlace H5 (lv + 1) .nil (.some e en ab) (.ref pn) := ⟨pn, dn, .non, .ref p3, rfl, t5, by rw [RE], by
      rw [RB]
      have ee : lv + 1 - 1 = lv := by omega
      rw [ee]
      exact ⟨p3, .ref a, sa, dxs', n', d', rfl, s35 _ _ t3, rp.tups k5.tup, g1, g2, g3⟩⟩
    walk_at "g"
    exact spVisitM.mk ⟨_, _, _, _, _, _, _, _, _, _, r2.mono s25⟩ (hbe.tups (Same.tups s25)) rs5 (by omega) fun H6 r6 k6 => q _ r6 (k5.trans k6)
theorem ok_operate_ (T : Tx w K mg aFunction aRun aRunB aPlace aForms aActions aOps) (G_Run_operate : MtX P w K mg base k aRun "operate" ["self", "word", "level"] (spOperate aRun aFunction aPlace)) : FnX P w K mg base (k + 1) "_operate" ["going", "word", "place"] (spAct aRun aFunction aPlace "operate") := by
  refine T.d__operate.ok sc__operate (fun vs H Q E h => by cases h; rfl) (fun f cdv A outer s H vs Q E hr h => ?_)
  rcases h with ⟨r, ri, b, h, q⟩
  rename_i g v sv c c' i
  refine ⟨_, (pss_one (ps_expr (pe_mt T.cl_Walk G_Run_operate hr (pv 0) (pa_cons (pv 1) (pa_cons (pe_fld (pv 2) rfl) pa_nil))))), ?_⟩
  have hbt := b.todo
  obtain ⟨dx, po, pt, ps, pw, ev, xo, xt, xs, kvs, r'⟩ := id r
  obtain ⟨x, lv, en, ab, rfl, hw, rs⟩ : ∃ (x : Str) (lv : Int) (en : En) (ab : Ab), v = .str x ∧ ((∃ o : Opw, x = o.str ∧ i = .oper o lv) ∨ (x = "say" ∧ i = .says lv)) ∧ RS aFunction aPlace H lv en ab sv := by
    cases i with
    | visit e en ab lv => exact absurd ri.1 (by decide +kernel)
    | choose e1 e2 en ab lv => exact absurd ri.1 (by decide +kernel)
    | bind x e1 en ab lv => exact absurd ri.1 (by decide +kernel)
    | rest lv q' r0 => exact absurd ri.1 (by decide +kernel)
    | bindb en ab lv => exact absurd ri.1 (by decide +kernel)
    | operb en ab lv => exact absurd ri.1 (by decide +kernel)
    | oper o lv =>
      obtain ⟨_, e1, en, ab, rs⟩ := ri
      exact ⟨_, lv, en, ab, e1, .inl ⟨o, rfl, rfl⟩, rs⟩
    | says lv =>
      obtain ⟨_, e1, en, ab, rs⟩ := ri
      exact ⟨_, lv, en, ab, e1, .inr ⟨rfl, rfl⟩, rs⟩
  obtain ⟨sa, dxs, n, d, rfl, h1, h2, h3⟩ := rs
  walk_at "g"
  refine ⟨g, dx, _, rfl, r'.obj, noG (by decide +kernel), ?_⟩
  walk_at "g"
  refine ⟨sa, aPlace, dxs, _, _, rfl, h1, T.cl_Place, T.n_Place_level, rfl, ?_⟩
  walk_at "g"
  exact .mk r b hw h q
theorem ok_choose_ (T : Tx w K mg aFunction aRun aRunB aPlace aForms aActions aOps) (G_Walk_choose : MtX P w K mg base k aRun "choose" ["self", "level", "branches", "scope"] (spChoose aRun aFunction aPlace)) : FnX P w K mg base (k + 1) "_choose" ["going", "branches", "place"] (spAct aRun aFunction aPlace "choose") := by
  refine T.d__choose.ok sc__choose (fun vs H Q E h => by cases h; rfl) (fun f cdv A outer s H vs Q E hr h => ?_)
  rcases h with ⟨r, ri, b, h, q⟩
  rename_i g v sv c c' i
  refine ⟨_, (pss_one (ps_expr (pe_mt T.cl_Walk G_Walk_choose hr (pv 0) (pa_cons (pe_fld (pv 2) rfl) (pa_cons (pv 1) (pa_cons (pv 2) pa_nil)))))), ?_⟩
  have hbt := b.todo
  obtain ⟨dx, po, pt, ps, pw, ev, xo, xt, xs, kvs, r'⟩ := id r
  cases i with
  | visit e en ab lv => exact absurd ri.1 (by decide +kernel)
  | oper o lv => exact absurd ri.1 (by decide +kernel)
  | says lv => exact absurd ri.1 (by decide +kernel)
  | bind x e1 en ab lv => exact absurd ri.1 (by decide +kernel)
  | rest lv q' r0 => exact absurd ri.1 (by decide +kernel)
  | bindb en ab lv => exact absurd ri.1 (by decide +kernel)
  | operb en ab lv => exact absurd ri.1 (by decide +kernel)
  | choose e1 e2 en ab lv =>
  obtain ⟨_, rs, p, u1, u2, rfl, ha, re1, re2⟩ := ri
  obtain ⟨sa, dxs, n, d, rfl, h1, h2, h3⟩ := id rs
  walk_at "g"
  refine ⟨g, dx, _, rfl, r'.obj, noG (by decide +kernel), ?_⟩
  walk_at "g"
  refine ⟨sa, aPlace, dxs, _, _, rfl, h1, T.cl_Place, T.n_Place_level, rfl, ?_⟩
  walk_at "g"
  cases hst : c.stk with
  | nil => simp only [stepIt, hst] at h; cases h
  | cons v1 rest =>
    simp only [stepIt, hst] at h
    refine spChoose.mk r hst (by omega) ha rs re1 re2 (fun hf => ?_) (fun i hi => ?_)
    · cases v1 with
      | int i => cases hf
      | fn => cases h; exact q
    · subst hi
      cases h
      exact q
theorem ok_bindF (T : Tx w K mg aFunction aRun aRunB aPlace aForms aActions aOps) (G_Walk_visit : MtX P w K mg base k aRun "visit" ["self", "expression", "scope"] (spVisitM aRun aFunction aPlace)) (G_Place_bind : MtX P w K mg base k aPlace "bind" ["self", "name", "value"] (spBind aFunction aPlace)) : FnX P w K mg base (k + 1) "_bind" ["going", "node", "place"] (spBindF aRun aFunction aPlace) := by
  refine T.d__bind.ok sc__bind (fun vs H Q E h => by cases h; rfl) (fun f cdv A outer s H vs Q E hr h => ?_)
  rcases h with ⟨r, ha, re, rs, b, h, q⟩
  rename_i g a x cv u sv e en ab lv c c'
  refine ⟨_, (pss_one (ps_expr (pe_mt T.cl_Walk G_Walk_visit hr (pv 0) (pa_cons (pe_ix ix_tup (pv 1) (pe_int) (fun _ _ => rfl)) (pa_cons (pe_mt T.cl_Place G_Place_bind hr (pv 2) (pa_cons (pe_ix ix_tup (pv 1) (pe_int) (fun _ _ => rfl)) (pa_cons (pe_bm0 PySem.F.plainAttrs_list PySem.F.slot_list_pop PySem.F.type_list_pop mt_pop (pe_fld (pv 0) rfl)) pa_nil))) pa_nil))))), ?_⟩
  have hbt := b.todo
  obtain ⟨dx, po, pt, ps, pw, ev, xo, xt, xs, kvs, r'⟩ := id r
  cases hst : c.stk with
  | nil => simp only [bindIt, hst] at h; cases h
  | cons v1 rest =>
  simp only [bindIt, hst] at h
  cases h
  obtain ⟨u1, xs', ex, rv, hlast, hdrop, r1, k1⟩ := r'.popS hst
  obtain ⟨sa, dxs, n, d, rfl, h1, h2, h3⟩ := id rs
  walk_at "g"
  refine ⟨g, dx, _, rfl, r'.obj, noG (by decide +kernel), ?_⟩
  walk_at "g"
  refine ⟨sa, dxs, _, rfl, h1, noS (by decide +kernel), ?_⟩
  walk_at "g"
  refine ⟨g, aRun, dx, _, _, rfl, r'.obj, T.cl_Run, T.n_Run_stack, rfl, ?_⟩
  refine ⟨.inl ⟨rfl, _, SqL.of r'.hs⟩, ?_⟩
  refine ⟨_, _, _, rfl, rfl, r'.hs, hlast, ?_⟩
  rw [hdrop]
  generalize upd H ps (.lst xs') = H1 at *
  walk_at "g"
  refine spBind.mk (rs.kp k1) (rv.kp k1) fun s' H2 s2 rs2 => ?_
  have k2 := k1.trans (Same.kp s2)
  walk_at "g"
  exact spVisitM.mk ⟨_, _, _, _, _, _, _, _, _, _, r1.mono s2⟩ (re.tups k2.tup) rs2 (by show c.todo.length ≤ 20000; omega) (fun H5 r5 k5 => q _ r5 (k2.trans k5))
theorem bind_act (G : FnX P w K mg base k "_bind" ["going", "node", "place"] (spBindF aRun aFunction aPlace)) : FnX P w K mg base k "_bind" ["going", "node", "place"] (spAct aRun aFunction aPlace "bind") := by
  refine G.imp fun vs H Q E h => ?_
  rcases h with ⟨r, ri, b, h, q⟩
  rename_i g v sv c c' i
  cases i with
  | visit e en ab lv => exact absurd ri.1 (by decide +kernel)
  | oper o lv => exact absurd ri.1 (by decide +kernel)
  | says lv => exact absurd ri.1 (by decide +kernel)
  | choose e1 e2 en ab lv => exact absurd ri.1 (by decide +kernel)
  | rest lv q' r0 => exact absurd ri.1 (by decide +kernel)
  | bindb en ab lv => exact absurd ri.1 (by decide +kernel)
  | operb en ab lv => exact absurd ri.1 (by decide +kernel)
  | bind x e1 en ab lv =>
  obtain ⟨_, rs, a, cv, u, rfl, ha, re⟩ := ri
  exact .mk r ha re rs b h q
theorem ok_restore_ (T : Tx w K mg aFunction aRun aRunB aPlace aForms aActions aOps) (G_Walk_restore : MtX P w K mg base k aRun "restore" ["self", "change"] (spRestore aRun aFunction aPlace)) : FnX P w K mg base (k + 1) "_restore" ["going", "change", "_"] (spAct aRun aFunction aPlace "restore") := by
  refine T.d__restore.ok sc__restore (fun vs H Q E h => by cases h; rfl) (fun f cdv A outer s H vs Q E hr h => ?_)
  rcases h with ⟨r, ri, b, h, q⟩
  rename_i g v sv c c' i
  refine ⟨_, (pss_one (ps_expr (pe_mt T.cl_Walk G_Walk_restore hr (pv 0) (pa_cons (pv 1) pa_nil)))), ?_⟩
  have hbt := b.todo
  obtain ⟨dx, po, pt, ps, pw, ev, xo, xt, xs, kvs, r'⟩ := id r
  cases i with
  | visit e en ab lv => exact absurd ri.1 (by decide +kernel)
  | oper o lv => exact absurd ri.1 (by decide +kernel)
  | says lv => exact absurd ri.1 (by decide +kernel)
  | choose e1 e2 en ab lv => exact absurd ri.1 (by decide +kernel)
  | bind x e1 en ab lv => exact absurd ri.1 (by decide +kernel)
  | bindb en ab lv => exact absurd ri.1 (by decide +kernel)
  | operb en ab lv => exact absurd ri.1 (by decide +kernel)
  | rest lv q' r0 =>
  obtain ⟨_, hq, p, kp, b', rfl, hp, hkp, rr⟩ := ri
  have h : (if lvok lv = true then some { c with tb := tset c.tb lv q' r0 } else none) = some c' := h
  split at h
  rotate_left
  · cases h
  rename_i hk
  cases h
  walk_at "g"
  refine ⟨g, dx, _, rfl, r'.obj, noG (by decide +kernel), ?_⟩
  walk_at "g"
  exact spRestore.mk r hp hkp hk hq rr q
theorem ok_bind_below_ (T : Tx w K mg aFunction aRun aRunB aPlace aForms aActions aOps) (G_Run_step : MtX P w K mg base k aRun "step" ["self"] (spStep aRun aFunction aPlace)) (G__bind : FnX P w K mg base k "_bind" ["going", "node", "place"] (spBindF aRun aFunction aPlace)) : FnX P w K mg base (k + 1) "_bind_below" ["going", "_", "place"] (spAct aRun aFunction aPlace "bind below") := by
  refine T.d__bind_below.ok sc__bind_below (fun vs H Q E h => by cases h; rfl) (fun f cdv A outer s H vs Q E hr h => ?_)
  rcases h with ⟨r, ri, b, h, q⟩
  rename_i g v sv c c' i
  refine ⟨_, (pss_cons (ps_asg (pe_fld (pv 2) rfl) (pg_tup rfl (pgs_cons (pg_name (i := 3) sc__bind_below.nd rfl (.inl rfl)) (pgs_cons (pg_name (i := 4) sc__bind_below.nd rfl (.inl rfl)) pgs_nil))))
    (pss_one (ps_if (pt_val (pe_mt0 T.cl_Walk G_Run_step hr (pv 0))) (pss_one (ps_expr (pe_fn G__bind hr rfl (pa_cons (pv 0) (pa_cons (pv 3) (pa_cons (pv 4) pa_nil)))))) pss_nil))), ?_⟩
  have hbt := b.todo
  obtain ⟨dx, po, pt, ps, pw, ev, xo, xt, xs, kvs, r'⟩ := id r
  cases i with
  | visit e en ab lv => exact absurd ri.1 (by decide +kernel)
  | oper o lv => exact absurd ri.1 (by decide +kernel)
  | says lv => exact absurd ri.1 (by decide +kernel)
  | choose e1 e2 en ab lv => exact absurd ri.1 (by decide +kernel)
  | bind x e1 en ab lv => exact absurd ri.1 (by decide +kernel)
  | rest lv q' r0 => exact absurd ri.1 (by decide +kernel)
  | operb en ab lv => exact absurd ri.1 (by decide +kernel)
  | bindb en ab lv =>
  obtain ⟨_, rs⟩ := ri
  obtain ⟨sa, dxs, n, d, rfl, h1, h2, h3⟩ := id rs
  cases ab with
  | none => cases h
  | some eb enb abb =>
  rw [RB] at h3
  obtain ⟨ta, ub, sb, dxb, nb, db, rfl, g1, g2, g3, g4, g5⟩ := h3
  have rsb : RS aFunction aPlace H (lv - 1) enb abb (.ref sb) := ⟨sb, dxb, nb, db, rfl, g3, g4, g5⟩
  refine seq_i fun N hN => ?_
  walk_at "g"
  refine ⟨sa, aPlace, dxs, _, _, rfl, h1, T.cl_Place, T.n_Place_about, rfl, ?_⟩
  refine ⟨ta, _, rfl, SqT.of g1, rfl, _, _, rfl, _, _, rfl, rfl, ?_⟩
  refine hN _ _ ?_
  clear hN
  walk_at "g"
  refine ⟨g, dx, _, rfl, r'.obj, noG (by decide +kernel), ?_⟩
  walk_at "g"
  cases eb with
  | lett x e1 e2 =>
    obtain ⟨la, u1, u2, rfl, hla, re1, re2⟩ := g2
    have h : (if c.fuel = 0 then some { c with ed := some .more } else bindIt { c with fuel := c.fuel - 1 } x e2 enb abb (lv - 1)) = some c' := h
    refine spStep.mk r (fun hf H3 r3 k3 => ?_) (fun hf H3 r3 k3 => ?_)
    · rw [if_pos hf] at h
      cases h
      walk_at "g"
      exact q _ r3 k3
    · rw [if_neg hf] at h
      walk_at "g"
      exact spBindF.mk r3 (k3.tup _ _ hla) (re2.tups k3.tup) (rsb.kp k3) ⟨b.todo, b.stk, b.outs⟩ h fun H5 r5 k5 => q _ r5 (k3.trans k5)
  | num n => cases h
  | name x => cases h
  | fn x b => cases h
  | op o e1 e2 => cases h
  | iff c e1 e2 => cases h
  | say e1 => cases h
  | rule q r b => cases h
  | keep q r => cases h
  | part i => cases h
  | witha a => cases h
  | usual => cases h
  | do1 a => cases h
  | do2 a b => cases h
theorem ok_operate_below_ (T : Tx w K mg aFunction aRun aRunB aPlace aForms aActions aOps) (G_Run_step : MtX P w K mg base k aRun "step" ["self"] (spStep aRun aFunction aPlace)) (G_Run_operate : MtX P w K mg base k aRun "operate" ["self", "word", "level"] (spOperate aRun aFunction aPlace)) : FnX P w K mg base (k + 1) "_operate_below" ["going", "_", "place"] (spAct aRun aFunction aPlace "operate below") := by
  refine T.d__operate_below.ok sc__operate_below (fun vs H Q E h => by cases h; rfl) (fun f cdv A outer s H vs Q E hr h => ?_)
  rcases h with ⟨r, ri, b, h, q⟩
  rename_i g v sv c c' i
  refine ⟨_, (pss_cons (ps_asg (pe_fld (pv 2) rfl) (pg_tup rfl (pgs_cons (pg_name (i := 3) sc__operate_below.nd rfl (.inl rfl)) (pgs_cons (pg_name (i := 4) sc__operate_below.nd rfl (.inl rfl)) pgs_nil))))
    (pss_one (ps_if (pt_val (pe_mt0 T.cl_Walk G_Run_step hr (pv 0))) (pss_one (ps_expr (pe_mt T.cl_Walk G_Run_operate hr (pv 0) (pa_cons (pe_ix ix_tup (pv 3) (pe_int) (fun _ _ => rfl)) (pa_cons (pe_fld (pv 4) rfl) pa_nil))))) pss_nil))), ?_⟩
  have hbt := b.todo
  obtain ⟨dx, po, pt, ps, pw, ev, xo, xt, xs, kvs, r'⟩ := id r
  cases i with
  | visit e en ab lv => exact absurd ri.1 (by decide +kernel)
  | oper o lv => exact absurd ri.1 (by decide +kernel)
  | says lv => exact absurd ri.1 (by decide +kernel)
  | choose e1 e2 en ab lv => exact absurd ri.1 (by decide +kernel)
  | bind x e1 en ab lv => exact absurd ri.1 (by decide +kernel)
  | rest lv q' r0 => exact absurd ri.1 (by decide +kernel)
  | bindb en ab lv => exact absurd ri.1 (by decide +kernel)
  | operb en ab lv =>
  obtain ⟨_, rs⟩ := ri
  obtain ⟨sa, dxs, n, d, rfl, h1, h2, h3⟩ := id rs
  cases ab with
  | none => cases h
  | some eb enb abb =>
  rw [RB] at h3
  obtain ⟨ta, ub, sb, dxb, nb, db, rfl, g1, g2, g3, g4, g5⟩ := h3
  have rsb : RS aFunction aPlace H (lv - 1) enb abb (.ref sb) := ⟨sb, dxb, nb, db, rfl, g3, g4, g5⟩
  refine seq_i fun N hN => ?_
  walk_at "g"
  refine ⟨sa, aPlace, dxs, _, _, rfl, h1, T.cl_Place, T.n_Place_about, rfl, ?_⟩
  refine ⟨ta, _, rfl, SqT.of g1, rfl, _, _, rfl, _, _, rfl, rfl, ?_⟩
  refine hN _ _ ?_
  clear hN
  walk_at "g"
  refine ⟨g, dx, _, rfl, r'.obj, noG (by decide +kernel), ?_⟩
  walk_at "g"
  obtain ⟨ba, brest, rfl, hba⟩ := rt_tup g2
  obtain ⟨it, h, hw⟩ : ∃ it : It, (if c.fuel = 0 then some { c with ed := some .more } else stepIt { c with fuel := c.fuel - 1 } it) = some c' ∧ ((∃ o : Opw, wd eb = o.str ∧ it = .oper o (lv - 1)) ∨ (wd eb = "say" ∧ it = .says (lv - 1))) := by
    cases eb with
    | op o e1 e2 => exact ⟨.oper o (lv - 1), h, .inl ⟨o, rfl, rfl⟩⟩
    | say e1 => exact ⟨.says (lv - 1), h, .inr ⟨rfl, rfl⟩⟩
    | num n => cases h
    | name x => cases h
    | fn x b => cases h
    | lett x e1 e2 => cases h
    | iff c e1 e2 => cases h
    | rule q r b => cases h
    | keep q r => cases h
    | part i => cases h
    | witha a => cases h
    | usual => cases h
    | do1 a => cases h
    | do2 a b => cases h
  refine spStep.mk r (fun hf H3 r3 k3 => ?_) (fun hf H3 r3 k3 => ?_)
  · rw [if_pos hf] at h
    cases h
    walk_at "g"
    exact q _ r3 k3
  · rw [if_neg hf] at h
    obtain ⟨dx3, po3, pt3, ps3, pw3, ev3, xo3, xt3, xs3, kvs3, r3'⟩ := id r3
    have hba3 := k3.tup _ _ hba
    have g33 := k3.sc _ _ _ _ _ _ g3
    walk_at "g"
    refine ⟨g, dx3, _, rfl, r3'.obj, noG (by decide +kernel), ?_⟩
    walk_at "g"
    refine ⟨ba, _, _, _, rfl, rfl, SqT.of hba3, at0, ?_⟩
    walk_at "g"
    refine ⟨sb, aPlace, dxb, _, _, rfl, g33, T.cl_Place, T.n_Place_level, rfl, ?_⟩
    walk_at "g"
    exact spOperate.mk r3 ⟨b.todo, b.stk, b.outs⟩ hw h fun H5 r5 k5 => q _ r5 (k3.trans k5)
end
end Zt

set_option Elab.async false
set_option linter.all false
set_option maxRecDepth 100000
set_option maxHeartbeats 4000000
namespace Zt
open PySem L2 PySem.Spec PyProof.Rows Zg
local macro_rules | `(tactic| walk_at "sq") => `(tactic| first | exact SqL.of (by assumption) | exact .inl (SqL.of (by assumption)) | assumption | exact SqT.of (by assumption) | exact .inr (SqT.of (by assumption)) | exact SqL.of upd_same | exact .inl (SqL.of upd_same))
local macro_rules | `(tactic| walk_at "hp") => `(tactic| first | assumption | exact upd_same)
local macro_rules | `(tactic| walk_at "cond") => `(tactic| first | assumption | rfl | (apply And.intro <;> assumption) | decide | (show (0 : Int) < _; decide) | (apply And.intro <;> decide) | (apply Or.inr; apply And.intro <;> decide) | (apply Or.inl; apply And.intro <;> decide))
local macro_rules | `(tactic| walk_at "s") => `(tactic| first
  | (with_reducible apply iteF)
  | (with_reducible apply iteT)
  | (apply e1; rfl)
  | (apply e2; rfl; rfl)
  | (apply e4; rfl; rfl; walk_at "sq"; rfl)
  | (apply e4; rfl; rfl; walk_at "hp"; rfl)
  | (apply e2; rfl; walk_at "sq")
  | (apply eOr; rfl)
  | (apply eOrR; rfl)
  | (apply eTru; walk_at "sq")
  | (apply eTruT; walk_at "sq")
  | (apply And.intro; (walk_at "cond"))
  | (apply iteTr; rfl)
  | (apply iteFr; rfl)
  | (apply iteD; all_goals intro _)
  | (with_reducible apply tNext_i))
local macro_rules | `(tactic| walk_at "g") => `(tactic| repeat' ((fail_if_success (with_reducible apply seq_i)); (fail_if_success (with_reducible apply cut_i)); (walk_at "s")))
local macro_rules | `(tactic| walk_at "size") => `(tactic| first | (simp only [List.length_cons, List.length_nil]; decide) | decide)
local macro_rules | `(tactic| walk_at "newp") => `(tactic| (intro p hp; generalize hH : upd _ _ _ = H1; have st := new_facts hp hH; clear hH; obtain ⟨s, t⟩ := st))
local macro_rules | `(tactic| walk_at "new") => `(tactic| walk_at "g"; first | (apply And.intro; (focus (apply small100; walk_at "size")); walk_at "newp") | (walk_at "newp"))

theorem if_c {n x : Str} {a sp : Sp} {b : Option Sp} (h : (if n = x then some a else b) = some sp) : (n = x ∧ a = sp) ∨ b = some sp := by
  by_cases e : n = x
  · rw [if_pos e] at h
    exact .inl ⟨e, Option.some.inj h⟩
  · rw [if_neg e] at h
    exact .inr h
/-- the end that a run comes to -/
def Fin (outs : List (Int × Sh)) (er : Er) (c : Cf) : Prop := c.outs = outs ∧ endOf c = some er ∧ (c.ed.isNone && !c.todo.isEmpty) = false
inductive spRun : List V → Hp → VK → XK → Prop
  | mk {v : V} {fl : Int} {e : TE} {outs : List (Int × Sh)} {er : Er} {H : Hp} {Q : VK} {E : XK} (rp : RT H e v) (hr : Reach (Fin outs er) ⟨[.visit e .nil .none 0], [], fl, [], fun _ _ => none, none⟩) (q : ∀ v H', Kp H H' → RRun H' outs er v → Q v H') : spRun [v, .int fl] H Q E
theorem RunA.popT {CR CF CS : Addr} {H : Hp} {g dx po pt ps pw : Addr} {ev : V} {xo xt xs : List V} {kvs : List (List Key × V)} {c : Cf} {i : It} {td : List It} (r : RunA CR CF CS H g dx po pt ps pw ev xo xt xs kvs c) (hc : c.todo = i :: td) :
    ∃ u xt', xt = xt' ++ [u] ∧ RI CF CS H i u ∧ xt[xt.length - 1]? = some u ∧ xt.dropLast = xt' ∧ RunA CR CF CS (upd H pt (.lst xt')) g dx po pt ps pw ev xo xt' xs kvs { c with todo := td } ∧ Kp H (upd H pt (.lst xt')) := by
  have hs := r.t
  rw [hc] at hs
  generalize hx : xt.reverse = ys at hs
  cases hs with
  | cons rv hs =>
    rename_i u t
    have ex : xt = t.reverse ++ [u] := by
      have := congrArg List.reverse hx
      rw [List.reverse_reverse, List.reverse_cons] at this
      exact this
    obtain ⟨r2, k2⟩ := r.todos (xt' := t.reverse) (todo' := td) (by rw [List.reverse_reverse]; exact hs)
    refine ⟨u, t.reverse, ex, rv, ?_, ?_, r2, k2⟩
    · rw [ex]
      simp
    · rw [ex]
      simp
section
variable {P : Program} {w : World} {K : PySem.W.Frag} {mg : Str → Option Value} {base : Heap} {aFunction aRun aRunB aPlace aForms aActions aOps : Addr} {k : Nat}
theorem ok_run (T : Tx w K mg aFunction aRun aRunB aPlace aForms aActions aOps) (G_Walk___init__ : MkX P w K mg base k aRun ["self", "fuel"] (spWalkInit aRun aFunction aPlace)) (G_Place___init__ : MkX P w K mg base k aPlace ["self", "level", "names", "about"] (spPInit aPlace))
    (G_Walk_visit : MtX P w K mg base (k + 1) aRun "visit" ["self", "expression", "scope"] (spVisitM aRun aFunction aPlace)) (G_Walk_is_going : MtX P w K mg base (k + 1) aRun "is_going" ["self"] (spGoing aRun aFunction aPlace)) (G_Run_result : MtX P w K mg base (k + 1) aRun "result" ["self"] (spResult aRun aFunction aPlace))
    (A_run : ∀ n sp, SdActs aRun aFunction aPlace n = some sp → ∃ ps, FnX P w K mg base (k + 1) n ps sp) : FnX P w K mg base (k + 1 + 1) "run" ["program", "fuel"] spRun := by
  refine T.d_run.ok sc_run (fun vs H Q E h => by cases h; rfl) (fun f cdv A outer s H vs Q E hr h => ?_)
  rcases h with ⟨rp, hreach, q⟩
  rename_i v fl e outs er
  refine ⟨_, (pss_cons (ps_set (i := 2) sc_run.nd rfl (.inl rfl) (pe_mk G_Walk___init__ hr rfl T.mg_Walk (pa_cons (pv 1) pa_nil)))
    (pss_cons (ps_expr (pe_mt T.cl_Walk G_Walk_visit hr (pv 2) (pa_cons (pv 0) (pa_cons (pe_mk G_Place___init__ hr rfl T.mg_Place (pa_cons (pe_int) (pa_cons (pe_non) (pa_cons (pe_non) pa_nil)))) pa_nil))))
    (pss_cons (ps_while PassesOwn.never (pt_val (pe_mt0 T.cl_Walk G_Walk_is_going hr (pv 2))) (pss_cons (ps_asg (pe_bm0 PySem.F.plainAttrs_list PySem.F.slot_list_pop PySem.F.type_list_pop mt_pop (pe_fld (pv 2) rfl)) (pg_tup rfl (pgs_cons (pg_name (i := 3) sc_run.nd rfl (.inl rfl)) (pgs_cons (pg_name (i := 4) sc_run.nd rfl (.inl rfl)) (pgs_cons (pg_name (i := 5) sc_run.nd rfl (.inl rfl)) pgs_nil)))))
    (pss_cons (ps_set (i := 6) sc_run.nd rfl (.inl rfl) (pe_ix ix_kdict (pe_glob (v := .ref _) rfl T.m_ACTIONS rfl) (pv 3) (fun _ _ => rfl)))
    (pss_one (ps_expr (pe_callD _ A_run hr (i := 6) rfl (.inl rfl) (pa_cons (pv 2) (pa_cons (pv 4) (pa_cons (pv 5) pa_nil)))))))))
    (pss_one (ps_ret (pe_mt0 T.cl_Walk G_Run_result hr (pv 2))))))), ?_⟩
  refine seq_i fun N hN => ?_
  walk_at "g"
  intro g dx ng ndx nex
  obtain ⟨s1, t1⟩ := mk_i (C := aRun) ng ndx
  generalize upd (upd H dx (.own g)) g (.ins aRun dx []) = H1 at s1 t1 ⊢
  refine spWalkInit.mk t1 fun H2 o2 r2 => ⟨rfl, ?_⟩
  have s2 : Same H H2 := own_same ng s1 o2
  refine hN _ _ ?_
  clear hN
  refine seq_i fun N hN => ?_
  obtain ⟨dx2, po2, pt2, ps2, pw2, ev2, xo2, xt2, xs2, kvs2, r2'⟩ := id r2
  walk_at "g"
  refine ⟨g, dx2, _, rfl, r2'.obj, noG (by decide +kernel), ?_⟩
  walk_at "g"
  intro sc dsc nsc ndsc nesc
  obtain ⟨s3, t3⟩ := mk_i (C := aPlace) nsc ndsc
  generalize upd (upd H2 dsc (.own sc)) sc (.ins aPlace dsc []) = H3 at s3 t3 ⊢
  refine spPInit.mk t3 fun H4 o4 t4 => ⟨rfl, ?_⟩
  have s4 : Same H2 H4 := own_same nsc s3 o4
  have rs4 : RS aFunction aPlace H4 0 .nil .none (.ref sc) := ⟨sc, dsc, .non, .non, rfl, t4, by rw [RE], by rw [RB]⟩
  have k4 : Kp H H4 := Same.kp (Same.trans s2 s4)
  walk_at "g"
  refine spVisitM.mk ⟨_, _, _, _, _, _, _, _, _, _, r2'.mono s4⟩ (rp.tups k4.tup) rs4 (Nat.zero_le _) fun H5 r5 k5 => ?_
  have k05 := k4.trans k5
  refine hN _ _ ?_
  clear hN
  refine seq_i fun N hN => ?_
  obtain ⟨m0, hp0⟩ := hreach
  refine ⟨fun m σ H2 => ∃ (c : Cf) (u3 u4 u5 u6 : Option V), σ = [some v, some (.int fl), some (.ref g), u3, u4, u5, u6] ∧ RunAt aRun aFunction aPlace H2 g c ∧ Path (Fin outs er) m c ∧ Kp H H2,
    ⟨m0, _, none, none, none, none, rfl, r5, hp0, k05⟩, ?_⟩
  clear r5 k05 k5 k4 rs4 t4 s4 r2 r2' hp0 s2 o2 o4
  rintro m σ H2 ⟨c, u3, u4, u5, u6, rfl, r2, hp, k2⟩
  obtain ⟨dx2, po2, pt2, ps2, pw2, ev2, xo2, xt2, xs2, kvs2, r2'⟩ := id r2
  walk_at "g"
  refine ⟨g, dx2, _, rfl, r2'.obj, noG (by decide +kernel), ?_⟩
  walk_at "g"
  cases hp with
  | done hf =>
    obtain ⟨f1, f2, f3⟩ := hf
    refine spGoing.mk r2 (fun _ => ⟨_, f2⟩) (fun e => Bool.noConfusion (f3.symm.trans e)) (fun er' H4 _ e4 k4 d4 => ?_)
    rw [f2] at e4
    cases e4
    rw [f1] at d4
    obtain ⟨dx4, po4, pt4, ps4, pw4, ev4, fl4, xo4, g4, _⟩ := id d4
    walk_at "g"
    refine hN _ _ ?_
    walk_at "g"
    refine ⟨g, dx4, _, rfl, g4, noG (by decide +kernel), ?_⟩
    walk_at "g"
    refine spResult.mk d4 fun v' H' k' rr => ?_
    exact q _ _ ((k2.trans k4).trans k') rr
  | step b hm hp =>
    rename_i m c'
    unfold mstep at hm
    split at hm
    rotate_left
    · cases hm
    rename_i it td he ht
    have hgo : (c.ed.isNone && !c.todo.isEmpty) = true := by rw [he, ht]; rfl
    refine spGoing.mk r2 (fun e => Bool.noConfusion (hgo.symm.trans e)) (fun _ => ?_) (fun _ _ e => Bool.noConfusion (hgo.symm.trans e))
    walk_at "g"
    refine ⟨fun σ' H' => ∃ m', m' < m + 1 ∧ ∃ (c : Cf) (u3 u4 u5 u6 : Option V), σ' = [some v, some (.int fl), some (.ref g), u3, u4, u5, u6] ∧ RunAt aRun aFunction aPlace H' g c ∧ Path (Fin outs er) m' c ∧ Kp H H', fun _ _ h => h, ?_⟩
    obtain ⟨u, xt', ex, ri, hlast, hdrop, r3, k3⟩ := r2'.popT ht
    refine seq_i fun N2 hN2 => ?_
    walk_at "g"
    refine ⟨g, aRun, dx2, _, _, rfl, r2'.obj, T.cl_Run, T.n_Walk_todo, rfl, ?_⟩
    refine ⟨.inl ⟨rfl, _, SqL.of r2'.ht⟩, ?_⟩
    refine ⟨_, _, _, rfl, rfl, r2'.ht, hlast, ?_⟩
    rw [hdrop]
    have ri3 := ri.kp k3
    have k23 := k2.trans k3
    generalize upd H2 pt2 (.lst xt') = H3 at *
    obtain ⟨pi, x, t, sv, rfl, hpi, rw3⟩ := ri3
    refine ⟨pi, _, rfl, SqT.of hpi, rfl, _, _, rfl, _, _, rfl, _, _, rfl, rfl, ?_⟩
    refine hN2 _ _ ?_
    clear hN2
    obtain ⟨nm, h1, h2⟩ : ∃ nm : Str, (x, nm) ∈ actionsL ∧ SdActs aRun aFunction aPlace nm = some (spAct aRun aFunction aPlace x) := by
      cases it with
      | visit e en ab lv => obtain ⟨rfl, _⟩ := rw3; exact ⟨"_visit", by decide +kernel, rfl⟩
      | oper o lv => obtain ⟨rfl, _⟩ := rw3; exact ⟨"_operate", by decide +kernel, rfl⟩
      | says lv => obtain ⟨rfl, _⟩ := rw3; exact ⟨"_operate", by decide +kernel, rfl⟩
      | choose e1 e2 en ab lv => obtain ⟨rfl, _⟩ := rw3; exact ⟨"_choose", by decide +kernel, rfl⟩
      | bind x b en ab lv => obtain ⟨rfl, _⟩ := rw3; exact ⟨"_bind", by decide +kernel, rfl⟩
      | rest lv q r => obtain ⟨rfl, _⟩ := rw3; exact ⟨"_restore", by decide +kernel, rfl⟩
      | bindb en ab lv => obtain ⟨rfl, _⟩ := rw3; exact ⟨"_bind_below", by decide +kernel, rfl⟩
      | operb en ab lv => obtain ⟨rfl, _⟩ := rw3; exact ⟨"_operate_below", by decide +kernel, rfl⟩
    obtain ⟨fa, m1, m2⟩ := T.f_ACTIONS x nm h1
    refine seq_i fun N2 hN2 => ?_
    walk_at "g"
    refine ⟨aActions, x, .ref fa, rfl, rfl, m2, ?_⟩
    refine hN2 _ _ ?_
    clear hN2
    walk_at "g"
    refine ⟨nm, fa, _, rfl, m1, h2, ?_⟩
    walk_at "g"
    refine spAct.mk (c := { c with todo := td }) ⟨_, _, _, _, _, _, _, _, _, _, r3⟩ rw3 ⟨?_, b.stk, b.outs⟩ hm fun H4 r4 k4 => ?_
    · have := b.todo
      rw [ht, List.length_cons] at this
      show td.length ≤ 10000
      omega
    · walk_at "g"
      exact ⟨m, by omega, c', _, _, _, _, rfl, r4, hp, k23.trans k4⟩
theorem all_visitM (T : Tx w K mg aFunction aRun aRunB aPlace aForms aActions aOps) : MtX P w K mg base 1 aRun "visit" ["self", "expression", "scope"] (spVisitM aRun aFunction aPlace) := ok_visitM (k := 0) T
theorem all_stuck (T : Tx w K mg aFunction aRun aRunB aPlace aForms aActions aOps) : MtX P w K mg base 1 aRun "get_stuck" ["self", "level"] (spStuck aRun aFunction aPlace) := ok_stuck (k := 0) T
theorem all_step (T : Tx w K mg aFunction aRun aRunB aPlace aForms aActions aOps) : MtX P w K mg base 1 aRun "step" ["self"] (spStep aRun aFunction aPlace) := ok_step (k := 0) T
theorem all_bind (T : Tx w K mg aFunction aRun aRunB aPlace aForms aActions aOps) : MtX P w K mg base 3 aPlace "bind" ["self", "name", "value"] (spBind aFunction aPlace) := ok_bind (k := 1) T (ok_pinit (k := 0) T)
theorem all_ops (T : Tx w K mg aFunction aRun aRunB aPlace aForms aActions aOps) : ∀ n sp, SdOps aRun aFunction aPlace n = some sp → ∃ ps, FnX P w K mg base 5 n ps sp := by
  intro n sp h
  unfold SdOps at h
  rcases if_c h with ⟨rfl, rfl⟩ | h
  · exact ⟨_, (ok_call (k := 4) T ((all_stuck T).mono (by decide)) ((all_step T).mono (by decide)) (ok_apply (k := 3) T ((all_visitM T).mono (by decide)) (all_bind T)))⟩
  rcases if_c h with ⟨rfl, rfl⟩ | h
  · exact ⟨_, ok_sum (k := 4) T ((all_stuck T).mono (by decide))⟩
  rcases if_c h with ⟨rfl, rfl⟩ | h
  · exact ⟨_, ok_less (k := 4) T ((all_stuck T).mono (by decide))⟩
  rcases if_c h with ⟨rfl, rfl⟩ | h
  · exact ⟨_, ok_say (k := 4) T ((ok_shown (k := 0) T).mono (by decide))⟩
  cases h
theorem all_oper (T : Tx w K mg aFunction aRun aRunB aPlace aForms aActions aOps) : MtX P w K mg base 6 aRun "operate" ["self", "word", "level"] (spOperate aRun aFunction aPlace) := ok_operate (k := 5) T (all_ops T)
theorem all_form (T : Tx w K mg aFunction aRun aRunB aPlace aForms aActions aOps) : ∀ n sp, SdForms aRun aFunction aPlace false n = some sp → ∃ ps, FnX P w K mg base 5 n ps sp := by
  intro n sp h
  have v4 : MtX P w K mg base 4 aRun "visit" ["self", "expression", "scope"] (spVisitM aRun aFunction aPlace) := (all_visitM T).mono (by decide)
  unfold SdForms at h
  rcases if_c h with ⟨rfl, rfl⟩ | h
  · exact ⟨_, ok_num (k := 4) T⟩
  rcases if_c h with ⟨rfl, rfl⟩ | h
  · exact ⟨_, ok_name (k := 4) T ((ok_look (k := 0) T).mono (by decide))⟩
  rcases if_c h with ⟨rfl, rfl⟩ | h
  · exact ⟨_, ok_fn (k := 3) T ((ok_finit (k := 0) T).mono (by decide))⟩
  rcases if_c h with ⟨rfl, rfl⟩ | h
  · exact ⟨_, ok_operation (k := 4) T ((ok_all (k := 1) T (all_visitM T)).mono (by decide))⟩
  rcases if_c h with ⟨rfl, rfl⟩ | h
  · exact ⟨_, ok_if (k := 4) T v4⟩
  rcases if_c h with ⟨rfl, rfl⟩ | h
  · exact ⟨_, ok_let (k := 4) T v4⟩
  rw [if_pos rfl] at h
  cases h
theorem all_forms (T : Tx w K mg aFunction aRun aRunB aPlace aForms aActions aOps) : ∀ n sp, SdForms aRun aFunction aPlace true n = some sp → ∃ ps, FnX P w K mg base 7 n ps sp := by
  intro n sp h
  have v4 : MtX P w K mg base 4 aRun "visit" ["self", "expression", "scope"] (spVisitM aRun aFunction aPlace) := (all_visitM T).mono (by decide)
  have u : ∀ {m : Str} {q : List Str} {s : Sp}, FnX P w K mg base 5 m q s → ∃ ps, FnX P w K mg base 7 m ps s := fun h => ⟨_, h.mono (by decide)⟩
  unfold SdForms at h
  rcases if_c h with ⟨rfl, rfl⟩ | h
  · exact u (ok_num (k := 4) T)
  rcases if_c h with ⟨rfl, rfl⟩ | h
  · exact u (ok_name (k := 4) T ((ok_look (k := 0) T).mono (by decide)))
  rcases if_c h with ⟨rfl, rfl⟩ | h
  · exact u (ok_fn (k := 3) T ((ok_finit (k := 0) T).mono (by decide)))
  rcases if_c h with ⟨rfl, rfl⟩ | h
  · exact u (ok_operation (k := 4) T ((ok_all (k := 1) T (all_visitM T)).mono (by decide)))
  rcases if_c h with ⟨rfl, rfl⟩ | h
  · exact u (ok_if (k := 4) T v4)
  rcases if_c h with ⟨rfl, rfl⟩ | h
  · exact u (ok_let (k := 4) T v4)
  rw [if_neg Bool.noConfusion] at h
  rcases if_c h with ⟨rfl, rfl⟩ | h
  · exact u (ok_rule (k := 4) T ((ok_setFor (k := 1) T (all_visitM T)).mono (by decide)))
  rcases if_c h with ⟨rfl, rfl⟩ | h
  · exact u (ok_keep (k := 4) T ((ok_setOn (k := 0) T).mono (by decide)))
  rcases if_c h with ⟨rfl, rfl⟩ | h
  · exact u (ok_part (k := 4) T v4 ((all_step T).mono (by decide)) ((ok_part_of (k := 0) T).mono (by decide)))
  rcases if_c h with ⟨rfl, rfl⟩ | h
  · exact u (ok_with (k := 4) T v4)
  rcases if_c h with ⟨rfl, rfl⟩ | h
  · exact ⟨_, ok_usual (k := 6) T ((all_step T).mono (by decide)) (ok_built (k := 5) T (all_form T))⟩
  rcases if_c h with ⟨rfl, rfl⟩ | h
  · exact u (ok_do (k := 4) T ((ok_all (k := 1) T (all_visitM T)).mono (by decide)))
  cases h
theorem all_acts (T : Tx w K mg aFunction aRun aRunB aPlace aForms aActions aOps) : ∀ n sp, SdActs aRun aFunction aPlace n = some sp → ∃ ps, FnX P w K mg base 9 n ps sp := by
  intro n sp h
  have bf : FnX P w K mg base 4 "_bind" ["going", "node", "place"] (spBindF aRun aFunction aPlace) := ok_bindF (k := 3) T ((all_visitM T).mono (by decide)) (all_bind T)
  unfold SdActs at h
  rcases if_c h with ⟨rfl, rfl⟩ | h
  · exact ⟨_, ok_visit_ (k := 7) T ((all_visitM T).mono (by decide)) (ok_built (k := 7) T (all_forms T)) ((ok_pinit (k := 0) T).mono (by decide))⟩
  rcases if_c h with ⟨rfl, rfl⟩ | h
  · exact ⟨_, (ok_operate_ (k := 6) T (all_oper T)).mono (by decide)⟩
  rcases if_c h with ⟨rfl, rfl⟩ | h
  · exact ⟨_, (ok_choose_ (k := 3) T (ok_choose (k := 2) T ((all_visitM T).mono (by decide)) (ok_decide (k := 1) T (all_stuck T)))).mono (by decide)⟩
  rcases if_c h with ⟨rfl, rfl⟩ | h
  · exact ⟨_, (bind_act bf).mono (by decide)⟩
  rcases if_c h with ⟨rfl, rfl⟩ | h
  · exact ⟨_, (ok_restore_ (k := 1) T (ok_restore (k := 0) T)).mono (by decide)⟩
  rcases if_c h with ⟨rfl, rfl⟩ | h
  · exact ⟨_, (ok_bind_below_ (k := 4) T ((all_step T).mono (by decide)) bf).mono (by decide)⟩
  rcases if_c h with ⟨rfl, rfl⟩ | h
  · exact ⟨_, (ok_operate_below_ (k := 6) T ((all_step T).mono (by decide)) (all_oper T)).mono (by decide)⟩
  cases h
theorem all_run (T : Tx w K mg aFunction aRun aRunB aPlace aForms aActions aOps) : FnX P w K mg base 10 "run" ["program", "fuel"] spRun :=
  ok_run (k := 8) T ((ok_winit (k := 1) T (ok_rinit (k := 0) T)).mono (by decide)) ((ok_pinit (k := 0) T).mono (by decide)) ((all_visitM T).mono (by decide)) ((ok_going (k := 2) T (ok_finish (k := 1) T (ok_shown (k := 0) T))).mono (by decide)) ((ok_result (k := 0) T).mono (by decide)) (all_acts T)
end
end Zt

set_option Elab.async false
set_option linter.all false
set_option maxRecDepth 100000
set_option maxHeartbeats 4000000
namespace Zg
open PySem L2 PySem.Spec PyProof.Rows
/-! ### a def that calls itself deeper than Room counts -/
structure RoomF (n : Nat) (A : Around) : Prop where
  hd : A.handled = none
  dp : A.depth + n + 9 < recursionLimit
  un : A.units + 3 * n + 500 < cLine
theorem RoomF.room {n : Nat} {A : Around} (r : RoomF n A) : Room 1 A := by
  refine ⟨r.hd, ?_, ?_⟩
  · have := r.dp
    omega
  · have := r.un
    omega
theorem RoomF.deeper {n : Nat} {A : Around} (r : RoomF (n + 1) A) (env : Env) : RoomF n (A.deeper env) := by
  refine ⟨r.hd, ?_, ?_⟩
  · have h := r.dp
    show A.depth + 1 + n + 9 < _
    omega
  · have h := r.un
    show A.units + 3 + 3 * n + 500 < _
    omega
theorem RoomF.mono {n m : Nat} {A : Around} (r : RoomF n A) (h : m ≤ n) : RoomF m A := by
  refine ⟨r.hd, ?_, ?_⟩
  · have := r.dp
    omega
  · have := r.un
    omega
theorem RoomF.of {n k : Nat} {A : Around} (r : Room k A) (h : n + 4 ≤ 3 * k) (h2 : 50 ≤ k) : RoomF n A := by
  refine ⟨r.hd, ?_, ?_⟩
  · have := r.dp
    omega
  · have := r.un
    have : 3 * n + 300 ≤ 16 * k := by omega
    omega
/-- the def under the name x keeps its promise in n levels -/
def FnF (P : Program) (w : World) (K : PySem.W.Frag) (mg : Str → Option Value) (base : Heap) (n : Nat) (x : Str) (ps : List Str) (sp : Sp) : Prop :=
  ∃ f fd, (∀ vs H Q E, sp vs H Q E → vs.length = ps.length) ∧ PySem.W.keepIn K (.ref f) = true ∧ Binds K fd ps [] ∧ mg x = some (.ref f) ∧
    ∀ (A : Around) (outer : List Env) (s : Shared) (H : Hp) (args : Args) (us : List Value) (vs : List V) (Q : VK) (E : XK), RoomF n A → Env0 P w K mg base A outer s H → BindsTo s fd args (ps.zip us) → Vals vs us → sp vs H Q E →
      codeAny (model P w) A (.call (.ref f) args) (CR CX0 outer P w H s Q E) s
section
variable {P : Program} {w : World} {K : PySem.W.Frag} {mg : Str → Option Value} {base : Heap} {X : Cx}
theorem FnF.fn {n k : Nat} {x : Str} {ps : List Str} {sp : Sp} (G : FnF P w K mg base n x ps sp) (h : n + 4 ≤ 3 * k) (h2 : 50 ≤ k) : FnX P w K mg base k x ps sp := by
  obtain ⟨f, fd, len, hk, hb, hm, run⟩ := G
  exact ⟨f, fd, ⟨len, fun A outer s H args us vs Q E hr => run A outer s H args us vs Q E (.of hr h h2)⟩, hk, hb, hm⟩
theorem DefX.okF {x : Str} {st : Stmt} {N ps : List Str} {n : Nat} {sp : Sp} (D : DefX K mg x st ps) (S : FnScope N ps (defScope st)) (len : ∀ vs H Q E, sp vs H Q E → vs.length = ps.length)
    (hbody : ∀ (f : Addr) (cdv : Value) (A : Around) (outer : List Env) (s : Shared) (H : Hp) (vs : List V) (Q : VK) (E : XK), RoomF n (A.deeper (envOfC x (defScope st) s.heap.objs.size f cdv)) → sp vs H Q E →
      ∃ t, PSs (cxOf CX0 P w K mg base N x (defScope st) f cdv A outer s H E).nox (defBody st) t ∧ t { nx := fun _ H' => Q .non H', rt := Q } (start N vs) H) : FnF P w K mg base (n + 1) x ps sp := by
  obtain ⟨f, fd, F, b, m⟩ := D
  refine ⟨f, fd, len, F.kp, b, m, ?_⟩
  obtain ⟨oc, od, kV, doc, pm, an, cdv, ct, osl, rfl, lk, hcd⟩ := F.ex
  intro A outer s H args us vs Q E room e0 hb r hsp
  have grown : ∀ b o, base.get? b = some o → s.heap.get? b = some o := fun b o e => (e0.bs b o e).1
  have inK := e0.mod.kin.keeps grown
  have noLim := e0.mod.nolimit.keeps grown
  have kinds : ∀ y ∈ ps.zip us, (defScope st).names.lookup y.1 = some .local ∨ ((defScope st).names.lookup y.1 = some .cell ∧ ((cellsFrom (s.heap.objs.size + 1) (defScope st).names []).lookup y.1).isSome = true) := by
    rintro ⟨y, z⟩ hy
    exact (S.par y (List.of_mem_zip hy).1).imp id fun q => ⟨q, PySem.W.cellsFrom_some _ _ _ (.inl q)⟩
  have dl : A.depth < recursionLimit := by
    have := room.dp
    omega
  refine codeAny_call_function dl (inK _ _ lk) rfl S.co S.gen rfl (PySem.W.codeRec_of inK hcd) (hb _ _ _ _ (wpAny_newFunctionEnv_cells S.kind kinds fun env he s1 x => ?_))
  subst he
  obtain ⟨t, ht, hq⟩ := hbody f cdv A outer s H vs Q E (room.deeper _) hsp
  refine ⟨noLim.keeps x.toInCall.keep, codeAny_func (wpAny_mono (ht.nox.run [] s1 (start N vs) H _ (inv_start S room.hd e0 (len _ _ _ _ hsp) r x) hq) (fun fl s' hs => ?_) fun _ _ hs => hs)⟩
  cases fl with
  | ret u =>
    obtain ⟨v, σ', H', J, rv, q⟩ := hs
    exact ⟨v, H', J.os, J.bare, J.base, J.hok, rv, q⟩
  | next =>
    obtain ⟨σ', H', J, q⟩ := hs
    exact ⟨.non, H', J.os, J.bare, J.base, J.hok, rfl, q⟩
  | brk => exact hs.choose_spec.choose_spec.2.elim
  | cont => exact hs.choose_spec.choose_spec.2.elim
theorem pe_fnF {x : Str} {ps : List Str} {sp : Sp} {n : Nat} {e : Expr} {es : List Expr} {p pos : Pos} {t : TA} (G : FnF X.prog X.w X.K X.mg X.base n x ps sp) (hr : RoomF n X.A) (hg : Gl X x)
    (ha : PA X (e :: es) t) (hdb : (x == ("__debug__" : Str)) = false := by decide) (he : starEach (e :: es) X.env = (false, PySem.eval e X.env) :: starEach es X.env := by rfl) (hpl : (backTo pos (starEach es X.env)).any (·.1) = false := by rfl) :
    PE X (.Call (.Name x p) (e :: es) [] pos) (tCall sp [] E0 t) := by
  obtain ⟨f, fd, len, hk, hb, hm, run⟩ := G
  refine ⟨fun pins s σ H Q I h => ?_⟩
  refine wpAny_Call_Name_kw (ld_glob I hg hm ?_ hdb)
  refine PySem.W.callWith_K (h₀ := X.base) I.ok.mod.kin hk (thn (ha.run pos pins s σ H _ I h) fun us s1 ⟨vs, H1, I1, r, q⟩ => ⟨I1.kIn, ?_⟩) he hpl
  have q : sp (vs ++ []) H1 Q E0 := q
  rw [List.append_nil] at q
  have hl : us.length = ps.length := by
    rw [← r.length]
    exact len _ _ _ _ q
  have hb1 := hb s1 us I1.kIn (by rw [List.append_nil]; exact hl)
  rw [List.append_nil] at hb1
  refine wpAny_call (codeAny_mono (run X.A X.stack s1 H1 ⟨us, []⟩ us vs _ _ hr I1.env0 hb1 r q) fun z s' hq => ?_)
  rcases z with e | fl
  · exact pass0 pins σ H1 s1 e s' I1 hq
  · cases fl with
    | ret u => exact I1.after hq
    | next => exact hq.elim
    | brk => exact hq.elim
    | cont => exact hq.elim
end
end Zg

set_option Elab.async false
set_option linter.all false
set_option maxRecDepth 100000
set_option maxHeartbeats 4000000
namespace Zt
open PySem L2 PySem.Spec PyProof.Rows Zg
local macro_rules | `(tactic| walk_at "sq") => `(tactic| first | exact SqL.of (by assumption) | exact .inl (SqL.of (by assumption)) | assumption | exact SqT.of (by assumption) | exact .inr (SqT.of (by assumption)) | exact SqL.of upd_same | exact .inl (SqL.of upd_same))
local macro_rules | `(tactic| walk_at "hp") => `(tactic| first | assumption | exact upd_same)
local macro_rules | `(tactic| walk_at "cond") => `(tactic| first | assumption | rfl | (apply And.intro <;> assumption) | decide | (show (0 : Int) < _; decide) | (apply And.intro <;> decide) | (apply Or.inr; apply And.intro <;> decide) | (apply Or.inl; apply And.intro <;> decide))
local macro_rules | `(tactic| walk_at "s") => `(tactic| first
  | (with_reducible apply iteF)
  | (with_reducible apply iteT)
  | (apply e1; rfl)
  | (apply e2; rfl; rfl)
  | (apply e4; rfl; rfl; walk_at "sq"; rfl)
  | (apply e4; rfl; rfl; walk_at "hp"; rfl)
  | (apply e2; rfl; walk_at "sq")
  | (apply eOr; rfl)
  | (apply eOrR; rfl)
  | (apply eTru; walk_at "sq")
  | (apply eTruT; walk_at "sq")
  | (apply And.intro; (walk_at "cond"))
  | (apply iteTr; rfl)
  | (apply iteFr; rfl)
  | (apply iteD; all_goals intro _)
  | (with_reducible apply tNext_i))
local macro_rules | `(tactic| walk_at "g") => `(tactic| repeat' ((fail_if_success (with_reducible apply seq_i)); (fail_if_success (with_reducible apply cut_i)); (walk_at "s")))
local macro_rules | `(tactic| walk_at "size") => `(tactic| first | (simp only [List.length_cons, List.length_nil]; decide) | decide)
local macro_rules | `(tactic| walk_at "newp") => `(tactic| (intro p hp; generalize hH : upd _ _ _ = H1; have st := new_facts hp hH; clear hH; obtain ⟨s, t⟩ := st))
local macro_rules | `(tactic| walk_at "new") => `(tactic| walk_at "g"; first | (apply And.intro; (focus (apply small100; walk_at "size")); walk_at "newp") | (walk_at "newp"))

/-! ### the values of the evaluator -/
/-- the names that are bound -/
def Nm (nms : List Str) : TE → Prop
  | .num _ => True
  | .name _ => True
  | .fn x b => x ∈ nms ∧ Nm nms b
  | .op _ a b => Nm nms a ∧ Nm nms b
  | .iff c a b => Nm nms c ∧ Nm nms a ∧ Nm nms b
  | .lett x a b => x ∈ nms ∧ Nm nms a ∧ Nm nms b
  | .say a => Nm nms a
  | .rule _ r b => Nm nms r ∧ Nm nms b
  | .keep _ r => Nm nms r
  | .part _ => True
  | .witha a => Nm nms a
  | .usual => True
  | .do1 a => Nm nms a
  | .do2 a b => Nm nms a ∧ Nm nms b
theorem Nm.part {nms : List Str} {e p : TE} {i : Nat} (h : Nm nms e) (hp : partAt e i = some p) : Nm nms p := by
  cases e with
  | op o a b =>
    match i, hp with
    | 0, hp => cases hp; exact h.1
    | 1, hp => cases hp; exact h.2
    | n + 2, hp => cases hp
  | iff c a b =>
    match i, hp with
    | 0, hp => cases hp; exact h.1
    | 1, hp => cases hp; exact h.2.1
    | 2, hp => cases hp; exact h.2.2
    | n + 3, hp => cases hp
  | lett x a b =>
    match i, hp with
    | 0, hp => cases hp; exact h.2.1
    | n + 1, hp => cases hp
  | say a =>
    match i, hp with
    | 0, hp => cases hp; exact h
    | n + 1, hp => cases hp
  | num n => cases hp
  | name x => cases hp
  | fn x b => cases hp
  | rule q r b => cases hp
  | keep q r => cases hp
  | part i => cases hp
  | witha a => cases hp
  | usual => cases hp
  | do1 a => cases hp
  | do2 a b => cases hp
def KSt (nms : List Str) (kvs : List (Key × V)) : Prop := (kvs.map (·.1)).Nodup ∧ ∀ k ∈ kvs.map (·.1), k ∈ nms.map Sum.inr
theorem KSt.nil {nms : List Str} : KSt nms [] := ⟨List.nodup_nil, fun k h => (by cases h)⟩
theorem KSt.len {nms : List Str} {kvs : List (Key × V)} (h : KSt nms kvs) : kvs.length ≤ nms.length := by
  have := sub_len h.1 h.2
  rw [List.length_map, List.length_map] at this
  exact this
theorem KSt.put {nms : List Str} {kvs : List (Key × V)} {x : Str} {v : V} (h : KSt nms kvs) (hx : x ∈ nms) : KSt nms (putK kvs (.inr x) v) := by
  unfold putK
  split
  · have e : (kvs.map fun kv => if kv.1 = Sum.inr x then (kv.1, v) else kv).map (·.1) = kvs.map (·.1) := by
      rw [List.map_map]
      congr 1
      funext kv
      show (if kv.1 = Sum.inr x then (kv.1, v) else kv).1 = kv.1
      split <;> rfl
    unfold KSt
    rw [e]
    exact h
  · rename_i hn
    have hni : (Sum.inr x : Key) ∉ kvs.map (·.1) := fun q => by
      obtain ⟨kv, h1, h2⟩ := List.mem_map.mp q
      exact hn (List.any_eq_true.mpr ⟨kv, h1, decide_eq_true h2⟩)
    unfold KSt
    rw [List.map_append]
    refine ⟨List.nodup_append.mpr ⟨h.1, by simp, fun a ha b hb => ?_⟩, fun k hk => ?_⟩
    · simp at hb
      subst hb
      rintro rfl
      exact hni ha
    · rw [List.mem_append] at hk
      rcases hk with hk | hk
      · exact h.2 k hk
      · simp at hk
        subst hk
        exact List.mem_map.mpr ⟨x, hx, rfl⟩
mutual
def LV (nms : List Str) (H : Hp) : Vl → V → Prop
  | .int i, v => v = .int i
  | .fn k x b en ab, v => ∃ a u de va ke, v = .ref a ∧ H a = some (.tup [.str "fn", .int k, .str x, u, .ref de, va]) ∧ RT H b u ∧ x ∈ nms ∧ Nm nms b ∧ H de = some (.dK ke) ∧ LE nms H en ke ∧ LA nms H ab va
def LE (nms : List Str) (H : Hp) : En → List (Key × V) → Prop
  | .nil, kvs => kvs = []
  | .cons x v r, kvs => ∃ k0 u, x ∈ nms ∧ kvs = putK k0 (.inr x) u ∧ LV nms H v u ∧ LE nms H r k0
def LA (nms : List Str) (H : Hp) : Ab → V → Prop
  | .none, v => v = .non
  | .some e en ab, v => ∃ a u de va ke, v = .ref a ∧ H a = some (.tup [u, .ref de, va]) ∧ RT H e u ∧ Nm nms e ∧ H de = some (.dK ke) ∧ LE nms H en ke ∧ LA nms H ab va
end
/-- tuples, dicts of names and the lists of others are kept -/
structure Kq (st po : Addr) (H H' : Hp) : Prop where
  tup : Tups H H'
  dict : ∀ a kvs, H a = some (.dK kvs) → H' a = some (.dK kvs)
  lst : ∀ a l, a ≠ st → a ≠ po → H a = some (.lst l) → H' a = some (.lst l)
theorem Kq.refl {st po : Addr} (H : Hp) : Kq st po H H := ⟨Tups.refl H, fun _ _ h => h, fun _ _ _ _ h => h⟩
theorem Kq.trans {st po : Addr} {H H1 H2 : Hp} (a : Kq st po H H1) (b : Kq st po H1 H2) : Kq st po H H2 := ⟨a.tup.trans b.tup, fun x k h => b.dict x k (a.dict x k h), fun x l n m h => b.lst x l n m (a.lst x l n m h)⟩
theorem kq_same {st po : Addr} {H H' : Hp} (s : Same H H') : Kq st po H H' := ⟨Same.tups s, fun _ _ h => s _ _ h, fun _ _ _ _ h => s _ _ h⟩
theorem kq_lst {st po c : Addr} {H H' : Hp} {l : List V} (o : Oth c H H') (h : H c = some (.lst l)) (hc : c = st ∨ c = po) : Kq st po H H' :=
  ⟨o.tups h, fun a kvs e => o a _ (fun z => by subst z; rw [h] at e; cases e) e, fun a l n m e => o a _ (fun z => by subst z; rcases hc with rfl | rfl; exact n rfl; exact m rfl) e⟩
theorem kq_sw {st po sw : Addr} {H H' : Hp} {l : List (List Key × V)} (o : Oth sw H H') (h : H sw = some (.dT l)) : Kq st po H H' :=
  ⟨fun a xs e => o a _ (fun z => by subst z; rw [h] at e; cases e) e, fun a kvs e => o a _ (fun z => by subst z; rw [h] at e; cases e) e, fun a l _ _ e => o a _ (fun z => by subst z; rw [h] at e; cases e) e⟩
mutual
theorem LV.kq {nms : List Str} {st po : Addr} {H H' : Hp} (h : Kq st po H H') : ∀ {v : Vl} {u : V}, LV nms H v u → LV nms H' v u
  | .int i, u, r => by
    rw [LV] at r ⊢
    exact r
  | .fn k x b en ab, u, r => by
    rw [LV] at r ⊢
    obtain ⟨a, u, de, va, ke, rfl, h1, h2, h3, h4, h5, h6, h7⟩ := r
    exact ⟨a, u, de, va, ke, rfl, h.tup _ _ h1, h2.tups h.tup, h3, h4, h.dict _ _ h5, LE.kq h h6, LA.kq h h7⟩
theorem LE.kq {nms : List Str} {st po : Addr} {H H' : Hp} (h : Kq st po H H') : ∀ {en : En} {kvs : List (Key × V)}, LE nms H en kvs → LE nms H' en kvs
  | .nil, u, r => by
    rw [LE] at r ⊢
    exact r
  | .cons x v t, u, r => by
    rw [LE] at r ⊢
    obtain ⟨k0, u, h1, h2, h3, h4⟩ := r
    exact ⟨k0, u, h1, h2, LV.kq h h3, LE.kq h h4⟩
theorem LA.kq {nms : List Str} {st po : Addr} {H H' : Hp} (h : Kq st po H H') : ∀ {ab : Ab} {v : V}, LA nms H ab v → LA nms H' ab v
  | .none, u, r => by
    rw [LA] at r ⊢
    exact r
  | .some e en ab, u, r => by
    rw [LA] at r ⊢
    obtain ⟨a, u, de, va, ke, rfl, h1, h2, h3, h4, h5, h6⟩ := r
    exact ⟨a, u, de, va, ke, rfl, h.tup _ _ h1, h2.tups h.tup, h3, h.dict _ _ h4, LE.kq h h5, LA.kq h h6⟩
end
theorem LE.ks {nms : List Str} {H : Hp} : ∀ {en : En} {kvs : List (Key × V)}, LE nms H en kvs → KSt nms kvs
  | .nil, _, r => by
    rw [LE] at r
    subst r
    exact .nil
  | .cons x v t, _, r => by
    rw [LE] at r
    obtain ⟨k0, u, h1, rfl, h3, h4⟩ := r
    exact (LE.ks h4).put h1
theorem LE.look {nms : List Str} {H : Hp} {x : Str} {v : Vl} : ∀ {en : En} {kvs : List (Key × V)}, LE nms H en kvs → lookE en x = some v → ∃ u, valV kvs (.inr x) = some u ∧ LV nms H v u
  | .nil, _, _, h => by cases h
  | .cons y w t, kvs, r, h => by
    rw [LE] at r
    obtain ⟨k0, u, h1, rfl, h3, h4⟩ := r
    unfold lookE at h
    rw [valV_put]
    by_cases e : y = x
    · subst e
      rw [if_pos rfl] at h ⊢
      cases h
      exact ⟨u, rfl, h3⟩
    · rw [if_neg e] at h
      rw [if_neg (fun q => e (Sum.inr.inj q).symm)]
      exact LE.look h4 h
/-- what has come out -/
def LR (nms : List Str) (H : Hp) : Rs → V → Prop
  | .val v, u => LV nms H v u
  | .stuck k, u => ∃ a, u = .ref a ∧ H a = some (.tup [.str "!stuck", .int k])
  | .more, u => ∃ a, u = .ref a ∧ H a = some (.tup [.str "!more"])
theorem LR.kq {nms : List Str} {st po : Addr} {H H' : Hp} (h : Kq st po H H') {r : Rs} {u : V} (q : LR nms H r u) : LR nms H' r u := by
  cases r with
  | val v => exact LV.kq h q
  | stuck k =>
    obtain ⟨a, e, q⟩ := q
    exact ⟨a, e, h.tup _ _ q⟩
  | more =>
    obtain ⟨a, e, q⟩ := q
    exact ⟨a, e, h.tup _ _ q⟩
/-- the table of the evaluator -/
def RQ (nms : List Str) (H : Hp) : Option TE → V → Prop
  | none, v => v = .non
  | some r, v => RT H r v ∧ Nm nms r
theorem RQ.tups {nms : List Str} {H H' : Hp} (h : Tups H H') : ∀ {r : Option TE} {v : V}, RQ nms H r v → RQ nms H' r v
  | none, _, e => e
  | some r, _, e => ⟨RT.tups h e.1, e.2⟩
def RWq (nms : List Str) (H : Hp) (kvs : List (List Key × V)) (f : Tab) : Prop := ∀ k q, RQ nms H (f k q) ((valV kvs (ky k q)).getD .non)
theorem RWq.tups {nms : List Str} {H H' : Hp} {kvs : List (List Key × V)} {f : Tab} (h : Tups H H') (r : RWq nms H kvs f) : RWq nms H' kvs f := fun k q => (r k q).tups h
theorem rwq_put {nms : List Str} {H : Hp} {kvs : List (List Key × V)} {f : Tab} {k : Int} {q : Str} {r : Option TE} {v : V} (h : RWq nms H kvs f) (hr : RQ nms H r v) : RWq nms H (putK kvs (ky k q) v) (tset f k q r) := by
  intro k' q'
  unfold tset
  rw [valV_put]
  by_cases e : k' = k ∧ q' = q
  · obtain ⟨rfl, rfl⟩ := e
    rw [if_pos ⟨rfl, rfl⟩, if_pos rfl]
    exact hr
  · rw [if_neg e, if_neg (fun z => e (ky_inj z))]
    exact h k' q'
/-- the state of the evaluator -/
structure StA (nms : List Str) (H : Hp) (st po sw : Addr) (xo : List V) (kvs : List (List Key × V)) (s : Sta) : Prop where
  hs : H st = some (.lst [.int s.fuel, .ref po, .ref sw])
  ho : H po = some (.lst xo)
  hw : H sw = some (.dT kvs)
  o : Paired (RO H) s.outs xo
  w : RWq nms H kvs s.tb
  kd : KD kvs
  ne : st ≠ po
def StAt (nms : List Str) (H : Hp) (st po sw : Addr) (s : Sta) : Prop := ∃ xo kvs, StA nms H st po sw xo kvs s
theorem StA.mono {nms : List Str} {H H' : Hp} {st po sw : Addr} {xo : List V} {kvs : List (List Key × V)} {s : Sta} (r : StA nms H st po sw xo kvs s) (h : Same H H') : StA nms H' st po sw xo kvs s :=
  ⟨h _ _ r.hs, h _ _ r.ho, h _ _ r.hw, Paired.imp' r.o fun _ _ q => q.tups (Same.tups h), r.w.tups (Same.tups h), r.kd, r.ne⟩
theorem StAt.mono {nms : List Str} {H H' : Hp} {st po sw : Addr} {s : Sta} (r : StAt nms H st po sw s) (h : Same H H') : StAt nms H' st po sw s := by
  obtain ⟨xo, kvs, r⟩ := r
  exact ⟨xo, kvs, r.mono h⟩
theorem StA.sne {nms : List Str} {H : Hp} {st po sw : Addr} {xo : List V} {kvs : List (List Key × V)} {s : Sta} (r : StA nms H st po sw xo kvs s) : st ≠ sw ∧ po ≠ sw := ⟨ne_of r.hs r.hw (by intro q; cases q), ne_of r.ho r.hw (by intro q; cases q)⟩
theorem StA.fuel {nms : List Str} {H : Hp} {st po sw : Addr} {xo : List V} {kvs : List (List Key × V)} {s : Sta} (r : StA nms H st po sw xo kvs s) {n : Int} : StA nms (upd H st (.lst [.int n, .ref po, .ref sw])) st po sw xo kvs { s with fuel := n } ∧ Kq st po H (upd H st (.lst [.int n, .ref po, .ref sw])) := by
  have k : Kq st po H (upd H st (.lst [.int n, .ref po, .ref sw])) := kq_lst Oth.put r.hs (.inl rfl)
  refine ⟨⟨upd_same, ?_, ?_, Paired.imp' r.o fun _ _ q => q.tups k.tup, r.w.tups k.tup, r.kd, r.ne⟩, k⟩
  · rw [upd_ne r.ne.symm]; exact r.ho
  · rw [upd_ne r.sne.1.symm]; exact r.hw
theorem StA.print {nms : List Str} {H : Hp} {st po sw : Addr} {xo xo' : List V} {kvs : List (List Key × V)} {s : Sta} (r : StA nms H st po sw xo kvs s) {outs' : List (Int × Sh)} (h : Paired (RO H) outs' xo') : StA nms (upd H po (.lst xo')) st po sw xo' kvs { s with outs := outs' } ∧ Kq st po H (upd H po (.lst xo')) := by
  have k : Kq st po H (upd H po (.lst xo')) := kq_lst Oth.put r.ho (.inr rfl)
  refine ⟨⟨?_, upd_same, ?_, Paired.imp' h fun _ _ q => q.tups k.tup, r.w.tups k.tup, r.kd, r.ne⟩, k⟩
  · rw [upd_ne r.ne]; exact r.hs
  · rw [upd_ne r.sne.2.symm]; exact r.hw
theorem StA.setw {nms : List Str} {H : Hp} {st po sw : Addr} {xo : List V} {kvs kvs' : List (List Key × V)} {f : Tab} {s : Sta} (r : StA nms H st po sw xo kvs s) (h : RWq nms H kvs' f) (hd : KD kvs') : StA nms (upd H sw (.dT kvs')) st po sw xo kvs' { s with tb := f } ∧ Kq st po H (upd H sw (.dT kvs')) := by
  have k : Kq st po H (upd H sw (.dT kvs')) := kq_sw Oth.put r.hw
  refine ⟨⟨?_, ?_, upd_same, Paired.imp' r.o fun _ _ q => q.tups k.tup, h.tups k.tup, hd, r.ne⟩, k⟩
  · rw [upd_ne r.sne.1]; exact r.hs
  · rw [upd_ne r.sne.2]; exact r.ho
def isBad : Rs → Bool
  | .val _ => false
  | _ => true
/-- several parts, one after the other -/
def sev (n : Nat) : List TE → En → Ab → Int → Sta → Option ((List Vl ⊕ Rs) × Sta)
  | [], _, _, _, s => some (.inl [], s)
  | e :: r, en, ab, k, s => match ev n false e en ab k s with
    | some (.val v, s1) => (match sev n r en ab k s1 with
      | some (.inl vs, s2) => some (.inl (v :: vs), s2)
      | x => x)
    | some (b, s1) => some (.inr b, s1)
    | none => none
/-- what several parts have left: a list, or what went wrong -/
def LS (nms : List Str) (H0 H : Hp) : List Vl ⊕ Rs → V → Prop
  | .inl vs, u => ∃ p xs, u = .ref p ∧ H0 p = none ∧ H p = some (.lst xs) ∧ Paired (LV nms H) vs xs
  | .inr r, u => isBad r = true ∧ LR nms H r u
inductive spBad (nms : List Str) : List V → Hp → VK → XK → Prop
  | mk {r : Rs} {u : V} {H : Hp} {Q : VK} {E : XK} (h : LR nms H r u) (q : Q (.bl (isBad r)) H) : spBad nms [u] H Q E
  | mk2 {p : Addr} {xs : List V} {H : Hp} {Q : VK} {E : XK} (h : H p = some (.lst xs)) (q : Q (.bl false) H) : spBad nms [.ref p] H Q E
inductive spLShown (nms : List Str) : List V → Hp → VK → XK → Prop
  | mk {u : V} {v : Vl} {H : Hp} {Q : VK} {E : XK} (h : LV nms H v u) (q : ∀ u' H', Same H H' → shV H' (shw v) u' → Q u' H') : spLShown nms [u] H Q E
inductive spWith (nms : List Str) : List V → Hp → VK → XK → Prop
  | mk {a : Addr} {kvs : List (Key × V)} {x : Str} {v : V} {H : Hp} {Q : VK} {E : XK} (h : H a = some (.dK kvs)) (hk : KSt nms kvs) (hz : nms.length ≤ 1000) (q : ∀ p H', Same H H' → H p = none → H' p = some (.dK (putK kvs (.inr x) v)) → Q (.ref p) H') : spWith nms [.ref a, .str x, v] H Q E
inductive spLStep (nms : List Str) : List V → Hp → VK → XK → Prop
  | mk {st po sw : Addr} {s : Sta} {H : Hp} {Q : VK} {E : XK} (hs : StAt nms H st po sw s) (q : ∀ H', Kq st po H H' → StAt nms H' st po sw { s with fuel := s.fuel - 1 } → Q (.bl (decide (s.fuel - 1 < 0))) H') : spLStep nms [.ref st] H Q E
inductive spEval (nms : List Str) (n : Nat) (b : Bool) : List V → Hp → VK → XK → Prop
  | mk {e : TE} {en : En} {ab : Ab} {k : Int} {s s' : Sta} {r : Rs} {v va : V} {de st po sw : Addr} {ke : List (Key × V)} {H : Hp} {Q : VK} {E : XK} (he : ev n b e en ab k s = some (r, s')) (ho : s'.outs.length ≤ 5000000) (hz : nms.length ≤ 1000) (rp : RT H e v) (nm : Nm nms e)
    (h1 : H de = some (.dK ke)) (h2 : LE nms H en ke) (h3 : LA nms H ab va) (hs : StAt nms H st po sw s) (q : ∀ u H', Kq st po H H' → LR nms H' r u → StAt nms H' st po sw s' → Q u H') : spEval nms n b [v, .ref de, va, .int k, .ref st] H Q E
/-- a promise of a frame less -/
def shift (sp : Nat → Sp) : Nat → Sp
  | 0 => fun _ _ _ _ => False
  | n + 1 => sp n
inductive spSev (nms : List Str) (n : Nat) : List V → Hp → VK → XK → Prop
  | mk {es : List TE} {en : En} {ab : Ab} {k : Int} {s s' : Sta} {r : List Vl ⊕ Rs} {t : Addr} {us : List V} {va : V} {de st po sw : Addr} {ke : List (Key × V)} {H : Hp} {Q : VK} {E : XK} (he : sev n es en ab k s = some (r, s')) (ho : s'.outs.length ≤ 5000000) (hz : nms.length ≤ 1000) (hl : es.length ≤ 3) (ht : H t = some (.tup us)) (rp : Paired (RT H) es us) (nm : ∀ e ∈ es, Nm nms e)
    (h1 : H de = some (.dK ke)) (h2 : LE nms H en ke) (h3 : LA nms H ab va) (hs : StAt nms H st po sw s) (q : ∀ u H', Kq st po H H' → LS nms H H' r u → StAt nms H' st po sw s' → Q u H') : spSev nms n [.ref t, .ref de, va, .int k, .ref st] H Q E
inductive spApp (nms : List Str) (n : Nat) : List V → Hp → VK → XK → Prop
  | mk {v1 v2 : Vl} {u1 u2 : V} {k : Int} {s s' : Sta} {r : Rs} {st po sw : Addr} {H : Hp} {Q : VK} {E : XK} (he : opS (fun b en ab s => ev n false b en ab k s) .call k v1 v2 s = some (r, s')) (ho : s'.outs.length ≤ 5000000) (hz : nms.length ≤ 1000) (l1 : LV nms H v1 u1) (l2 : LV nms H v2 u2)
    (hs : StAt nms H st po sw s) (q : ∀ u H', Kq st po H H' → LR nms H' r u → StAt nms H' st po sw s' → Q u H') : spApp nms n [u1, u2, .int k, .ref st] H Q E
inductive spDone (nms : List Str) (n : Nat) : List V → Hp → VK → XK → Prop
  | op {m : Nat} {o : Opw} {v1 v2 : Vl} {p : Addr} {u1 u2 : V} {k : Int} {s s' : Sta} {r : Rs} {st po sw : Addr} {H : Hp} {Q : VK} {E : XK} (hm : n = m + 1) (he : opS (fun b en ab s => ev m false b en ab k s) o k v1 v2 s = some (r, s')) (ho : s'.outs.length ≤ 5000000) (hz : nms.length ≤ 1000) (hp : H p = some (.lst [u1, u2])) (l1 : LV nms H v1 u1) (l2 : LV nms H v2 u2)
    (hs : StAt nms H st po sw s) (q : ∀ u H', Kq st po H H' → LR nms H' r u → StAt nms H' st po sw s' → Q u H') : spDone nms n [.str o.str, .ref p, .int k, .ref st] H Q E
  | say {v1 : Vl} {p : Addr} {u1 : V} {k : Int} {s s' : Sta} {r : Rs} {st po sw : Addr} {H : Hp} {Q : VK} {E : XK} (he : sayS k v1 s = some (r, s')) (ho : s'.outs.length ≤ 5000000) (hp : H p = some (.lst [u1])) (hne : p ≠ po) (l1 : LV nms H v1 u1)
    (hs : StAt nms H st po sw s) (q : ∀ u H', Kq st po H H' → LR nms H' r u → StAt nms H' st po sw s' → Q u H') : spDone nms n [.str "say", .ref p, .int k, .ref st] H Q E
def isRef : V → Bool
  | .ref _ => true
  | _ => false
/-- what stands in a node that is no switch -/
def PartOk (H : Hp) (y : V) : Prop := (∃ i, y = .int i) ∨ (∃ x, y = .str x) ∨ ∃ a l, y = .ref a ∧ H a = some (.tup l)
theorem isi_part {K : PySem.W.Frag} {H : Hp} {y : V} {G : Bool → Prop} (p : PartOk H y) (q : G (isRef y)) : ∃ (x c : V) (t u : Value) (b : Bool), [y, .ty "tuple"] = [x, c] ∧ ClsV c u ∧ TyX K H x t ∧ PySem.W.kitOne K t u = some b ∧ G b := by
  rcases p with ⟨i, rfl⟩ | ⟨x, rfl⟩ | ⟨a, l, rfl, h⟩
  · exact ⟨_, _, .type "int", .type "tuple", false, rfl, .ty _, .base (.int i), kit_ty (by decide +kernel), q⟩
  · exact ⟨_, _, .type "str", .type "tuple", false, rfl, .ty _, .base (.str x), kit_ty (by decide +kernel), q⟩
  · exact ⟨_, _, .type "tuple", .type "tuple", true, rfl, .ty _, .base (.tup h), kit_ty (by decide +kernel), q⟩
def isInt : V → Bool
  | .int _ => true
  | _ => false
theorem isi_int {K : PySem.W.Frag} {H : Hp} {y : V} {G : Bool → Prop} (p : (∃ i, y = .int i) ∨ ∃ a l, y = .ref a ∧ H a = some (.tup l)) (q : G (isInt y)) : ∃ (x c : V) (t u : Value) (b : Bool), [y, .ty "int"] = [x, c] ∧ ClsV c u ∧ TyX K H x t ∧ PySem.W.kitOne K t u = some b ∧ G b := by
  rcases p with ⟨i, rfl⟩ | ⟨a, l, rfl, h⟩
  · exact ⟨_, _, .type "int", .type "int", true, rfl, .ty _, .base (.int i), kit_ty (by decide +kernel), q⟩
  · exact ⟨_, _, .type "tuple", .type "int", false, rfl, .ty _, .base (.tup h), kit_ty (by decide +kernel), q⟩
theorem isi_bool {K : PySem.W.Frag} {H : Hp} {i : Int} {G : Bool → Prop} (q : G false) : ∃ (x c : V) (t u : Value) (b : Bool), [.int i, .ty "bool"] = [x, c] ∧ ClsV c u ∧ TyX K H x t ∧ PySem.W.kitOne K t u = some b ∧ G b :=
  ⟨_, _, .type "int", .type "bool", false, rfl, .ty _, .base (.int i), kit_ty (by decide +kernel), q⟩
theorem isi_lst {K : PySem.W.Frag} {H : Hp} {p : Addr} {xs : List V} {G : Bool → Prop} (h : H p = some (.lst xs)) (q : G false) : ∃ (x c : V) (t u : Value) (b : Bool), [.ref p, .ty "tuple"] = [x, c] ∧ ClsV c u ∧ TyX K H x t ∧ PySem.W.kitOne K t u = some b ∧ G b :=
  ⟨_, _, .type "list", .type "tuple", false, rfl, .ty _, .base (.lst h), kit_ty (by decide +kernel), q⟩
theorem lv_part {nms : List Str} {H : Hp} {v : Vl} {u : V} (h : LV nms H v u) : (∃ i, u = .int i) ∨ ∃ a l, u = .ref a ∧ H a = some (.tup l) := by
  cases v with
  | int i =>
    rw [LV] at h
    exact .inl ⟨i, h⟩
  | fn k x b en ab =>
    rw [LV] at h
    obtain ⟨a, u, de, va, ke, rfl, h1, h⟩ := h
    exact .inr ⟨a, _, rfl, h1⟩
theorem part_ok {H : Hp} {u : V} (h : (∃ i, u = .int i) ∨ ∃ a l, u = .ref a ∧ H a = some (.tup l)) : PartOk H u := h.imp id .inr
section
variable {P : Program} {w : World} {K : PySem.W.Frag} {mg : Str → Option Value} {base : Heap} {aFunction aRun aRunB aPlace aForms aActions aOps : Addr} {k : Nat}
theorem ok_lbad {nms : List Str} (T : Tx w K mg aFunction aRun aRunB aPlace aForms aActions aOps) : FnX P w K mg base (k + 1) "_law_bad" ["value"] (spBad nms) := by
  refine T.d__law_bad.ok sc__law_bad (fun vs H Q E h => by cases h <;> rfl) (fun f cdv A outer s H vs Q E hr h => ?_)
  refine ⟨_, (pss_one (ps_ret (pe_and (pe_callB call_isi rfl T.z_isinstance (by decide +kernel) (pa_cons (pv 0) (pa_cons (pe_bltn (v := .ty "tuple") rfl T.z_tuple (by decide +kernel) rfl) pa_nil))) (pe_one (pe_cmpR op_eq (pe_ix ix_str (pe_ix ix_tup (pv 0) (pe_int) (fun _ _ => rfl)) (pe_int) (fun _ _ => rfl)) (pe_str) (nomark _)))))), ?_⟩
  rcases h with ⟨h, q⟩ | ⟨h, q⟩
  rotate_left
  · walk_at "g"
    refine isi_lst h ?_
    walk_at "g"
    exact q
  rename_i r u
  cases r with
  | val v =>
    cases v with
    | int i =>
      have h : LV nms H (.int i) u := h
      rw [LV] at h
      subst h
      walk_at "g"
      refine isi_part (.inl ⟨_, rfl⟩) ?_
      walk_at "g"
      exact q
    | fn k x b en ab =>
      have h : LV nms H (.fn k x b en ab) u := h
      rw [LV] at h
      obtain ⟨a, u, de, va, ke, rfl, h1, h⟩ := h
      walk_at "g"
      refine isi_part (.inr (.inr ⟨_, _, rfl, h1⟩)) ?_
      walk_at "g"
      refine ⟨"fn", 0, 102, rfl, rfl, small100 (by decide +kernel), (by decide +kernel), ?_⟩
      walk_at "g"
      exact q
  | stuck k =>
    obtain ⟨a, rfl, h1⟩ := h
    walk_at "g"
    refine isi_part (.inr (.inr ⟨_, _, rfl, h1⟩)) ?_
    walk_at "g"
    refine ⟨"!stuck", 0, 33, rfl, rfl, small100 (by decide +kernel), (by decide +kernel), ?_⟩
    walk_at "g"
    exact q
  | more =>
    obtain ⟨a, rfl, h1⟩ := h
    walk_at "g"
    refine isi_part (.inr (.inr ⟨_, _, rfl, h1⟩)) ?_
    walk_at "g"
    refine ⟨"!more", 0, 33, rfl, rfl, small100 (by decide +kernel), (by decide +kernel), ?_⟩
    walk_at "g"
    exact q
theorem ok_lshown {nms : List Str} (T : Tx w K mg aFunction aRun aRunB aPlace aForms aActions aOps) : FnX P w K mg base (k + 1) "_law_shown" ["value"] (spLShown nms) := by
  refine T.d__law_shown.ok sc__law_shown (fun vs H Q E h => by cases h; rfl) (fun f cdv A outer s H vs Q E hr h => ?_)
  rcases h with ⟨h, q⟩
  rename_i u v
  refine ⟨_, (pss_cons (ps_if (pt_val (pe_callB call_isi rfl T.z_isinstance (by decide +kernel) (pa_cons (pv 0) (pa_cons (pe_bltn (v := .ty "int") rfl T.z_int (by decide +kernel) rfl) pa_nil)))) (pss_one (ps_ret (pv 0))) pss_nil)
    (pss_one (ps_ret (pe_tup (pa_cons (pe_str) (pa_cons (pe_ix ix_tup (pv 0) (pe_int) (fun _ _ => rfl)) pa_nil)))))), ?_⟩
  cases v with
  | int i =>
    rw [LV] at h
    subst h
    refine seq_i fun N hN => ?_
    walk_at "g"
    refine isi_int (.inl ⟨_, rfl⟩) ?_
    walk_at "g"
    exact q _ _ (Same.refl _) rfl
  | fn k x b en ab =>
    rw [LV] at h
    obtain ⟨a, u, de, va, ke, rfl, h1, h⟩ := h
    refine seq_i fun N hN => ?_
    walk_at "g"
    refine isi_int (.inr ⟨_, _, rfl, h1⟩) ?_
    walk_at "g"
    refine hN _ _ ?_
    walk_at "g"
    walk_at "new"; rename_i p2 f2 H2 s2 t2
    exact q _ _ s2 ⟨p2, rfl, t2⟩
theorem ok_lwith {nms : List Str} (T : Tx w K mg aFunction aRun aRunB aPlace aForms aActions aOps) : FnX P w K mg base (k + 1) "_law_with" ["env", "x", "value"] (spWith nms) := by
  refine T.d__law_with.ok sc__law_with (fun vs H Q E h => by cases h; rfl) (fun f cdv A outer s H vs Q E hr h => ?_)
  rcases h with ⟨h, hk, hz, q⟩
  rename_i a kvs x v
  refine ⟨_, (pss_cons (ps_set (i := 3) sc__law_with.nd rfl (.inl rfl) (pe_callTy call_dictD rfl T.z_dict (by decide +kernel) (pa_cons (pv 0) pa_nil)))
    (pss_cons (ps_dput (hu_of hr) (pv 3) (pv 1) (pv 2) rfl)
    (pss_one (ps_ret (pv 3))))), ?_⟩
  refine seq_i fun N hN => ?_
  walk_at "g"
  refine ⟨a, kvs, rfl, .inl h, fun p hp => ?_⟩
  have s1 : Same H (upd H p (.dK kvs)) := Same.new hp
  have h1 : upd H p (.dK kvs) p = some (.dK kvs) := upd_same
  generalize upd H p (.dK kvs) = H1 at s1 h1 ⊢
  refine hN _ _ ?_
  clear hN
  refine seq_i fun N hN => ?_
  walk_at "g"
  have hl := hk.len
  refine ⟨p, _, rfl, DPut.k (k := .inr x) h1 (great' (by omega)), ?_⟩
  refine hN _ _ ?_
  walk_at "g"
  exact q _ _ (own_same hp s1 Oth.put) hp upd_same
theorem ok_lstep {nms : List Str} (T : Tx w K mg aFunction aRun aRunB aPlace aForms aActions aOps) : FnX P w K mg base (k + 1) "_law_step" ["st"] (spLStep nms) := by
  refine T.d__law_step.ok sc__law_step (fun vs H Q E h => by cases h; rfl) (fun f cdv A outer s0 H vs Q E hr h => ?_)
  rcases h with ⟨hs, q⟩
  rename_i st po sw s
  refine ⟨_, (pss_cons (ps_asg (pe_op op_sub (pe_ix ix_list (pv 0) (pe_int) (fun _ _ => rfl)) (pe_int)) (pg_sub (pv 0) (pe_int) set_list))
    (pss_one (ps_ret (pe_cmpR op_lt (pe_ix ix_list (pv 0) (pe_int) (fun _ _ => rfl)) (pe_int) (nomark _))))), ?_⟩
  obtain ⟨xo, kvs, hs1⟩ := hs
  have hst := hs1.hs
  refine seq_i fun N hN => ?_
  walk_at "g"
  refine hN _ _ ?_
  obtain ⟨r3, k3⟩ := hs1.fuel (n := s.fuel - 1)
  have q3 := q _ k3 ⟨_, _, r3⟩
  generalize hH : upd H st (HO.lst _) = H3
  have hH : upd H st (.lst [.int (s.fuel - 1), .ref po, .ref sw]) = H3 := hH
  rw [hH] at r3 k3 q3
  have hst3 := r3.hs
  walk_at "g"
  exact q3
end
end Zt

set_option Elab.async false
set_option linter.all false
set_option maxRecDepth 100000
set_option maxHeartbeats 4000000
namespace Zt
open PySem L2 PySem.Spec PyProof.Rows Zg
local macro_rules | `(tactic| walk_at "sq") => `(tactic| first | exact SqL.of (by assumption) | exact .inl (SqL.of (by assumption)) | assumption | exact SqT.of (by assumption) | exact .inr (SqT.of (by assumption)) | exact SqL.of upd_same | exact .inl (SqL.of upd_same))
local macro_rules | `(tactic| walk_at "hp") => `(tactic| first | assumption | exact upd_same)
local macro_rules | `(tactic| walk_at "cond") => `(tactic| first | assumption | rfl | (apply And.intro <;> assumption) | decide | (show (0 : Int) < _; decide) | (apply And.intro <;> decide) | (apply Or.inr; apply And.intro <;> decide) | (apply Or.inl; apply And.intro <;> decide))
local macro_rules | `(tactic| walk_at "s") => `(tactic| first
  | (with_reducible apply iteF)
  | (with_reducible apply iteT)
  | (apply e1; rfl)
  | (apply e2; rfl; rfl)
  | (apply e4; rfl; rfl; walk_at "sq"; rfl)
  | (apply e4; rfl; rfl; walk_at "hp"; rfl)
  | (apply e2; rfl; walk_at "sq")
  | (apply eOr; rfl)
  | (apply eOrR; rfl)
  | (apply eTru; walk_at "sq")
  | (apply eTruT; walk_at "sq")
  | (apply And.intro; (walk_at "cond"))
  | (apply iteTr; rfl)
  | (apply iteFr; rfl)
  | (apply iteD; all_goals intro _)
  | (with_reducible apply tNext_i))
local macro_rules | `(tactic| walk_at "g") => `(tactic| repeat' ((fail_if_success (with_reducible apply seq_i)); (fail_if_success (with_reducible apply cut_i)); (walk_at "s")))
local macro_rules | `(tactic| walk_at "size") => `(tactic| first | (simp only [List.length_cons, List.length_nil]; decide) | decide)
local macro_rules | `(tactic| walk_at "newp") => `(tactic| (intro p hp; generalize hH : upd _ _ _ = H1; have st := new_facts hp hH; clear hH; obtain ⟨s, t⟩ := st))
local macro_rules | `(tactic| walk_at "new") => `(tactic| walk_at "g"; first | (apply And.intro; (focus (apply small100; walk_at "size")); walk_at "newp") | (walk_at "newp"))

theorem LE.cons {nms : List Str} {H : Hp} {x : Str} {v : Vl} {u : V} {en : En} {ke : List (Key × V)} (hx : x ∈ nms) (l : LV nms H v u) (h : LE nms H en ke) : LE nms H (.cons x v en) (putK ke (.inr x) u) := by
  rw [LE]
  exact ⟨ke, u, hx, rfl, l, h⟩
section
variable {P : Program} {w : World} {K : PySem.W.Frag} {mg : Str → Option Value} {base : Heap} {aFunction aRun aRunB aPlace aForms aActions aOps : Addr} {k : Nat}
theorem ok_lapp {nms : List Str} {n : Nat} (T : Tx w K mg aFunction aRun aRunB aPlace aForms aActions aOps) (G__law_eval : FnF P w K mg base n "_law_eval" ["e", "env", "about", "k", "st"] (spEval nms n false)) (G__law_step : FnX P w K mg base 1 "_law_step" ["st"] (spLStep nms)) (G__law_with : FnX P w K mg base 1 "_law_with" ["env", "x", "value"] (spWith nms)) :
    FnF P w K mg base (n + 1) "_law_applied" ["f", "a", "k", "st"] (spApp nms n) := by
  refine T.d__law_applied.okF sc__law_applied (fun vs H Q E h => by cases h; rfl) (fun f cdv A outer s0 H vs Q E hrF h => ?_)
  rcases h with ⟨he, ho, hz, l1, l2, hs, q⟩
  rename_i v1 v2 u1 u2 lv s s' r st po sw
  have hr := hrF.room
  refine ⟨_, (pss_cons (ps_if (PW.pt (pw_or (pt_val (pe_callB call_isi rfl T.z_isinstance (by decide +kernel) (pa_cons (pv 0) (pa_cons (pe_bltn (v := .ty "int") rfl T.z_int (by decide +kernel) rfl) pa_nil)))) (pw_or1 (pt_cmpR op_ne (pe_ix ix_tup (pv 0) (pe_int) (fun _ _ => rfl)) (pv 2) (nomark _))))) (pss_one (ps_ret (pe_tup (pa_cons (pe_str) (pa_cons (pv 2) pa_nil))))) pss_nil)
    (pss_cons (ps_if (pt_val (pe_fn G__law_step hr rfl (pa_cons (pv 3) pa_nil))) (pss_one (ps_ret (pe_tup (pa_cons (pe_str) pa_nil)))) pss_nil)
    (pss_one (ps_ret (pe_fnF G__law_eval hrF rfl (pa_cons (pe_ix ix_tup (pv 0) (pe_int) (fun _ _ => rfl)) (pa_cons (pe_fn G__law_with hr rfl (pa_cons (pe_ix ix_tup (pv 0) (pe_int) (fun _ _ => rfl)) (pa_cons (pe_ix ix_tup (pv 0) (pe_int) (fun _ _ => rfl)) (pa_cons (pv 1) pa_nil)))) (pa_cons (pe_ix ix_tup (pv 0) (pe_int) (fun _ _ => rfl)) (pa_cons (pv 2) (pa_cons (pv 3) pa_nil)))))))))), ?_⟩
  cases v1 with
  | int i =>
    have he : some (Rs.stuck lv, s) = some (r, s') := he
    cases he
    rw [LV] at l1
    subst l1
    refine seq_i fun N hN => ?_
    walk_at "g"
    refine isi_int (.inl ⟨_, rfl⟩) ?_
    walk_at "g"
    walk_at "new"; rename_i p2 f2 H2 s2 t2
    exact q _ _ (kq_same s2) ⟨p2, rfl, t2⟩ (hs.mono s2)
  | fn k' x b en ab =>
    have he : (if k' = lv then stepS s fun s => ev n false b (.cons x v2 en) ab lv s else some (.stuck lv, s)) = some (r, s') := he
    rw [LV] at l1
    obtain ⟨a, u, de, va, ke, rfl, h1, h2, h3, h4, h5, h6, h7⟩ := l1
    refine seq_i fun N hN => ?_
    walk_at "g"
    refine isi_int (.inr ⟨_, _, rfl, h1⟩) ?_
    walk_at "g"
    · rename_i e
      have e : k' ≠ lv := fun z => by
        subst z
        simp at e
      rw [if_neg e] at he
      cases he
      walk_at "new"; rename_i p2 f2 H2 s2 t2
      exact q _ _ (kq_same s2) ⟨p2, rfl, t2⟩ (hs.mono s2)
    · rename_i e
      have e : k' = lv := by
        have := e
        simp at this
        exact this
      subst e
      rw [if_pos rfl] at he
      refine hN _ _ ?_
      clear hN
      refine seq_i fun N hN => ?_
      walk_at "g"
      refine spLStep.mk hs fun H2 k2 hs2 => ?_
      unfold stepS at he
      walk_at "g"
      · rename_i e
        rw [if_pos (of_decide_eq_true e)] at he
        cases he
        walk_at "new"; rename_i p3 f3 H3 s3 t3
        exact q _ _ (k2.trans (kq_same s3)) ⟨p3, rfl, t3⟩ (hs2.mono s3)
      · rename_i e
        rw [if_neg (of_decide_eq_false e)] at he
        refine hN _ _ ?_
        clear hN
        have h12 := k2.tup _ _ h1
        walk_at "g"
        have h62 := h6.kq k2
        refine spWith.mk (k2.dict _ _ h5) h62.ks hz fun p3 H3 s3 f3 t3 => ?_
        have k3 := k2.trans (kq_same s3)
        have h13 := s3 _ _ h12
        walk_at "g"
        exact spEval.mk he ho hz (h2.tups k3.tup) h4 t3 (LE.cons h3 (l2.kq k3) (h62.kq (kq_same (st := st) (po := po) s3))) (h7.kq k3) (hs2.mono s3) fun u4 H4 k4 lr4 hs4 => q _ _ (k3.trans k4) lr4 hs4
theorem ok_ldone {nms : List Str} {n : Nat} (T : Tx w K mg aFunction aRun aRunB aPlace aForms aActions aOps) (G__law_applied : FnF P w K mg base n "_law_applied" ["f", "a", "k", "st"] (shift (spApp nms) n)) (G__law_shown : FnX P w K mg base 1 "_law_shown" ["value"] (spLShown nms)) :
    FnF P w K mg base (n + 1) "_law_done" ["kind", "values", "k", "st"] (spDone nms n) := by
  refine T.d__law_done.okF sc__law_done (fun vs H Q E h => by cases h <;> rfl) (fun f cdv A outer s0 H vs Q E hrF h => ?_)
  have hr := hrF.room
  refine ⟨_, (pss_cons (ps_if (pt_cmpR op_eq (pv 0) (pe_str) (nomark _)) (pss_one (ps_ret (pe_fnF G__law_applied hrF rfl (pa_cons (pe_ix ix_list (pv 1) (pe_int) (fun _ _ => rfl)) (pa_cons (pe_ix ix_list (pv 1) (pe_int) (fun _ _ => rfl)) (pa_cons (pv 2) (pa_cons (pv 3) pa_nil))))))) pss_nil)
    (pss_cons (ps_if (pt_cmpR op_eq (pv 0) (pe_str) (nomark _)) (pss_cons (ps_expr (pe_bm PySem.F.plainAttrs_list PySem.F.slot_list_append PySem.F.type_list_append mt_append (pe_ix ix_list (pv 3) (pe_int) (fun _ _ => rfl)) (pa_cons (pe_tup (pa_cons (pv 2) (pa_cons (pe_fn G__law_shown hr rfl (pa_cons (pe_ix ix_list (pv 1) (pe_int) (fun _ _ => rfl)) pa_nil)) pa_nil))) pa_nil)))
    (pss_one (ps_ret (pe_ix ix_list (pv 1) (pe_int) (fun _ _ => rfl))))) pss_nil)
    (pss_cons (ps_if (PW.pt (pw_or (pt_not (pt_val (pe_callB call_isi rfl T.z_isinstance (by decide +kernel) (pa_cons (pe_ix ix_list (pv 1) (pe_int) (fun _ _ => rfl)) (pa_cons (pe_bltn (v := .ty "int") rfl T.z_int (by decide +kernel) rfl) pa_nil))))) (pw_or1 (pt_not (pt_val (pe_callB call_isi rfl T.z_isinstance (by decide +kernel) (pa_cons (pe_ix ix_list (pv 1) (pe_int) (fun _ _ => rfl)) (pa_cons (pe_bltn (v := .ty "int") rfl T.z_int (by decide +kernel) rfl) pa_nil)))))))) (pss_one (ps_ret (pe_tup (pa_cons (pe_str) (pa_cons (pv 2) pa_nil))))) pss_nil)
    (pss_cons (ps_if (pt_cmpR op_eq (pv 0) (pe_str) (nomark _)) (pss_one (ps_ret (pe_op op_add (pe_ix ix_list (pv 1) (pe_int) (fun _ _ => rfl)) (pe_ix ix_list (pv 1) (pe_int) (fun _ _ => rfl))))) pss_nil)
    (pss_one (ps_ret (pe_callTy call_int1 rfl T.z_int (by decide +kernel) (pa_cons (pe_cmpR op_lt (pe_ix ix_list (pv 1) (pe_int) (fun _ _ => rfl)) (pe_ix ix_list (pv 1) (pe_int) (fun _ _ => rfl)) (nomark _)) pa_nil)))))))), ?_⟩
  rcases h with ⟨hm, he, ho, hz, hp, l1, l2, hs, q⟩ | ⟨he, ho, hp, hne, l1, hs, q⟩
  · rename_i m o v1 v2 p u1 u2 lv s s' r st po sw
    have nums : ∀ o : Opw, o ≠ .call → opS (fun b en ab s => ev m false b en ab lv s) o lv v1 v2 s = some (arith o lv v1 v2, s) := by
      intro o ho
      cases o with
      | call => exact absurd rfl ho
      | sum => rfl
      | less => rfl
    cases o with
    | call =>
      refine seq_i fun N hN => ?_
      walk_at "g"
      subst hm
      exact spApp.mk he ho hz l1 l2 hs q
    | sum =>
      rw [nums .sum (by intro z; cases z)] at he
      cases he
      refine seq_i fun N hN => ?_
      walk_at "g"
      refine hN _ _ ?_
      clear hN
      refine seq_i fun N hN => ?_
      walk_at "g"
      refine hN _ _ ?_
      clear hN
      refine seq_i fun N hN => ?_
      walk_at "g"
      refine isi_int (lv_part l1) ?_
      cases v1 with
      | fn k' x b en ab =>
        rw [LV] at l1
        obtain ⟨a, u, de, va, ke, rfl, h1, h2⟩ := l1
        walk_at "g"
        walk_at "new"; rename_i p2 f2 H2 s2 t2
        exact q _ _ (kq_same s2) ⟨p2, rfl, t2⟩ (hs.mono s2)
      | int i =>
        rw [LV] at l1
        subst l1
        walk_at "g"
        refine isi_int (lv_part l2) ?_
        cases v2 with
        | fn k' x b en ab =>
          rw [LV] at l2
          obtain ⟨a, u, de, va, ke, rfl, h1, h2⟩ := l2
          walk_at "g"
          walk_at "new"; rename_i p2 f2 H2 s2 t2
          exact q _ _ (kq_same s2) ⟨p2, rfl, t2⟩ (hs.mono s2)
        | int j =>
          rw [LV] at l2
          subst l2
          walk_at "g"
          refine hN _ _ ?_
          clear hN
          refine seq_i fun N hN => ?_
          walk_at "g"
          exact q _ _ (Kq.refl _) (by show LV nms _ _ _; rw [LV]) hs
    | less =>
      rw [nums .less (by intro z; cases z)] at he
      cases he
      refine seq_i fun N hN => ?_
      walk_at "g"
      refine hN _ _ ?_
      clear hN
      refine seq_i fun N hN => ?_
      walk_at "g"
      refine hN _ _ ?_
      clear hN
      refine seq_i fun N hN => ?_
      walk_at "g"
      refine isi_int (lv_part l1) ?_
      cases v1 with
      | fn k' x b en ab =>
        rw [LV] at l1
        obtain ⟨a, u, de, va, ke, rfl, h1, h2⟩ := l1
        walk_at "g"
        walk_at "new"; rename_i p2 f2 H2 s2 t2
        exact q _ _ (kq_same s2) ⟨p2, rfl, t2⟩ (hs.mono s2)
      | int i =>
        rw [LV] at l1
        subst l1
        walk_at "g"
        refine isi_int (lv_part l2) ?_
        cases v2 with
        | fn k' x b en ab =>
          rw [LV] at l2
          obtain ⟨a, u, de, va, ke, rfl, h1, h2⟩ := l2
          walk_at "g"
          walk_at "new"; rename_i p2 f2 H2 s2 t2
          exact q _ _ (kq_same s2) ⟨p2, rfl, t2⟩ (hs.mono s2)
        | int j =>
          rw [LV] at l2
          subst l2
          walk_at "g"
          refine hN _ _ ?_
          clear hN
          refine seq_i fun N hN => ?_
          walk_at "g"
          refine hN _ _ ?_
          clear hN
          walk_at "g"
          have e : V.int (if decide (i < j) = true then 1 else 0) = V.int (if i < j then 1 else 0) := by
            by_cases h : i < j
            · rw [decide_eq_true h, if_pos rfl, if_pos h]
            · rw [decide_eq_false h, if_neg Bool.false_ne_true, if_neg h]
          refine q _ _ (Kq.refl _) ?_ hs
          rw [e]
          show LV nms _ _ _
          rw [LV]
  · rename_i v1 p u1 lv s s' r st po sw
    have he : some (Rs.val v1, { s with outs := s.outs ++ [(lv, shw v1)] }) = some (r, s') := he
    cases he
    obtain ⟨xo, kvs, hs1⟩ := id hs
    have hst := hs1.hs
    have hlo := Paired.length' hs1.o
    have ho : (s.outs ++ [(lv, shw v1)]).length ≤ 5000000 := ho
    rw [List.length_append] at ho
    refine seq_i fun N hN => ?_
    walk_at "g"
    refine hN _ _ ?_
    clear hN
    refine seq_i fun N hN => ?_
    walk_at "g"
    refine ⟨.inl ⟨rfl, _, SqL.of hs1.ho⟩, ?_⟩
    walk_at "g"
    refine spLShown.mk l1 fun u' H2 s2 sh => ?_
    walk_at "new"; rename_i p3 f3 H3 s3 t3
    have s23 := Same.trans s2 s3
    have hs3 := hs1.mono s23
    walk_at "g"
    refine ⟨_, _, _, rfl, rfl, hs3.ho, great' (by omega), ?_⟩
    obtain ⟨r4, k4⟩ := hs3.print (xo' := xo ++ [.ref p3]) (outs' := s.outs ++ [(lv, shw v1)]) (Paired.snoc' hs3.o ⟨p3, u', rfl, t3, sh.tups (Same.tups s3)⟩)
    have hp4 : upd H3 po (.lst (xo ++ [.ref p3])) p = some (.lst [u1]) := by
      rw [upd_ne hne]
      exact s23 _ _ hp
    have k := (kq_same s23).trans k4
    walk_at "g"
    exact q _ _ k (l1.kq k) ⟨_, _, r4⟩
def sevOne (vs : List Vl) : Option (Rs × Sta) → Option ((List Vl ⊕ Rs) × Sta)
  | some (.val v, s2) => some (.inl (vs ++ [v]), s2)
  | some (b, s2) => some (.inr b, s2)
  | none => none
/-- the parts have been evaluated up to the turn -/
theorem sev_snoc {n : Nat} {en : En} {ab : Ab} {k : Int} : ∀ {es : List TE} {e : TE} {s s1 : Sta} {vs : List Vl}, sev n es en ab k s = some (.inl vs, s1) → sev n (es ++ [e]) en ab k s = sevOne vs (ev n false e en ab k s1)
  | [], e, s, s1, vs, h => by
    cases h
    show (match ev n false e en ab k s with
      | some (.val v, s1) => (match sev n [] en ab k s1 with
        | some (.inl vs, s2) => some (Sum.inl (v :: vs), s2)
        | x => x)
      | some (b, s1) => some (Sum.inr b, s1)
      | none => none) = _
    cases ev n false e en ab k s with
    | none => rfl
    | some x =>
      obtain ⟨r, s2⟩ := x
      cases r <;> rfl
  | d :: es, e, s, s1, vs, h => by
    have h : (match ev n false d en ab k s with
      | some (.val v, s1) => (match sev n es en ab k s1 with
        | some (.inl vs, s2) => some (Sum.inl (v :: vs), s2)
        | x => x)
      | some (b, s1) => some (Sum.inr b, s1)
      | none => none) = some (.inl vs, s1) := h
    show (match ev n false d en ab k s with
      | some (.val v, s1) => (match sev n (es ++ [e]) en ab k s1 with
        | some (.inl vs, s2) => some (Sum.inl (v :: vs), s2)
        | x => x)
      | some (b, s1) => some (Sum.inr b, s1)
      | none => none) = _
    cases hd : ev n false d en ab k s with
    | none => rw [hd] at h; cases h
    | some x =>
      obtain ⟨r, s2⟩ := x
      rw [hd] at h
      cases r with
      | stuck k => cases h
      | more => cases h
      | val v =>
        dsimp only at h ⊢
        cases hr : sev n es en ab k s2 with
        | none => rw [hr] at h; cases h
        | some y =>
          obtain ⟨z, s3⟩ := y
          rw [hr] at h
          cases z with
          | inr b => cases h
          | inl ws =>
            cases h
            rw [sev_snoc hr]
            cases ev n false e en ab k s1 with
            | none => rfl
            | some x =>
              obtain ⟨r, s2⟩ := x
              cases r <;> rfl
theorem sev_pre {n : Nat} {en : En} {ab : Ab} {k : Int} {r : List Vl ⊕ Rs} {s' : Sta} : ∀ {es fs : List TE} {s : Sta}, sev n (es ++ fs) en ab k s = some (r, s') → (∃ vs s1 r2, sev n es en ab k s = some (.inl vs, s1) ∧ sev n fs en ab k s1 = some (r2, s')) ∨ ∃ b, sev n es en ab k s = some (.inr b, s') ∧ r = .inr b
  | [], fs, s, h => .inl ⟨[], s, r, rfl, h⟩
  | d :: es, fs, s, h => by
    have h : (match ev n false d en ab k s with
      | some (.val v, s1) => (match sev n (es ++ fs) en ab k s1 with
        | some (.inl vs, s2) => some (Sum.inl (v :: vs), s2)
        | x => x)
      | some (b, s1) => some (Sum.inr b, s1)
      | none => none) = some (r, s') := h
    have e0 : sev n (d :: es) en ab k s = (match ev n false d en ab k s with
      | some (.val v, s1) => (match sev n es en ab k s1 with
        | some (.inl vs, s2) => some (Sum.inl (v :: vs), s2)
        | x => x)
      | some (b, s1) => some (Sum.inr b, s1)
      | none => none) := rfl
    cases hd : ev n false d en ab k s with
    | none => rw [hd] at h; cases h
    | some x =>
      obtain ⟨r0, s2⟩ := x
      rw [hd] at h
      rw [e0, hd]
      cases r0 with
      | stuck k => cases h; exact .inr ⟨_, rfl, rfl⟩
      | more => cases h; exact .inr ⟨_, rfl, rfl⟩
      | val v =>
        dsimp only at h ⊢
        cases hr : sev n (es ++ fs) en ab k s2 with
        | none => rw [hr] at h; cases h
        | some y =>
          obtain ⟨z, s3⟩ := y
          have e3 : s3 = s' := by
            rw [hr] at h
            cases z <;> (cases h; rfl)
          subst e3
          rcases sev_pre hr with ⟨vs, s1, r2, e1, e2⟩ | ⟨b, e1, e2⟩
          · rw [e1]
            exact .inl ⟨_, _, r2, rfl, e2⟩
          · subst e2
            rw [hr] at h
            cases h
            rw [e1]
            exact .inr ⟨_, rfl, rfl⟩
theorem sev_fw {n : Nat} {en : En} {ab : Ab} {k : Int} {r : List Vl ⊕ Rs} {s' : Sta} : ∀ {es : List TE} {s : Sta}, sev n es en ab k s = some (r, s') → s.outs.length ≤ s'.outs.length
  | [], s, h => by cases h; exact Nat.le_refl _
  | d :: es, s, h => by
    have h : (match ev n false d en ab k s with
      | some (.val v, s1) => (match sev n es en ab k s1 with
        | some (.inl vs, s2) => some (Sum.inl (v :: vs), s2)
        | x => x)
      | some (b, s1) => some (Sum.inr b, s1)
      | none => none) = some (r, s') := h
    cases hd : ev n false d en ab k s with
    | none => rw [hd] at h; cases h
    | some x =>
      obtain ⟨r0, s2⟩ := x
      have f := (ev_fw _ _ _ _ _ _ _ _ _ hd).outs
      rw [hd] at h
      cases r0 with
      | stuck k => cases h; exact f
      | more => cases h; exact f
      | val v =>
        dsimp only at h
        cases hr : sev n es en ab k s2 with
        | none => rw [hr] at h; cases h
        | some y =>
          obtain ⟨z, s3⟩ := y
          have := sev_fw hr
          rw [hr] at h
          cases z <;> (cases h; exact Nat.le_trans f this)
theorem StAt.oth {nms : List Str} {H H' : Hp} {st po sw p : Addr} {l : List V} {s : Sta} (r : StAt nms H st po sw s) (o : Oth p H H') (hp : H p = some (.lst l)) (n1 : p ≠ st) (n2 : p ≠ po) : StAt nms H' st po sw s := by
  obtain ⟨xo, kvs, r⟩ := r
  have t : Tups H H' := o.tups hp
  exact ⟨xo, kvs, o _ _ n1.symm r.hs, o _ _ n2.symm r.ho, o _ _ (fun z => by have := r.hw; rw [z, hp] at this; cases this) r.hw, Paired.imp' r.o fun _ _ q => q.tups t, r.w.tups t, r.kd, r.ne⟩
theorem at_last1 {α : Type} {xs : List α} {u : α} : atI (xs ++ [u]) (-1) = some u := at_neg1
theorem ok_lsev {nms : List Str} {n : Nat} (T : Tx w K mg aFunction aRun aRunB aPlace aForms aActions aOps) (G__law_eval : FnF P w K mg base n "_law_eval" ["e", "env", "about", "k", "st"] (spEval nms n false)) (G__law_bad : FnX P w K mg base 1 "_law_bad" ["value"] (spBad nms)) :
    FnF P w K mg base (n + 1) "_law_several" ["parts", "env", "about", "k", "st"] (spSev nms n) := by
  refine T.d__law_several.okF sc__law_several (fun vs H Q E h => by cases h; rfl) (fun f cdv A outer s0 H vs Q E hrF h => ?_)
  rcases h with ⟨he, ho, hz, hl, ht, rp, nm, h1, h2, h3, hs, q⟩
  rename_i es en ab lv s s' r t us va de st po sw ke
  have hr := hrF.room
  refine ⟨_, (pss_cons (ps_set (i := 5) sc__law_several.nd rfl (.inl rfl) (pe_lst pa_nil))
    (pss_cons (ps_for PassesOwn.never rfl (pi_tup (pv 0)) (pg_name (i := 6) sc__law_several.nd rfl (.inl rfl)) (pss_cons (ps_expr (pe_bm PySem.F.plainAttrs_list PySem.F.slot_list_append PySem.F.type_list_append mt_append (pv 5) (pa_cons (pe_fnF G__law_eval hrF rfl (pa_cons (pv 6) (pa_cons (pv 1) (pa_cons (pv 2) (pa_cons (pv 3) (pa_cons (pv 4) pa_nil)))))) pa_nil)))
    (pss_one (ps_if (pt_val (pe_fn G__law_bad hr rfl (pa_cons (pe_ix ix_list (pv 5) (pe_un un_neg (pe_int)) (fun _ _ => rfl)) pa_nil))) (pss_one (ps_ret (pe_ix ix_list (pv 5) (pe_un un_neg (pe_int)) (fun _ _ => rfl)))) pss_nil))))
    (pss_one (ps_ret (pv 5))))), ?_⟩
  have hul := Paired.length' rp
  refine seq_i fun N hN => ?_
  walk_at "new"; rename_i pl f1 H1 s1 t1
  refine hN _ _ ?_
  clear hN
  refine seq_i fun N hN => ?_
  walk_at "g"
  refine ⟨⟨us, SqT.of (s1 _ _ ht)⟩, ?_⟩
  obtain ⟨xo0, kvs0, hs0⟩ := id hs
  have n1 : pl ≠ st := fun e => by subst e; rw [hs0.hs] at f1; cases f1
  have n2 : pl ≠ po := fun e => by subst e; rw [hs0.ho] at f1; cases f1
  refine for_it (walk_tup (xs := us)) (fun i σ H' => ∃ u6 s1' vs xs, σ = [some (.ref t), some (.ref de), some va, some (.int lv), some (.ref st), some (.ref pl), u6] ∧ Kq st po H H' ∧ H' pl = some (.lst xs) ∧ Paired (LV nms H') vs xs ∧ StAt nms H' st po sw s1' ∧ vs.length = i ∧ sev n (es.take i) en ab lv s = some (.inl vs, s1')) ⟨none, s, [], [], rfl, kq_same s1, t1, .nil, hs.mono s1, rfl, rfl⟩ (fun i σ H' _ h => ?_) (fun i x σ H' H2 hi h y => ?_) (fun σ H' h => ?_)
  · obtain ⟨u6, s1', vs, xs, _, k, _⟩ := h
    exact SqT.of (k.tup _ _ ht)
  · obtain ⟨u6, s1', vs, xs, rfl, k, hp, pv, hs', hvl, hsv⟩ := h
    obtain ⟨rfl, ex⟩ := y
    obtain ⟨e, x', he1, e3, re⟩ := Paired.at (i := i) rp (by omega)
    rw [ex] at e3
    cases e3
    have etk : es.take (i + 1) = es.take i ++ [e] := by rw [List.take_succ, he1] <;> rfl
    have hsn := sev_snoc (e := e) hsv
    rw [← etk] at hsn
    have hall : sev n (es.take (i + 1) ++ es.drop (i + 1)) en ab lv s = some (r, s') := by rw [List.take_append_drop]; exact he
    have hxl := Paired.length' pv
    have hme : e ∈ es := List.mem_of_getElem? he1
    walk_at "g"
    refine ⟨.inl ⟨rfl, _, SqL.of hp⟩, ?_⟩
    walk_at "g"
    cases hev : ev n false e en ab lv s1' with
    | none =>
      rw [hev] at hsn
      rcases sev_pre hall with ⟨vs', s2, r2, e1, _⟩ | ⟨b, e1, _⟩
      · rw [hsn] at e1; cases e1
      · rw [hsn] at e1; cases e1
    | some z =>
      obtain ⟨r0, s2⟩ := z
      rw [hev] at hsn
      have ho2 : s2.outs.length ≤ 5000000 ∧ (∀ b, r0 = b → isBad b = true → r = .inr b ∧ s' = s2) := by
        cases r0 with
        | val v =>
          rcases sev_pre hall with ⟨vs', s2', r2, e1, e2⟩ | ⟨b, e1, _⟩
          · rw [hsn] at e1
            cases e1
            have := sev_fw e2
            exact ⟨Nat.le_trans this ho, fun b e hb => by subst e; cases hb⟩
          · rw [hsn] at e1; cases e1
        | stuck j =>
          rcases sev_pre hall with ⟨vs', s2', r2, e1, e2⟩ | ⟨b, e1, e2⟩
          · rw [hsn] at e1; cases e1
          · rw [hsn] at e1
            cases e1
            exact ⟨ho, fun b e _ => by subst e; exact ⟨e2, rfl⟩⟩
        | more =>
          rcases sev_pre hall with ⟨vs', s2', r2, e1, e2⟩ | ⟨b, e1, e2⟩
          · rw [hsn] at e1; cases e1
          · rw [hsn] at e1
            cases e1
            exact ⟨ho, fun b e _ => by subst e; exact ⟨e2, rfl⟩⟩
      refine spEval.mk hev ho2.1 hz (re.tups k.tup) (nm e hme) (k.dict _ _ h1) (h2.kq k) (h3.kq k) hs' fun u4 H4 k4 lr4 hs4 => ?_
      have hp4 := k4.lst _ _ n1 n2 hp
      refine ⟨_, _, _, rfl, rfl, hp4, great' (by omega), ?_⟩
      have k04 := k.trans k4
      have o5 : Oth pl H4 (upd H4 pl (.lst (xs ++ [u4]))) := Oth.put
      have t5 : Kq pl pl H4 (upd H4 pl (.lst (xs ++ [u4]))) := kq_lst o5 hp4 (.inl rfl)
      have hs5 := hs4.oth o5 hp4 n1 n2
      have hp5 : upd H4 pl (.lst (xs ++ [u4])) pl = some (.lst (xs ++ [u4])) := upd_same
      have k05 : Kq st po H (upd H4 pl (.lst (xs ++ [u4]))) := ⟨k04.tup.trans t5.tup, fun a kvs z => t5.dict _ _ (k04.dict _ _ z), fun a l m1 m2 z => by
        rw [upd_ne (ne_of_none z f1)]
        exact k04.lst _ _ m1 m2 z⟩
      have lr5 : LR nms (upd H4 pl (.lst (xs ++ [u4]))) r0 u4 := lr4.kq t5
      have pv5 : Paired (LV nms (upd H4 pl (.lst (xs ++ [u4])))) vs xs := Paired.imp' pv fun _ _ l => (l.kq k4).kq t5
      generalize upd H4 pl (.lst (xs ++ [u4])) = H5 at *
      walk_at "g"
      refine ⟨pl, _, _, _, rfl, rfl, SqL.of hp5, at_last1, ?_⟩
      walk_at "g"
      refine spBad.mk lr5 ?_
      cases r0 with
      | val v =>
        walk_at "g"
        refine ⟨_, s2, vs ++ [v], xs ++ [u4], rfl, k05, hp5, Paired.snoc' pv5 lr5, hs5, by rw [List.length_append, hvl]; rfl, hsn⟩
      | stuck j =>
        obtain ⟨er, es'⟩ := ho2.2 _ rfl rfl
        subst er
        subst es'
        walk_at "g"
        refine ⟨pl, _, _, _, rfl, rfl, SqL.of hp5, at_last1, ?_⟩
        exact q _ _ k05 ⟨rfl, lr5⟩ hs5
      | more =>
        obtain ⟨er, es'⟩ := ho2.2 _ rfl rfl
        subst er
        subst es'
        walk_at "g"
        refine ⟨pl, _, _, _, rfl, rfl, SqL.of hp5, at_last1, ?_⟩
        exact q _ _ k05 ⟨rfl, lr5⟩ hs5
  · obtain ⟨u6, s1', vs, xs, rfl, k, hp, pv, hs', hvl, hsv⟩ := h
    refine hN _ _ ?_
    walk_at "g"
    rw [List.take_of_length_le (by omega), he] at hsv
    cases hsv
    exact q _ _ k ⟨pl, xs, rfl, f1, hp, pv⟩ hs'
end
end Zt

set_option Elab.async false
set_option linter.all false
set_option maxRecDepth 100000
set_option maxHeartbeats 4000000
namespace Zt
open PySem L2 PySem.Spec PyProof.Rows Zg
local macro_rules | `(tactic| walk_at "sq") => `(tactic| first | exact SqL.of (by assumption) | exact .inl (SqL.of (by assumption)) | assumption | exact SqT.of (by assumption) | exact .inr (SqT.of (by assumption)) | exact SqL.of upd_same | exact .inl (SqL.of upd_same))
local macro_rules | `(tactic| walk_at "hp") => `(tactic| first | assumption | exact upd_same)
local macro_rules | `(tactic| walk_at "cond") => `(tactic| first | assumption | rfl | (apply And.intro <;> assumption) | decide | (show (0 : Int) < _; decide) | (apply And.intro <;> decide) | (apply Or.inr; apply And.intro <;> decide) | (apply Or.inl; apply And.intro <;> decide))
local macro_rules | `(tactic| walk_at "s") => `(tactic| first
  | (with_reducible apply iteF)
  | (with_reducible apply iteT)
  | (apply e1; rfl)
  | (apply e2; rfl; rfl)
  | (apply e4; rfl; rfl; walk_at "sq"; rfl)
  | (apply e4; rfl; rfl; walk_at "hp"; rfl)
  | (apply e2; rfl; walk_at "sq")
  | (apply eOr; rfl)
  | (apply eOrR; rfl)
  | (apply eTru; walk_at "sq")
  | (apply eTruT; walk_at "sq")
  | (apply And.intro; (walk_at "cond"))
  | (apply iteTr; rfl)
  | (apply iteFr; rfl)
  | (apply iteD; all_goals intro _)
  | (with_reducible apply tNext_i))
local macro_rules | `(tactic| walk_at "g") => `(tactic| repeat' ((fail_if_success (with_reducible apply seq_i)); (fail_if_success (with_reducible apply cut_i)); (walk_at "s")))
local macro_rules | `(tactic| walk_at "size") => `(tactic| first | (simp only [List.length_cons, List.length_nil]; decide) | decide)
local macro_rules | `(tactic| walk_at "newp") => `(tactic| (intro p hp; generalize hH : upd _ _ _ = H1; have st := new_facts hp hH; clear hH; obtain ⟨s, t⟩ := st))
local macro_rules | `(tactic| walk_at "new") => `(tactic| walk_at "g"; first | (apply And.intro; (focus (apply small100; walk_at "size")); walk_at "newp") | (walk_at "newp"))

theorem sev1 {m : Nat} {a : TE} {en : En} {ab : Ab} {k : Int} {s s' : Sta} {r : Rs} {f : Vl → Sta → Option (Rs × Sta)} (h : thenS (ev m false a en ab k s) f = some (r, s')) : (∃ v s1, sev m [a] en ab k s = some (.inl [v], s1) ∧ f v s1 = some (r, s')) ∨ (sev m [a] en ab k s = some (.inr r, s') ∧ isBad r = true) := by
  have e0 : sev m [a] en ab k s = sevOne [] (ev m false a en ab k s) := sev_snoc (es := []) rfl
  rw [e0]
  rcases thenS_some h with ⟨v, s1, e1, e2⟩ | ⟨e1, hn⟩
  · rw [e1]
    exact .inl ⟨v, s1, rfl, e2⟩
  · rw [e1]
    cases r with
    | val v => exact absurd rfl (hn v)
    | stuck j => exact .inr ⟨rfl, rfl⟩
    | more => exact .inr ⟨rfl, rfl⟩
theorem sev2 {m : Nat} {a b : TE} {en : En} {ab : Ab} {k : Int} {s s' : Sta} {r : Rs} {f : Vl → Vl → Sta → Option (Rs × Sta)} (h : (thenS (ev m false a en ab k s) fun v1 s => thenS (ev m false b en ab k s) fun v2 s => f v1 v2 s) = some (r, s')) :
    (∃ v1 v2 s2, sev m [a, b] en ab k s = some (.inl [v1, v2], s2) ∧ f v1 v2 s2 = some (r, s')) ∨ (sev m [a, b] en ab k s = some (.inr r, s') ∧ isBad r = true) := by
  rcases thenS_some h with ⟨v, s1, e1, e2⟩ | ⟨e1, hn⟩
  · have e0 : sev m [a, b] en ab k s = sevOne [v] (ev m false b en ab k s1) := by
      refine sev_snoc (es := [a]) ?_
      have e0 : sev m [a] en ab k s = sevOne [] (ev m false a en ab k s) := sev_snoc (es := []) rfl
      rw [e0, e1]
      rfl
    rw [e0]
    rcases thenS_some e2 with ⟨v2, s2, e3, e4⟩ | ⟨e3, hn⟩
    · rw [e3]
      exact .inl ⟨v, v2, s2, rfl, e4⟩
    · rw [e3]
      cases r with
      | val v => exact absurd rfl (hn v)
      | stuck j => exact .inr ⟨rfl, rfl⟩
      | more => exact .inr ⟨rfl, rfl⟩
  · have e0 : sev m [a, b] en ab k s = some (.inr r, s') := by
      show (match ev m false a en ab k s with
      | some (.val v, s1) => (match sev m [b] en ab k s1 with
        | some (.inl vs, s2) => some (Sum.inl (v :: vs), s2)
        | x => x)
      | some (b, s1) => some (Sum.inr b, s1)
      | none => none) = _
      rw [e1]
      cases r with
      | val v => exact absurd rfl (hn v)
      | stuck j => rfl
      | more => rfl
    refine .inr ⟨e0, ?_⟩
    cases r with
    | val v => exact absurd rfl (hn v)
    | stuck j => rfl
    | more => rfl
theorem kinds_in {e : TE} : inV (.str (wd e)) (kindsL.map V.str) = ch e := by
  rw [inV_str]
  cases h : ch e with
  | true => exact decide_eq_true (ch_kinds h)
  | false => exact decide_eq_false (ch_not h)
theorem Paired.cons_inv {α β : Type} {F : α → β → Prop} {x : α} {l : List α} {m : List β} (h : Paired F (x :: l) m) : ∃ y m', m = y :: m' ∧ F x y ∧ Paired F l m' := by
  cases h with
  | cons a b => exact ⟨_, _, rfl, a, b⟩
theorem if_str {x t : Str} {i : Int} : i + (if decide (V.str x = V.str t) = true then 1 else 0) = i + (if x = t then 1 else 0) := by
  by_cases h : x = t
  · rw [if_pos h, if_pos (decide_eq_true (by rw [h]))]
  · rw [if_neg h, if_neg (fun z => h (V.str.inj (of_decide_eq_true z)))]
theorem rt_part {H : Hp} {e p : TE} {v : V} {i : Nat} (r : RT H e v) (hp : partAt e i = some p) : ∃ a xs u, v = .ref a ∧ H a = some (.tup (.str (wd e) :: xs)) ∧ atI (V.str (wd e) :: xs) ((i : Int) + 1 + if wd e = "let" then 1 else 0) = some u ∧ RT H p u := by
  cases e with
  | op o x y =>
    obtain ⟨a, u, w, rfl, h, r1, r2⟩ := r
    have hw : wd (.op o x y) ≠ "let" := by
      cases o with
      | call => exact (by decide +kernel : ("call" : Str) ≠ "let")
      | sum => exact (by decide +kernel : ("sum" : Str) ≠ "let")
      | less => exact (by decide +kernel : ("less" : Str) ≠ "let")
    rw [if_neg hw]
    match i, hp with
    | 0, hp => cases hp; exact ⟨a, _, u, rfl, h, atI_nat (j := 1) rfl, r1⟩
    | 1, hp => cases hp; exact ⟨a, _, w, rfl, h, atI_nat (j := 2) rfl, r2⟩
    | n + 2, hp => cases hp
  | iff c x y =>
    obtain ⟨a, t, u, w, rfl, h, r1, r2, r3⟩ := r
    have hw : wd (.iff c x y) ≠ "let" := (by decide +kernel : ("if" : Str) ≠ "let")
    rw [if_neg hw]
    match i, hp with
    | 0, hp => cases hp; exact ⟨a, _, t, rfl, h, atI_nat (j := 1) rfl, r1⟩
    | 1, hp => cases hp; exact ⟨a, _, u, rfl, h, atI_nat (j := 2) rfl, r2⟩
    | 2, hp => cases hp; exact ⟨a, _, w, rfl, h, atI_nat (j := 3) rfl, r3⟩
    | n + 3, hp => cases hp
  | lett z x y =>
    obtain ⟨a, u, w, rfl, h, r1, r2⟩ := r
    rw [if_pos (show wd (.lett z x y) = "let" from rfl)]
    match i, hp with
    | 0, hp => cases hp; exact ⟨a, _, u, rfl, h, atI_nat (j := 2) rfl, r1⟩
    | n + 1, hp => cases hp
  | say x =>
    obtain ⟨a, u, rfl, h, r1⟩ := r
    have hw : wd (.say x) ≠ "let" := (by decide +kernel : ("say" : Str) ≠ "let")
    rw [if_neg hw]
    match i, hp with
    | 0, hp => cases hp; exact ⟨a, _, u, rfl, h, atI_nat (j := 1) rfl, r1⟩
    | n + 1, hp => cases hp
  | num n => cases hp
  | name x => cases hp
  | fn x b => cases hp
  | rule q r b => cases hp
  | keep q r => cases hp
  | part i => cases hp
  | witha a => cases hp
  | usual => cases hp
  | do1 a => cases hp
  | do2 a b => cases hp
section
variable {P : Program} {w : World} {K : PySem.W.Frag} {mg : Str → Option Value} {base : Heap} {aFunction aRun aRunB aPlace aForms aActions aOps : Addr} {k : Nat}
theorem ok_leval {nms : List Str} {n : Nat} (T : Tx w K mg aFunction aRun aRunB aPlace aForms aActions aOps) (G__law_eval : FnF P w K mg base n "_law_eval" ["e", "env", "about", "k", "st"] (spEval nms n false)) (G__law_given : FnF P w K mg base n "_law_given" ["e", "env", "about", "k", "st"] (spEval nms n true))
    (G__law_several : FnF P w K mg base n "_law_several" ["parts", "env", "about", "k", "st"] (shift (spSev nms) n)) (G__law_done : FnF P w K mg base n "_law_done" ["kind", "values", "k", "st"] (shift (spDone nms) n))
    (G__law_kinds : FnX P w K mg base 1 "_law_kinds" [] spKinds) (G__law_bad : FnX P w K mg base 1 "_law_bad" ["value"] (spBad nms)) (G__law_step : FnX P w K mg base 1 "_law_step" ["st"] (spLStep nms)) (G__law_with : FnX P w K mg base 1 "_law_with" ["env", "x", "value"] (spWith nms)) :
    FnF P w K mg base (n + 1) "_law_eval" ["e", "env", "about", "k", "st"] (spEval nms (n + 1) false) := by
  refine T.d__law_eval.okF sc__law_eval (fun vs H Q E h => by cases h; rfl) (fun f cdv A outer s0 H vs Q E hrF h => ?_)
  rcases h with ⟨he, ho, hz, rp, nm, h1, h2, h3, hs, q⟩
  rename_i e en ab lv s s' r v va de st po sw ke
  have hr := hrF.room
  refine ⟨_, (pss_cons (ps_if (pt_cmpR op_in_seq (pe_ix ix_tup (pv 0) (pe_int) (fun _ _ => rfl)) (pe_fn0 G__law_kinds hr rfl) (by with_unfolding_all rfl)) (pss_cons (ps_set (i := 5) sc__law_eval.nd rfl (.inl rfl) (pe_dget2 (hu_of hr) (pe_ix ix_list (pv 4) (pe_int) (fun _ _ => rfl)) (pe_tup (pa_cons (pv 3) (pa_cons (pe_ix ix_tup (pv 0) (pe_int) (fun _ _ => rfl)) pa_nil))) (pe_non) ⟨rfl, rfl, rfl, rfl⟩))
    (pss_cons (ps_if (pt_cmpR op_notN (pv 5) (pe_non) (nomark _)) (pss_one (ps_ret (pe_fnF G__law_eval hrF rfl (pa_cons (pv 5) (pa_cons (pe_dnewK) (pa_cons (pe_tup (pa_cons (pv 0) (pa_cons (pv 1) (pa_cons (pv 2) pa_nil)))) (pa_cons (pe_op op_add (pv 3) (pe_int)) (pa_cons (pv 4) pa_nil)))))))) pss_nil)
    (pss_one (ps_ret (pe_fnF G__law_given hrF rfl (pa_cons (pv 0) (pa_cons (pv 1) (pa_cons (pv 2) (pa_cons (pv 3) (pa_cons (pv 4) pa_nil)))))))))) pss_nil)
    (pss_cons (ps_if (PW.pt (pw_or (pt_cmpR op_eq (pe_ix ix_tup (pv 0) (pe_int) (fun _ _ => rfl)) (pe_str) (nomark _)) (pw_or1 (pt_cmpR op_eq (pe_ix ix_tup (pv 0) (pe_int) (fun _ _ => rfl)) (pe_str) (nomark _))))) (pss_cons (ps_set (i := 6) sc__law_eval.nd rfl (.inl rfl) (pe_ix ix_list (pv 4) (pe_int) (fun _ _ => rfl)))
    (pss_cons (ps_set (i := 7) sc__law_eval.nd rfl (.inl rfl) (pe_dget2 (hu_of hr) (pv 6) (pe_tup (pa_cons (pv 3) (pa_cons (pe_ix ix_tup (pv 0) (pe_int) (fun _ _ => rfl)) pa_nil))) (pe_non) ⟨rfl, rfl, rfl, rfl⟩))
    (pss_cons (ps_dput (hu_of hr) (pv 6) (pe_tup (pa_cons (pv 3) (pa_cons (pe_ix ix_tup (pv 0) (pe_int) (fun _ _ => rfl)) pa_nil))) (pe_ix ix_tup (pv 0) (pe_int) (fun _ _ => rfl)) rfl)
    (pss_cons (ps_if (pt_cmpR op_eq (pe_ix ix_tup (pv 0) (pe_int) (fun _ _ => rfl)) (pe_str) (nomark _)) (pss_one (ps_ret (pe_int))) pss_nil)
    (pss_cons (ps_set (i := 8) sc__law_eval.nd rfl (.inl rfl) (pe_fnF G__law_eval hrF rfl (pa_cons (pe_ix ix_tup (pv 0) (pe_int) (fun _ _ => rfl)) (pa_cons (pv 1) (pa_cons (pv 2) (pa_cons (pv 3) (pa_cons (pv 4) pa_nil)))))))
    (Evl.pss_cut (ps_if (pt_not (pt_val (pe_fn G__law_bad hr rfl (pa_cons (pv 8) pa_nil)))) (pss_one (ps_dput (hu_of hr) (pv 6) (pe_tup (pa_cons (pv 3) (pa_cons (pe_ix ix_tup (pv 0) (pe_int) (fun _ _ => rfl)) pa_nil))) (pv 7) rfl)) pss_nil)
    (pss_one (ps_ret (pv 8))))))))) pss_nil)
    (pss_cons (ps_asg (pv 2) (pg_tup rfl (pgs_cons (pg_name (i := 9) sc__law_eval.nd rfl (.inl rfl)) (pgs_cons (pg_name (i := 10) sc__law_eval.nd rfl (.inl rfl)) (pgs_cons (pg_name (i := 11) sc__law_eval.nd rfl (.inl rfl)) pgs_nil)))))
    (pss_cons (ps_set (i := 12) sc__law_eval.nd rfl (.inl rfl) (pe_lst pa_nil))
    (Evl.pss_cut (ps_if (pt_cmpR op_eq (pe_ix ix_tup (pv 0) (pe_int) (fun _ _ => rfl)) (pe_str) (nomark _)) (pss_one (ps_set (i := 12) sc__law_eval.nd rfl (.inl rfl) (pe_fnF G__law_several hrF rfl (pa_cons (pe_tup (pa_cons (pe_ix ix_tup (pv 0) (pe_int) (fun _ _ => rfl)) pa_nil)) (pa_cons (pv 1) (pa_cons (pv 2) (pa_cons (pv 3) (pa_cons (pv 4) pa_nil)))))))) pss_nil)
    (Evl.pss_cut (ps_if (pt_cmpR op_eq (pe_ix ix_tup (pv 0) (pe_int) (fun _ _ => rfl)) (pe_str) (nomark _)) (pss_one (ps_set (i := 12) sc__law_eval.nd rfl (.inl rfl) (pe_fnF G__law_several hrF rfl (pa_cons (pe_ix ix_tup (pv 0) (pe_int) (fun _ _ => rfl)) (pa_cons (pv 1) (pa_cons (pv 2) (pa_cons (pv 3) (pa_cons (pv 4) pa_nil)))))))) pss_nil)
    (pss_cons (ps_if (pt_val (pe_fn G__law_bad hr rfl (pa_cons (pv 12) pa_nil))) (pss_one (ps_ret (pv 12))) pss_nil)
    (pss_cons (ps_if (pt_val (pe_fn G__law_step hr rfl (pa_cons (pv 4) pa_nil))) (pss_one (ps_ret (pe_tup (pa_cons (pe_str) pa_nil)))) pss_nil)
    (pss_cons (ps_if (pt_cmpR op_eq (pe_ix ix_tup (pv 0) (pe_int) (fun _ _ => rfl)) (pe_str) (nomark _)) (pss_cons (ps_set (i := 13) sc__law_eval.nd rfl (.inl rfl) (pe_op op_add (pe_op op_add (pe_ix ix_tup (pv 0) (pe_int) (fun _ _ => rfl)) (pe_int)) (pe_callTy call_int1 rfl T.z_int (by decide +kernel) (pa_cons (pe_cmpR op_eq (pe_ix ix_tup (pv 9) (pe_int) (fun _ _ => rfl)) (pe_str) (nomark _)) pa_nil))))
    (pss_one (ps_ret (pe_fnF G__law_eval hrF rfl (pa_cons (pe_ix ix_tup (pv 9) (pv 13) (fun _ _ => rfl)) (pa_cons (pv 10) (pa_cons (pv 11) (pa_cons (pe_op op_sub (pv 3) (pe_int)) (pa_cons (pv 4) pa_nil))))))))) pss_nil)
    (pss_cons (ps_if (pt_cmpR op_eq (pe_ix ix_tup (pv 0) (pe_int) (fun _ _ => rfl)) (pe_str) (nomark _)) (pss_one (ps_ret (pe_fnF G__law_given hrF rfl (pa_cons (pv 9) (pa_cons (pv 10) (pa_cons (pv 11) (pa_cons (pe_op op_sub (pv 3) (pe_int)) (pa_cons (pv 4) pa_nil)))))))) pss_nil)
    (pss_cons (ps_if (pt_cmpR op_eq (pe_ix ix_tup (pv 0) (pe_int) (fun _ _ => rfl)) (pe_str) (nomark _)) (pss_one (ps_ret (pe_fnF G__law_eval hrF rfl (pa_cons (pe_ix ix_tup (pv 9) (pe_int) (fun _ _ => rfl)) (pa_cons (pe_fn G__law_with hr rfl (pa_cons (pv 10) (pa_cons (pe_ix ix_tup (pv 9) (pe_int) (fun _ _ => rfl)) (pa_cons (pe_ix ix_list (pv 12) (pe_int) (fun _ _ => rfl)) pa_nil)))) (pa_cons (pv 11) (pa_cons (pe_op op_sub (pv 3) (pe_int)) (pa_cons (pv 4) pa_nil)))))))) pss_nil)
    (pss_one (ps_ret (pe_fnF G__law_done hrF rfl (pa_cons (pe_ix ix_tup (pv 9) (pe_int) (fun _ _ => rfl)) (pa_cons (pv 12) (pa_cons (pe_op op_sub (pv 3) (pe_int)) (pa_cons (pv 4) pa_nil)))))))))))))))))), ?_⟩
  obtain ⟨a, rest, rfl, ha⟩ := rt_tup rp
  obtain ⟨xo, kvs, hs1⟩ := id hs
  have hst := hs1.hs
  refine seq_i fun N hN => ?_
  walk_at "g"
  refine ⟨a, _, _, _, rfl, rfl, SqT.of ha, at0, ?_⟩
  refine spKinds.mk fun p1 H1 s1 f1 t1 => ?_
  have hs2 := hs1.mono s1
  have hst1 := hs2.hs
  have ha1 := s1 _ _ ha
  have k1 : Kq st po H H1 := kq_same s1
  have rp1 := rp.tups k1.tup
  have h11 := k1.dict _ _ h1
  have h21 := h2.kq k1
  have h31 := h3.kq k1
  refine ⟨_, _, rfl, .inl (SqL.of t1), rfl, flat_strs _, ?_⟩
  rw [kinds_in]
  refine ⟨_, rfl, ?_⟩
  have q1 : ∀ u H', Kq st po H1 H' → LR nms H' r u → StAt nms H' st po sw s' → Q u H' := fun u H' k l z => q u H' (k1.trans k) l z
  clear q hs hs1 h1 h2 h3 rp k1
  cases hc : ch e with
  | true =>
    rw [ev_ch hc] at he
    clear hN
    refine iteT ?_
    refine seq_i fun N hN => ?_
    walk_at "g"
    refine ⟨.inr ⟨kvs, .inl hs2.hw⟩, ?_⟩
    walk_at "g"
    refine ⟨a, _, _, _, rfl, rfl, SqT.of ha1, at0, ?_⟩
    walk_at "new"; rename_i p2 f2 H2 s2 t2
    have hs3 := hs2.mono s2
    refine ⟨_, DGet.t (k := ky lv (wd e)) hs3.hw t2, ?_⟩
    have hbe := hs3.w lv (wd e)
    generalize (valV kvs (ky lv (wd e))).getD .non = be at hbe ⊢
    refine hN _ _ ?_
    clear hN
    have k2 : Kq st po H1 H2 := kq_same s2
    refine seq_i fun N hN => ?_
    cases hrule : s.tb lv (wd e) with
    | none =>
      rw [hrule] at hbe he
      have hbe : be = .non := hbe
      subst hbe
      walk_at "g"
      refine hN _ _ ?_
      walk_at "g"
      exact spEval.mk he ho hz (rp1.tups k2.tup) nm (k2.dict _ _ h11) (h21.kq k2) (h31.kq k2) ⟨_, _, hs3⟩ fun u H' k l z => q1 u H' (k2.trans k) l z
    | some ru =>
      rw [hrule] at hbe he
      obtain ⟨rpr, nmr⟩ := hbe
      obtain ⟨ar, restr, rfl, har⟩ := rt_tup rpr
      walk_at "g"
      walk_at "newp"; rename_i p4 f4 H4 s4 t4
      walk_at "new"; rename_i p5 f5 H5 s5 t5
      walk_at "g"
      have s45 := Same.trans s4 s5
      have k25 := k2.trans (kq_same s45)
      refine spEval.mk he ho hz (rpr.tups (Same.tups s45)) nmr (s5 _ _ t4) (by rw [LE]) ?_ ⟨_, _, hs3.mono s45⟩ fun u H' k l z => q1 u H' (k25.trans k) l z
      rw [LA]
      exact ⟨p5, _, de, va, ke, rfl, t5, rp1.tups k25.tup, nm, k25.dict _ _ h11, h21.kq k25, h31.kq k25⟩
  | false =>
    refine iteF ?_
    refine hN _ _ ?_
    clear hN
    refine ev_cases he hc (fun qk ru b e1 hlv => ?_) (fun qk ru e1 hlv => ?_) (fun i e1 en1 ab1 p e2 e3 e4 h => ?_) (fun e1 en1 ab1 e2 e3 h => ?_) (fun a0 x a1 b en1 ab1 m e1 e2 e3 => ?_) (fun a0 a1 en1 ab1 m e1 e2 e3 => ?_) (fun a0 b0 o a1 b1 en1 ab1 m e1 e2 e3 => ?_)
    · subst e1
      rw [ev_rule hlv] at he
      obtain ⟨a0, ur, ub, e1, hb, rr, rb, hqk⟩ := id rp1
      cases e1
      refine seq_i fun N hN => ?_
      clear hN
      walk_at "g"
      refine ⟨.inr ⟨kvs, .inl hs2.hw⟩, ?_⟩
      walk_at "g"
      walk_at "new"; rename_i p2 f2 H2 s2 t2
      have hs3 := hs2.mono s2
      refine ⟨_, DGet.t (k := ky lv qk) hs3.hw t2, ?_⟩
      have hbe := hs3.w lv qk
      generalize (valV kvs (ky lv qk)).getD .non = be at hbe ⊢
      have k2 : Kq st po H1 H2 := kq_same s2
      have hb2 := s2 _ _ hb
      walk_at "g"
      walk_at "new"; rename_i p3 f3 H3 s3 t3
      have hs4 := hs3.mono s3
      have hb3 := s3 _ _ hb2
      walk_at "g"
      have hkl := hs4.kd.len
      refine ⟨sw, _, rfl, DPut.t (k := ky lv qk) hs4.hw t3 (great' (by omega)), ?_⟩
      have rr3 := (rr.tups k2.tup).tups (Same.tups s3)
      obtain ⟨r5, k5⟩ := hs4.setw (kvs' := putK kvs (ky lv qk) ur) (f := tset s.tb lv qk (some ru)) (rwq_put hs4.w ⟨rr3, nm.1⟩) (hs4.kd.put (mem_kys hlv hqk))
      have k15 := (k2.trans (kq_same s3)).trans k5
      have hb5 := k5.tup _ _ hb3
      have hbe5 := (hbe.tups (Same.tups s3)).tups k5.tup
      generalize upd H3 sw (.dT (putK kvs (ky lv qk) ur)) = H5 at *
      have ha5 : H5 a = some (.tup [.str "rule", .str qk, ur, ub]) := hb5
      obtain ⟨r0, s0', hev⟩ : ∃ r0 s0', ev n false b en ab lv { s with tb := tset s.tb lv qk (some ru) } = some (r0, s0') := by
        cases hev : ev n false b en ab lv { s with tb := tset s.tb lv qk (some ru) } with
        | none => rw [hev] at he; cases he
        | some x => exact ⟨_, _, rfl⟩
      rw [hev] at he
      refine seq_i fun N2 hN2 => ?_
      walk_at "g"
      refine hN2 _ _ ?_
      clear hN2
      refine seq_i fun N2 hN2 => ?_
      walk_at "g"
      refine hN2 _ _ ?_
      clear hN2
      refine seq_i fun N2 hN2 => ?_
      walk_at "g"
      have ho0 : s0'.outs.length ≤ 5000000 := by
        cases r0 <;> (cases he; exact ho)
      refine spEval.mk hev ho0 hz (rb.tups k15.tup) nm.2 (k15.dict _ _ h11) (h21.kq k15) (h31.kq k15) ⟨_, _, r5⟩ fun u H6 k6 lr6 hs6 => ?_
      have ha6 := k6.tup _ _ ha5
      have k16 := k15.trans k6
      have hbe6 := hbe5.tups k6.tup
      refine hN2 _ _ ?_
      clear hN2
      refine ⟨_, ?_, fun σ' H' h => h⟩
      walk_at "g"
      refine spBad.mk lr6 ?_
      cases r0 with
      | stuck j =>
        cases he
        walk_at "g"
        exact q1 _ _ k16 lr6 hs6
      | more =>
        cases he
        walk_at "g"
        exact q1 _ _ k16 lr6 hs6
      | val v =>
        cases he
        walk_at "g"
        walk_at "new"; rename_i p7 f7 H7 s7 t7
        have hs7 := hs6.mono s7
        obtain ⟨xo7, kvs7, hs7⟩ := hs7
        have hkl7 := hs7.kd.len
        refine ⟨sw, _, rfl, DPut.t (k := ky lv qk) hs7.hw t7 (great' (by omega)), ?_⟩
        obtain ⟨r8, k8⟩ := hs7.setw (kvs' := putK kvs7 (ky lv qk) be) (f := tset s0'.tb lv qk (s.tb lv qk)) (rwq_put hs7.w (hbe6.tups (Same.tups s7))) (hs7.kd.put (mem_kys hlv hqk))
        have k18 := (k16.trans (kq_same s7)).trans k8
        have lr8 : LR nms (upd H7 sw (.dT (putK kvs7 (ky lv qk) be))) (.val v) u := (lr6.kq (kq_same (st := st) (po := po) s7)).kq k8
        generalize upd H7 sw (.dT (putK kvs7 (ky lv qk) be)) = H8 at *
        walk_at "g"
        exact q1 _ _ k18 lr8 ⟨_, _, r8⟩
    · subst e1
      rw [ev_keep hlv] at he
      cases he
      obtain ⟨a0, ur, e1, hb, rr, hqk⟩ := id rp1
      cases e1
      refine seq_i fun N hN => ?_
      clear hN
      walk_at "g"
      refine ⟨.inr ⟨kvs, .inl hs2.hw⟩, ?_⟩
      walk_at "g"
      walk_at "new"; rename_i p2 f2 H2 s2 t2
      have hs3 := hs2.mono s2
      refine ⟨_, DGet.t (k := ky lv qk) hs3.hw t2, ?_⟩
      generalize (valV kvs (ky lv qk)).getD .non = be
      have k2 : Kq st po H1 H2 := kq_same s2
      have hb2 := s2 _ _ hb
      walk_at "g"
      walk_at "new"; rename_i p3 f3 H3 s3 t3
      have hs4 := hs3.mono s3
      have hb3 := s3 _ _ hb2
      walk_at "g"
      have hkl := hs4.kd.len
      refine ⟨sw, _, rfl, DPut.t (k := ky lv qk) hs4.hw t3 (great' (by omega)), ?_⟩
      have rr3 := (rr.tups k2.tup).tups (Same.tups s3)
      obtain ⟨r5, k5⟩ := hs4.setw (kvs' := putK kvs (ky lv qk) ur) (f := tset s.tb lv qk (some ru)) (rwq_put hs4.w ⟨rr3, nm⟩) (hs4.kd.put (mem_kys hlv hqk))
      have k15 := (k2.trans (kq_same s3)).trans k5
      have hb5 := k5.tup _ _ hb3
      generalize upd H3 sw (.dT (putK kvs (ky lv qk) ur)) = H5 at *
      have ha5 : H5 a = some (.tup [.str "keep", .str qk, ur]) := hb5
      refine seq_i fun N2 hN2 => ?_
      walk_at "g"
      refine hN2 _ _ ?_
      clear hN2
      refine seq_i fun N2 hN2 => ?_
      walk_at "g"
      exact q1 _ _ k15 (by show LV nms H5 _ _; rw [LV]) ⟨_, _, r5⟩
    · subst e2
      subst e3
      obtain ⟨a0, e1, hb⟩ := id rp1
      cases e1
      have hb : H1 a = some (.tup [.str "part", .int i]) := hb
      rw [LA] at h31
      obtain ⟨a1, u1, de1, va1, ke1, rfl, g1, g2, g3, g4, g5, g6⟩ := h31
      refine seq_i fun N hN => ?_
      walk_at "g"
      refine hN _ _ ?_
      clear hN
      refine seq_i fun N hN => ?_
      walk_at "g"
      refine ⟨_, _, rfl, _, _, rfl, _, _, rfl, rfl, ?_⟩
      refine hN _ _ ?_
      clear hN
      refine seq_i fun N hN => ?_
      walk_at "new"; rename_i pv fv Hv sv tv
      refine hN _ _ ?_
      clear hN
      have k1v : Kq st po H1 Hv := kq_same sv
      have hbv := sv _ _ hb
      have g2v := g2.tups k1v.tup
      have hs3 := hs2.mono sv
      have g1v := sv _ _ g1
      refine ⟨_, ?_, fun σ' H' h => h⟩
      walk_at "g"
      refine ⟨_, ?_, fun σ' H' h => h⟩
      walk_at "g"
      refine spBad.mk2 tv ?_
      walk_at "g"
      refine spLStep.mk ⟨_, _, hs3⟩ fun H3 k3 hs4 => ?_
      unfold stepS at h
      have k13 := k1v.trans k3
      have hb3 := k3.tup _ _ hbv
      have g13 := k3.tup _ _ g1v
      obtain ⟨a6, xs6, u6, rfl, h6, hat, rp6⟩ := rt_part (g2v.tups k3.tup) e4
      walk_at "g"
      · rename_i e
        rw [if_pos (of_decide_eq_true e)] at h
        cases h
        walk_at "new"; rename_i p4 f4 H4 s4 t4
        exact q1 _ _ (k13.trans (kq_same s4)) ⟨p4, rfl, t4⟩ (hs4.mono s4)
      · rename_i e
        rw [if_neg (of_decide_eq_false e)] at h
        refine ⟨a6, _, _, _, rfl, rfl, SqT.of h6, at0, ?_⟩
        walk_at "g"
        refine ⟨a6, _, _, u6, rfl, rfl, SqT.of h6, (if_str (t := "let") ▸ hat :), ?_⟩
        walk_at "g"
        refine spEval.mk h ho hz rp6 (g3.part e4) (k13.dict _ _ g4) (g5.kq k13) (g6.kq k13) hs4 fun u H' k l z => q1 u H' (k13.trans k) l z
    · subst e2
      subst e3
      obtain ⟨a0, e1, hb⟩ := id rp1
      have hb : H1 a = some (.tup [.str "usual"]) := (by cases e1; exact hb)
      cases e1
      rw [LA] at h31
      obtain ⟨a1, u1, de1, va1, ke1, rfl, g1, g2, g3, g4, g5, g6⟩ := h31
      refine seq_i fun N hN => ?_
      walk_at "g"
      refine hN _ _ ?_
      clear hN
      refine seq_i fun N hN => ?_
      walk_at "g"
      refine ⟨_, _, rfl, _, _, rfl, _, _, rfl, rfl, ?_⟩
      refine hN _ _ ?_
      clear hN
      refine seq_i fun N hN => ?_
      walk_at "new"; rename_i pv fv Hv sv tv
      refine hN _ _ ?_
      clear hN
      have k1v : Kq st po H1 Hv := kq_same sv
      have hbv := sv _ _ hb
      have g2v := g2.tups k1v.tup
      have hs3 := hs2.mono sv
      have g1v := sv _ _ g1
      refine ⟨_, ?_, fun σ' H' h => h⟩
      walk_at "g"
      refine ⟨_, ?_, fun σ' H' h => h⟩
      walk_at "g"
      refine spBad.mk2 tv ?_
      walk_at "g"
      refine spLStep.mk ⟨_, _, hs3⟩ fun H3 k3 hs4 => ?_
      unfold stepS at h
      have k13 := k1v.trans k3
      have hb3 := k3.tup _ _ hbv
      have g13 := k3.tup _ _ g1v
      have rp6 := g2v.tups k3.tup
      walk_at "g"
      · rename_i e
        rw [if_pos (of_decide_eq_true e)] at h
        cases h
        walk_at "new"; rename_i p4 f4 H4 s4 t4
        exact q1 _ _ (k13.trans (kq_same s4)) ⟨p4, rfl, t4⟩ (hs4.mono s4)
      · rename_i e
        rw [if_neg (of_decide_eq_false e)] at h
        refine spEval.mk h ho hz rp6 g3 (k13.dict _ _ g4) (g5.kq k13) (g6.kq k13) hs4 fun u H' k l z => q1 u H' (k13.trans k) l z
    · subst e1
      subst e2
      subst e3
      rw [ev_with] at he
      obtain ⟨a0', ua, e1, hb, ra⟩ := id rp1
      have hb : H1 a = some (.tup [.str "with", ua]) := (by cases e1; exact hb)
      have h31' := h31
      cases e1
      rw [LA] at h31
      obtain ⟨a1, u1, de1, va1, ke1, rfl, g1, g2, g3, g4, g5, g6⟩ := h31
      refine seq_i fun N hN => ?_
      walk_at "g"
      refine hN _ _ ?_
      clear hN
      refine seq_i fun N hN => ?_
      walk_at "g"
      refine ⟨_, _, rfl, _, _, rfl, _, _, rfl, rfl, ?_⟩
      refine hN _ _ ?_
      clear hN
      refine seq_i fun N hN => ?_
      walk_at "new"; rename_i pv fv Hv sv tv
      refine hN _ _ ?_
      clear hN
      have k1v : Kq st po H1 Hv := kq_same sv
      have hbv := sv _ _ hb
      have g2v := g2.tups k1v.tup
      have hs3 := hs2.mono sv
      have g1v := sv _ _ g1
      refine ⟨_, ?_, fun σ' H' h => h⟩
      walk_at "g"
      walk_at "new"; rename_i p7 f7 H7 s7 t7
      walk_at "g"
      have k17 : Kq st po H1 H7 := k1v.trans (kq_same s7)
      have hs7 := hs3.mono s7
      rcases sev1 he with ⟨v, s1', es, h⟩ | ⟨es, hbad⟩
      · refine spSev.mk (es := [a0]) es (Nat.le_trans (fw_step h fun s r s' h => ev_fw _ _ _ _ _ _ _ _ _ h).outs ho) hz (Nat.le_of_ble_eq_true rfl) t7 (.cons ((ra.tups k17.tup)) .nil) (fun x hx => by rw [List.mem_singleton.mp hx]; exact nm) (k17.dict _ _ h11) (h21.kq k17) (h31'.kq k17) ⟨_, _, hs7⟩ fun u8 H8 k8 ls8 hs8 => ?_
        obtain ⟨p8, xs8, rfl, f8, t8, pr8⟩ := ls8
        obtain ⟨w1, xr1, rfl, lv1, pr8⟩ := Zt.Paired.cons_inv pr8
        cases pr8
        have k18 := k17.trans k8
        have hb8 := k18.tup _ _ hb
        refine ⟨_, ?_, fun σ' H' h => h⟩
        walk_at "g"
        refine spBad.mk2 t8 ?_
        obtain ⟨a9, u9, w9, e9, t9, rA, rB⟩ := g2
        subst e9
        walk_at "g"
        refine spLStep.mk hs8 fun H3 k3 hs4 => ?_
        unfold stepS at h
        have k13 := k18.trans k3
        have hb3 := k3.tup _ _ hb8
        have t93 := k13.tup _ _ t9
        obtain ⟨xoz, kvz, hsz⟩ := id hs8
        have n1 : p8 ≠ st := ne_of_none hs7.hs f8 |>.symm
        have n2 : p8 ≠ po := ne_of_none hs7.ho f8 |>.symm
        have t83 := k3.lst _ _ n1 n2 t8
        walk_at "g"
        · rename_i e
          rw [if_pos (of_decide_eq_true e)] at h
          cases h
          walk_at "new"; rename_i p4 f4 H4 s4 t4
          exact q1 _ _ (k13.trans (kq_same s4)) ⟨p4, rfl, t4⟩ (hs4.mono s4)
        · rename_i e
          rw [if_neg (of_decide_eq_false e)] at h
          walk_at "g"
          have g51 := g5.kq k13
          refine spWith.mk (k13.dict _ _ g4) g51.ks hz fun p5 H5 s5 f5 t5 => ?_
          have k35 : Kq st po H3 H5 := kq_same s5
          have k15 := k13.trans k35
          have t95 := s5 _ _ t93
          walk_at "g"
          exact spEval.mk h ho hz (rB.tups k15.tup) g3.2.2 t5 (LE.cons g3.1 ((lv1.kq k3).kq k35) (g51.kq k35)) (g6.kq k15) (hs4.mono s5) fun u H' k l z => q1 u H' (k15.trans k) l z
      · refine spSev.mk (es := [a0]) es ho hz (Nat.le_of_ble_eq_true rfl) t7 (.cons ((ra.tups k17.tup)) .nil) (fun x hx => by rw [List.mem_singleton.mp hx]; exact nm) (k17.dict _ _ h11) (h21.kq k17) (h31'.kq k17) ⟨_, _, hs7⟩ fun u8 H8 k8 ls8 hs8 => ?_
        obtain ⟨_, lr8⟩ := ls8
        have k18 := k17.trans k8
        have hb8 := k18.tup _ _ hb
        refine ⟨_, ?_, fun σ' H' h => h⟩
        walk_at "g"
        refine spBad.mk lr8 ?_
        rw [hbad]
        walk_at "g"
        exact q1 _ _ k18 lr8 hs8
    · subst e1
      subst e2
      subst e3
      rw [ev_do1] at he
      obtain ⟨a0', t, ua, e1, hb, ht, ra⟩ := id rp1
      have hb : H1 a = some (.tup [.str "do", .ref t]) := (by cases e1; exact hb)
      have h31' := h31
      cases e1
      rw [LA] at h31
      obtain ⟨a1, u1, de1, va1, ke1, rfl, g1, g2, g3, g4, g5, g6⟩ := h31
      refine seq_i fun N hN => ?_
      walk_at "g"
      refine hN _ _ ?_
      clear hN
      refine seq_i fun N hN => ?_
      walk_at "g"
      refine ⟨_, _, rfl, _, _, rfl, _, _, rfl, rfl, ?_⟩
      refine hN _ _ ?_
      clear hN
      refine seq_i fun N hN => ?_
      walk_at "new"; rename_i pv fv Hv sv tv
      refine hN _ _ ?_
      clear hN
      have k1v : Kq st po H1 Hv := kq_same sv
      have hbv := sv _ _ hb
      have g2v := g2.tups k1v.tup
      have hs3 := hs2.mono sv
      have g1v := sv _ _ g1
      refine ⟨_, ?_, fun σ' H' h => h⟩
      walk_at "g"
      refine ⟨_, ?_, fun σ' H' h => h⟩
      walk_at "g"
      have k17 : Kq st po H1 Hv := k1v
      have hs7 := hs3
      have ht7 := sv _ _ ht
      rcases sev1 he with ⟨v, s1', es, h⟩ | ⟨es, hbad⟩
      · refine spSev.mk (es := [a0]) es (Nat.le_trans (fw_step h fun s r s' h => fw_say h).outs ho) hz (Nat.le_of_ble_eq_true rfl) ht7 (.cons ((ra.tups k17.tup)) .nil) (fun x hx => by rw [List.mem_singleton.mp hx]; exact nm) (k17.dict _ _ h11) (h21.kq k17) (h31'.kq k17) ⟨_, _, hs7⟩ fun u8 H8 k8 ls8 hs8 => ?_
        obtain ⟨p8, xs8, rfl, f8, t8, pr8⟩ := ls8
        obtain ⟨w1, xr1, rfl, lv1, pr8⟩ := Zt.Paired.cons_inv pr8
        cases pr8
        have k18 := k17.trans k8
        have hb8 := k18.tup _ _ hb
        walk_at "g"
        refine spBad.mk2 t8 ?_
        obtain ⟨a9, u9, e9, t9, rA⟩ := g2
        subst e9
        walk_at "g"
        refine spLStep.mk hs8 fun H3 k3 hs4 => ?_
        unfold stepS at h
        have k13 := k18.trans k3
        have hb3 := k3.tup _ _ hb8
        have t93 := k13.tup _ _ t9
        obtain ⟨xoz, kvz, hsz⟩ := id hs8
        have n1 : p8 ≠ st := ne_of_none hs7.hs f8 |>.symm
        have n2 : p8 ≠ po := ne_of_none hs7.ho f8 |>.symm
        have t83 := k3.lst _ _ n1 n2 t8
        walk_at "g"
        · rename_i e
          rw [if_pos (of_decide_eq_true e)] at h
          cases h
          walk_at "new"; rename_i p4 f4 H4 s4 t4
          exact q1 _ _ (k13.trans (kq_same s4)) ⟨p4, rfl, t4⟩ (hs4.mono s4)
        · rename_i e
          rw [if_neg (of_decide_eq_false e)] at h
          walk_at "g"
          exact spDone.say h ho t83 n2 (lv1.kq k3) hs4 fun u H' k l z => q1 u H' (k13.trans k) l z
      · refine spSev.mk (es := [a0]) es ho hz (Nat.le_of_ble_eq_true rfl) ht7 (.cons ((ra.tups k17.tup)) .nil) (fun x hx => by rw [List.mem_singleton.mp hx]; exact nm) (k17.dict _ _ h11) (h21.kq k17) (h31'.kq k17) ⟨_, _, hs7⟩ fun u8 H8 k8 ls8 hs8 => ?_
        obtain ⟨_, lr8⟩ := ls8
        have k18 := k17.trans k8
        have hb8 := k18.tup _ _ hb
        walk_at "g"
        refine spBad.mk lr8 ?_
        rw [hbad]
        walk_at "g"
        exact q1 _ _ k18 lr8 hs8
    · subst e1
      subst e2
      subst e3
      rw [ev_do2] at he
      obtain ⟨a0', t, ua, ub, e1, hb, ht, ra, rb⟩ := id rp1
      have hb : H1 a = some (.tup [.str "do", .ref t]) := (by cases e1; exact hb)
      have h31' := h31
      cases e1
      rw [LA] at h31
      obtain ⟨a1, u1, de1, va1, ke1, rfl, g1, g2, g3, g4, g5, g6⟩ := h31
      refine seq_i fun N hN => ?_
      walk_at "g"
      refine hN _ _ ?_
      clear hN
      refine seq_i fun N hN => ?_
      walk_at "g"
      refine ⟨_, _, rfl, _, _, rfl, _, _, rfl, rfl, ?_⟩
      refine hN _ _ ?_
      clear hN
      refine seq_i fun N hN => ?_
      walk_at "new"; rename_i pv fv Hv sv tv
      refine hN _ _ ?_
      clear hN
      have k1v : Kq st po H1 Hv := kq_same sv
      have hbv := sv _ _ hb
      have g2v := g2.tups k1v.tup
      have hs3 := hs2.mono sv
      have g1v := sv _ _ g1
      refine ⟨_, ?_, fun σ' H' h => h⟩
      walk_at "g"
      refine ⟨_, ?_, fun σ' H' h => h⟩
      walk_at "g"
      have k17 : Kq st po H1 Hv := k1v
      have hs7 := hs3
      have ht7 := sv _ _ ht
      rcases sev2 he with ⟨v, w, s1', es, h⟩ | ⟨es, hbad⟩
      · refine spSev.mk (es := [a0, b0]) es (Nat.le_trans (fw_step h fun s r s' h => fw_op h fun b en ab s r s' h => ev_fw _ _ _ _ _ _ _ _ _ h).outs ho) hz (Nat.le_of_ble_eq_true rfl) ht7 (.cons (ra.tups k17.tup) (.cons (rb.tups k17.tup) .nil)) (fun x hx => by rcases List.mem_cons.mp hx with e | hx; exact e ▸ nm.1; rw [List.mem_singleton.mp hx]; exact nm.2) (k17.dict _ _ h11) (h21.kq k17) (h31'.kq k17) ⟨_, _, hs7⟩ fun u8 H8 k8 ls8 hs8 => ?_
        obtain ⟨p8, xs8, rfl, f8, t8, pr8⟩ := ls8
        obtain ⟨w1, xr1, rfl, lv1, pr8⟩ := Zt.Paired.cons_inv pr8
        obtain ⟨w2, xr2, rfl, lv2, pr8⟩ := Zt.Paired.cons_inv pr8
        cases pr8
        have k18 := k17.trans k8
        have hb8 := k18.tup _ _ hb
        walk_at "g"
        refine spBad.mk2 t8 ?_
        obtain ⟨a9, u9, w9, e9, t9, rA, rB⟩ := g2
        subst e9
        walk_at "g"
        refine spLStep.mk hs8 fun H3 k3 hs4 => ?_
        unfold stepS at h
        have k13 := k18.trans k3
        have hb3 := k3.tup _ _ hb8
        have t93 := k13.tup _ _ t9
        obtain ⟨xoz, kvz, hsz⟩ := id hs8
        have n1 : p8 ≠ st := ne_of_none hs7.hs f8 |>.symm
        have n2 : p8 ≠ po := ne_of_none hs7.ho f8 |>.symm
        have t83 := k3.lst _ _ n1 n2 t8
        walk_at "g"
        · rename_i e
          rw [if_pos (of_decide_eq_true e)] at h
          cases h
          walk_at "new"; rename_i p4 f4 H4 s4 t4
          exact q1 _ _ (k13.trans (kq_same s4)) ⟨p4, rfl, t4⟩ (hs4.mono s4)
        · rename_i e
          rw [if_neg (of_decide_eq_false e)] at h
          walk_at "g"
          exact spDone.op rfl h ho hz t83 (lv1.kq k3) (lv2.kq k3) hs4 fun u H' k l z => q1 u H' (k13.trans k) l z
      · refine spSev.mk (es := [a0, b0]) es ho hz (Nat.le_of_ble_eq_true rfl) ht7 (.cons (ra.tups k17.tup) (.cons (rb.tups k17.tup) .nil)) (fun x hx => by rcases List.mem_cons.mp hx with e | hx; exact e ▸ nm.1; rw [List.mem_singleton.mp hx]; exact nm.2) (k17.dict _ _ h11) (h21.kq k17) (h31'.kq k17) ⟨_, _, hs7⟩ fun u8 H8 k8 ls8 hs8 => ?_
        obtain ⟨_, lr8⟩ := ls8
        have k18 := k17.trans k8
        have hb8 := k18.tup _ _ hb
        walk_at "g"
        refine spBad.mk lr8 ?_
        rw [hbad]
        walk_at "g"
        exact q1 _ _ k18 lr8 hs8
end
end Zt

set_option Elab.async false
set_option linter.all false
set_option maxRecDepth 100000
set_option maxHeartbeats 4000000
namespace Zt
open PySem L2 PySem.Spec PyProof.Rows Zg
local macro_rules | `(tactic| walk_at "sq") => `(tactic| first | exact SqL.of (by assumption) | exact .inl (SqL.of (by assumption)) | assumption | exact SqT.of (by assumption) | exact .inr (SqT.of (by assumption)) | exact SqL.of upd_same | exact .inl (SqL.of upd_same))
local macro_rules | `(tactic| walk_at "hp") => `(tactic| first | assumption | exact upd_same)
local macro_rules | `(tactic| walk_at "cond") => `(tactic| first | assumption | rfl | (apply And.intro <;> assumption) | decide | (show (0 : Int) < _; decide) | (apply And.intro <;> decide) | (apply Or.inr; apply And.intro <;> decide) | (apply Or.inl; apply And.intro <;> decide))
local macro_rules | `(tactic| walk_at "s") => `(tactic| first
  | (with_reducible apply iteF)
  | (with_reducible apply iteT)
  | (apply e1; rfl)
  | (apply e2; rfl; rfl)
  | (apply e4; rfl; rfl; walk_at "sq"; rfl)
  | (apply e4; rfl; rfl; walk_at "hp"; rfl)
  | (apply e2; rfl; walk_at "sq")
  | (apply eOr; rfl)
  | (apply eOrR; rfl)
  | (apply eTru; walk_at "sq")
  | (apply eTruT; walk_at "sq")
  | (apply And.intro; (walk_at "cond"))
  | (apply iteTr; rfl)
  | (apply iteFr; rfl)
  | (apply iteD; all_goals intro _)
  | (with_reducible apply tNext_i))
local macro_rules | `(tactic| walk_at "g") => `(tactic| repeat' ((fail_if_success (with_reducible apply seq_i)); (fail_if_success (with_reducible apply cut_i)); (walk_at "s")))
local macro_rules | `(tactic| walk_at "size") => `(tactic| first | (simp only [List.length_cons, List.length_nil]; decide) | decide)
local macro_rules | `(tactic| walk_at "newp") => `(tactic| (intro p hp; generalize hH : upd _ _ _ = H1; have st := new_facts hp hH; clear hH; obtain ⟨s, t⟩ := st))
local macro_rules | `(tactic| walk_at "new") => `(tactic| walk_at "g"; first | (apply And.intro; (focus (apply small100; walk_at "size")); walk_at "newp") | (walk_at "newp"))

section
variable {P : Program} {w : World} {K : PySem.W.Frag} {mg : Str → Option Value} {base : Heap} {aFunction aRun aRunB aPlace aForms aActions aOps : Addr} {k : Nat}
theorem ok_lgiven {nms : List Str} {n : Nat} (T : Tx w K mg aFunction aRun aRunB aPlace aForms aActions aOps) (G__law_eval : FnF P w K mg base n "_law_eval" ["e", "env", "about", "k", "st"] (spEval nms n false))
    (G__law_several : FnF P w K mg base n "_law_several" ["parts", "env", "about", "k", "st"] (shift (spSev nms) n)) (G__law_done : FnF P w K mg base n "_law_done" ["kind", "values", "k", "st"] (shift (spDone nms) n))
    (G__law_bad : FnX P w K mg base 1 "_law_bad" ["value"] (spBad nms)) (G__law_with : FnX P w K mg base 1 "_law_with" ["env", "x", "value"] (spWith nms)) :
    FnF P w K mg base (n + 1) "_law_given" ["e", "env", "about", "k", "st"] (spEval nms (n + 1) true) := by
  refine T.d__law_given.okF sc__law_given (fun vs H Q E h => by cases h; rfl) (fun f cdv A outer s0 H vs Q E hrF h => ?_)
  rcases h with ⟨he, ho, hz, rp, nm, h1, h2, h3, hs, q⟩
  rename_i e en ab lv s s' r v va de st po sw ke
  have hr := hrF.room
  refine ⟨_, (pss_cons (ps_if (pt_cmpR op_eq (pe_ix ix_tup (pv 0) (pe_int) (fun _ _ => rfl)) (pe_str) (nomark _)) (pss_one (ps_ret (pe_ix ix_tup (pv 0) (pe_int) (fun _ _ => rfl)))) pss_nil)
    (pss_cons (ps_if (pt_cmpR op_eq (pe_ix ix_tup (pv 0) (pe_int) (fun _ _ => rfl)) (pe_str) (nomark _)) (pss_one (ps_ret (pe_dget (hu_of hr) (pv 1) (pe_ix ix_tup (pv 0) (pe_int) (fun _ _ => rfl)) (fun _ _ => rfl)))) pss_nil)
    (pss_cons (ps_if (pt_cmpR op_eq (pe_ix ix_tup (pv 0) (pe_int) (fun _ _ => rfl)) (pe_str) (nomark _)) (pss_one (ps_ret (pe_tup (pa_cons (pe_str) (pa_cons (pv 3) (pa_cons (pe_ix ix_tup (pv 0) (pe_int) (fun _ _ => rfl)) (pa_cons (pe_ix ix_tup (pv 0) (pe_int) (fun _ _ => rfl)) (pa_cons (pv 1) (pa_cons (pv 2) pa_nil))))))))) pss_nil)
    (pss_cons (ps_if (pt_cmpR op_eq (pe_ix ix_tup (pv 0) (pe_int) (fun _ _ => rfl)) (pe_str) (nomark _)) (pss_cons (ps_set (i := 5) sc__law_given.nd rfl (.inl rfl) (pe_fnF G__law_eval hrF rfl (pa_cons (pe_ix ix_tup (pv 0) (pe_int) (fun _ _ => rfl)) (pa_cons (pv 1) (pa_cons (pv 2) (pa_cons (pv 3) (pa_cons (pv 4) pa_nil)))))))
    (pss_cons (ps_if (pt_val (pe_fn G__law_bad hr rfl (pa_cons (pv 5) pa_nil))) (pss_one (ps_ret (pv 5))) pss_nil)
    (pss_one (ps_ret (pe_fnF G__law_eval hrF rfl (pa_cons (pe_ix ix_tup (pv 0) (pe_int) (fun _ _ => rfl)) (pa_cons (pe_fn G__law_with hr rfl (pa_cons (pv 1) (pa_cons (pe_ix ix_tup (pv 0) (pe_int) (fun _ _ => rfl)) (pa_cons (pv 5) pa_nil)))) (pa_cons (pv 2) (pa_cons (pv 3) (pa_cons (pv 4) pa_nil)))))))))) pss_nil)
    (pss_cons (ps_if (pt_cmpR op_eq (pe_ix ix_tup (pv 0) (pe_int) (fun _ _ => rfl)) (pe_str) (nomark _)) (pss_cons (ps_set (i := 5) sc__law_given.nd rfl (.inl rfl) (pe_fnF G__law_eval hrF rfl (pa_cons (pe_ix ix_tup (pv 0) (pe_int) (fun _ _ => rfl)) (pa_cons (pv 1) (pa_cons (pv 2) (pa_cons (pv 3) (pa_cons (pv 4) pa_nil)))))))
    (pss_cons (ps_if (pt_val (pe_fn G__law_bad hr rfl (pa_cons (pv 5) pa_nil))) (pss_one (ps_ret (pv 5))) pss_nil)
    (pss_cons (ps_if (pt_not (pt_val (pe_callB call_isi rfl T.z_isinstance (by decide +kernel) (pa_cons (pv 5) (pa_cons (pe_bltn (v := .ty "int") rfl T.z_int (by decide +kernel) rfl) pa_nil))))) (pss_one (ps_ret (pe_tup (pa_cons (pe_str) (pa_cons (pv 3) pa_nil))))) pss_nil)
    (pss_one (ps_ret (pe_fnF G__law_eval hrF rfl (pa_cons (pe_ix ix_list (pe_lst (pa_cons (pe_ix ix_tup (pv 0) (pe_int) (fun _ _ => rfl)) (pa_cons (pe_ix ix_tup (pv 0) (pe_int) (fun _ _ => rfl)) pa_nil))) (pe_callTy call_int1 rfl T.z_int (by decide +kernel) (pa_cons (pe_cmpR op_ne (pv 5) (pe_int) (nomark _)) pa_nil)) (fun _ _ => rfl)) (pa_cons (pv 1) (pa_cons (pv 2) (pa_cons (pv 3) (pa_cons (pv 4) pa_nil))))))))))) pss_nil)
    (pss_cons (ps_set (i := 6) sc__law_given.nd rfl (.inl rfl) (pe_fnF G__law_several hrF rfl (pa_cons (pe_slice sl_tupA (pv 0) (po_some (pe_int)) po_none) (pa_cons (pv 1) (pa_cons (pv 2) (pa_cons (pv 3) (pa_cons (pv 4) pa_nil)))))))
    (pss_cons (ps_if (pt_val (pe_fn G__law_bad hr rfl (pa_cons (pv 6) pa_nil))) (pss_one (ps_ret (pv 6))) pss_nil)
    (pss_one (ps_ret (pe_fnF G__law_done hrF rfl (pa_cons (pe_ix ix_tup (pv 0) (pe_int) (fun _ _ => rfl)) (pa_cons (pv 6) (pa_cons (pv 3) (pa_cons (pv 4) pa_nil)))))))))))))), ?_⟩
  refine ev_tcases he (fun i e1 e2 e3 => ?_) (fun x v' e1 e2 e3 e4 => ?_) (fun x b e1 e2 e3 => ?_) (fun x a b e1 => ?_) (fun c a b e1 => ?_) (fun a m e1 e2 => ?_) (fun o a b m e1 e2 => ?_)
  · subst e1
    subst e2
    subst e3
    obtain ⟨a, rfl, ha⟩ := id rp
    refine seq_i fun N hN => ?_
    walk_at "g"
    exact q _ _ (Kq.refl _) (by show LV nms _ _ _; rw [LV]) hs
  · subst e1
    subst e3
    subst e4
    obtain ⟨a, rfl, ha⟩ := id rp
    obtain ⟨u, hu, lv1⟩ := h2.look e2
    refine seq_i fun N hN => ?_
    walk_at "g"
    refine hN _ _ ?_
    clear hN
    refine seq_i fun N hN => ?_
    walk_at "g"
    have hg : DGet H de (.str x) (valV ke (.inr x)) := DGet.k (k := .inr x) h1
    rw [hu] at hg
    exact ⟨_, _, rfl, hg, q _ _ (Kq.refl _) lv1 hs⟩
  · subst e1
    subst e2
    subst e3
    obtain ⟨a, ub, rfl, ha, rb⟩ := id rp
    refine seq_i fun N hN => ?_
    walk_at "g"
    refine hN _ _ ?_
    clear hN
    refine seq_i fun N hN => ?_
    walk_at "g"
    refine hN _ _ ?_
    clear hN
    refine seq_i fun N hN => ?_
    walk_at "new"; rename_i p7 f7 H7 s7 t7
    have k7 : Kq st po H H7 := kq_same s7
    refine q _ _ k7 ?_ (hs.mono s7)
    show LV nms _ _ _
    rw [LV]
    exact ⟨p7, ub, de, va, ke, rfl, t7, rb.tups k7.tup, nm.1, nm.2, k7.dict _ _ h1, h2.kq k7, h3.kq k7⟩
  · subst e1
    obtain ⟨a, u, w, rfl, ha, ra, rb⟩ := id rp
    rw [ev_tlet] at he
    refine seq_i fun N hN => ?_
    walk_at "g"
    refine hN _ _ ?_
    clear hN
    refine seq_i fun N hN => ?_
    walk_at "g"
    refine hN _ _ ?_
    clear hN
    refine seq_i fun N hN => ?_
    walk_at "g"
    refine hN _ _ ?_
    clear hN
    refine seq_i fun N hN => ?_
    clear hN
    walk_at "g"
    rcases thenS_some he with ⟨v, s1, ev1, h⟩ | ⟨ev1, hn⟩
    · refine spEval.mk ev1 (Nat.le_trans (ev_fw _ _ _ _ _ _ _ _ _ h).outs ho) hz ra nm.2.1 h1 h2 h3 hs fun u1 H1 k1 lr1 hs1 => ?_
      have ha1 := k1.tup _ _ ha
      have h21 := h2.kq k1
      walk_at "g"
      refine spBad.mk lr1 ?_
      walk_at "g"
      refine spWith.mk (k1.dict _ _ h1) h21.ks hz fun p2 H2 s2 f2 t2 => ?_
      have k2 : Kq st po H1 H2 := kq_same s2
      have k12 := k1.trans k2
      walk_at "g"
      have lv1 : LV nms H1 v u1 := lr1
      exact spEval.mk h ho hz (rb.tups k12.tup) nm.2.2 t2 (LE.cons nm.1 (lv1.kq k2) (h21.kq k2)) (h3.kq k12) (hs1.mono s2) fun u H' k l z => q u H' (k12.trans k) l z
    · refine spEval.mk ev1 ho hz ra nm.2.1 h1 h2 h3 hs fun u1 H1 k1 lr1 hs1 => ?_
      walk_at "g"
      refine spBad.mk lr1 ?_
      cases r with
      | val v => exact absurd rfl (hn v)
      | stuck j =>
        walk_at "g"
        exact q _ _ k1 lr1 hs1
      | more =>
        walk_at "g"
        exact q _ _ k1 lr1 hs1
  · subst e1
    obtain ⟨a', uc, ua, ub, rfl, ha, rc, ra, rb⟩ := id rp
    rw [ev_tif] at he
    refine seq_i fun N hN => ?_
    walk_at "g"
    refine hN _ _ ?_
    clear hN
    refine seq_i fun N hN => ?_
    walk_at "g"
    refine hN _ _ ?_
    clear hN
    refine seq_i fun N hN => ?_
    walk_at "g"
    refine hN _ _ ?_
    clear hN
    refine seq_i fun N hN => ?_
    walk_at "g"
    refine hN _ _ ?_
    clear hN
    refine seq_i fun N hN => ?_
    walk_at "g"
    rcases thenS_some he with ⟨v, s1, ev1, h⟩ | ⟨ev1, hn⟩
    · have ho1 : s1.outs.length ≤ 5000000 := by
        cases v with
        | int i => exact Nat.le_trans (ev_fw _ _ _ _ _ _ _ _ _ h).outs ho
        | fn => cases h; exact ho
      refine spEval.mk ev1 ho1 hz rc nm.1 h1 h2 h3 hs fun u1 H1 k1 lr1 hs1 => ?_
      have ha1 := k1.tup _ _ ha
      have h21 := h2.kq k1
      walk_at "g"
      refine spBad.mk lr1 ?_
      walk_at "g"
      refine isi_int (lv_part (v := v) lr1) ?_
      cases v with
      | fn k' x b en' ab' =>
        cases h
        have lr1 : LV nms H1 (.fn k' x b en' ab') u1 := lr1
        rw [LV] at lr1
        obtain ⟨a8, u8, de8, va8, ke8, rfl, z1, z2⟩ := lr1
        walk_at "g"
        walk_at "new"; rename_i p2 f2 H2 s2 t2
        exact q _ _ (k1.trans (kq_same s2)) ⟨p2, rfl, t2⟩ (hs1.mono s2)
      | int i =>
        have lr1 : LV nms H1 (.int i) u1 := lr1
        rw [LV] at lr1
        subst lr1
        walk_at "g"
        walk_at "new"; rename_i p2 f2 H2 s2 t2
        walk_at "g"
        have k12 := k1.trans (kq_same (st := st) (po := po) s2)
        have h : ev n false (if i = 0 then b else a) en ab lv s1 = some (r, s') := h
        by_cases e0 : i = 0
        · have z : V.int (if (!decide (V.int i = V.int 0)) = true then 1 else 0) = .int 0 := by rw [decide_eq_true (by rw [e0])]; rfl
          rw [z]
          rw [if_pos e0] at h
          refine ⟨p2, _, _, _, rfl, rfl, SqL.of t2, atI_nat (j := 0) rfl, ?_⟩
          walk_at "g"
          exact spEval.mk h ho hz (rb.tups k12.tup) nm.2.2 (k12.dict _ _ h1) (h2.kq k12) (h3.kq k12) (hs1.mono s2) fun u H' k l z => q u H' (k12.trans k) l z
        · have z : V.int (if (!decide (V.int i = V.int 0)) = true then 1 else 0) = .int 1 := by rw [decide_eq_false (fun z => e0 (V.int.inj z))]; rfl
          rw [z]
          rw [if_neg e0] at h
          refine ⟨p2, _, _, _, rfl, rfl, SqL.of t2, atI_nat (j := 1) rfl, ?_⟩
          walk_at "g"
          exact spEval.mk h ho hz (ra.tups k12.tup) nm.2.1 (k12.dict _ _ h1) (h2.kq k12) (h3.kq k12) (hs1.mono s2) fun u H' k l z => q u H' (k12.trans k) l z
    · refine spEval.mk ev1 ho hz rc nm.1 h1 h2 h3 hs fun u1 H1 k1 lr1 hs1 => ?_
      walk_at "g"
      refine spBad.mk lr1 ?_
      cases r with
      | val v => exact absurd rfl (hn v)
      | stuck j =>
        walk_at "g"
        exact q _ _ k1 lr1 hs1
      | more =>
        walk_at "g"
        exact q _ _ k1 lr1 hs1
  · subst e1
    subst e2
    obtain ⟨a', ua, rfl, ha, ra⟩ := id rp
    rw [ev_tsay] at he
    refine seq_i fun N hN => ?_
    walk_at "g"
    refine hN _ _ ?_
    clear hN
    refine seq_i fun N hN => ?_
    walk_at "g"
    refine hN _ _ ?_
    clear hN
    refine seq_i fun N hN => ?_
    walk_at "g"
    refine hN _ _ ?_
    clear hN
    refine seq_i fun N hN => ?_
    walk_at "g"
    refine hN _ _ ?_
    clear hN
    refine seq_i fun N hN => ?_
    walk_at "g"
    refine hN _ _ ?_
    clear hN
    refine seq_i fun N hN => ?_
    walk_at "g"
    refine ⟨fun z => absurd z.1 (by show ¬ HT.sIx 2 0 (some 1) = 0; decide), fun _ => ?_⟩
    walk_at "new"; rename_i p1 f1 H1 s1' t1
    have t1 : H1 p1 = some (.tup [ua]) := t1
    have k1 : Kq st po H H1 := kq_same s1'
    have hs1 := hs.mono s1'
    walk_at "g"
    rcases sev1 he with ⟨v, s1, es, h⟩ | ⟨es, hbad⟩
    · refine spSev.mk (es := [a]) es (Nat.le_trans (fw_say h).outs ho) hz (Nat.le_of_ble_eq_true rfl) t1 (.cons ((ra.tups k1.tup)) .nil) (fun x hx => by rw [List.mem_singleton.mp hx]; exact nm) (k1.dict _ _ h1) (h2.kq k1) (h3.kq k1) hs1 fun u8 H8 k8 ls8 hs8 => ?_
      obtain ⟨p8, xs8, rfl, f8, t8, pr8⟩ := ls8
      obtain ⟨w1, xr1, rfl, lv1, pr8⟩ := Zt.Paired.cons_inv pr8
      cases pr8
      have k18 := k1.trans k8
      have ha8 := k18.tup _ _ ha
      walk_at "g"
      refine hN _ _ ?_
      clear hN
      refine seq_i fun N hN => ?_
      walk_at "g"
      refine spBad.mk2 t8 ?_
      walk_at "g"
      refine hN _ _ ?_
      walk_at "g"
      obtain ⟨xoz, kvz, hsz⟩ := id hs1
      exact spDone.say h ho t8 (ne_of_none hsz.ho f8).symm lv1 hs8 fun u H' k l z => q u H' (k18.trans k) l z
    · refine spSev.mk (es := [a]) es ho hz (Nat.le_of_ble_eq_true rfl) t1 (.cons ((ra.tups k1.tup)) .nil) (fun x hx => by rw [List.mem_singleton.mp hx]; exact nm) (k1.dict _ _ h1) (h2.kq k1) (h3.kq k1) hs1 fun u8 H8 k8 ls8 hs8 => ?_
      obtain ⟨_, lr8⟩ := ls8
      walk_at "g"
      refine hN _ _ ?_
      clear hN
      refine seq_i fun N hN => ?_
      walk_at "g"
      refine spBad.mk lr8 ?_
      rw [hbad]
      walk_at "g"
      exact q _ _ (k1.trans k8) lr8 hs8
  · subst e1
    subst e2
    obtain ⟨a', ua, ub, rfl, ha, ra, rb⟩ := id rp
    rw [ev_top] at he
    cases o with
    | call =>
      refine seq_i fun N hN => ?_
      walk_at "g"
      refine hN _ _ ?_
      clear hN
      refine seq_i fun N hN => ?_
      walk_at "g"
      refine hN _ _ ?_
      clear hN
      refine seq_i fun N hN => ?_
      walk_at "g"
      refine hN _ _ ?_
      clear hN
      refine seq_i fun N hN => ?_
      walk_at "g"
      refine hN _ _ ?_
      clear hN
      refine seq_i fun N hN => ?_
      walk_at "g"
      refine hN _ _ ?_
      clear hN
      refine seq_i fun N hN => ?_
      walk_at "g"
      refine ⟨fun z => absurd z.1 (by show ¬ HT.sIx 3 0 (some 1) = 0; decide), fun _ => ?_⟩
      walk_at "new"; rename_i p1 f1 H1 s1' t1
      have t1 : H1 p1 = some (.tup [ua, ub]) := t1
      have k1 : Kq st po H H1 := kq_same s1'
      have hs1 := hs.mono s1'
      walk_at "g"
      rcases sev2 he with ⟨v, w, s1, es, h⟩ | ⟨es, hbad⟩
      · refine spSev.mk (es := [a, b]) es (Nat.le_trans (fw_op h fun b en ab s r s' h => ev_fw _ _ _ _ _ _ _ _ _ h).outs ho) hz (Nat.le_of_ble_eq_true rfl) t1 (.cons (ra.tups k1.tup) (.cons (rb.tups k1.tup) .nil)) (fun x hx => by rcases List.mem_cons.mp hx with e | hx; exact e ▸ nm.1; rw [List.mem_singleton.mp hx]; exact nm.2) (k1.dict _ _ h1) (h2.kq k1) (h3.kq k1) hs1 fun u8 H8 k8 ls8 hs8 => ?_
        obtain ⟨p8, xs8, rfl, f8, t8, pr8⟩ := ls8
        obtain ⟨w1, xr1, rfl, lv1, pr8⟩ := Zt.Paired.cons_inv pr8
        obtain ⟨w2, xr2, rfl, lv2, pr8⟩ := Zt.Paired.cons_inv pr8
        cases pr8
        have k18 := k1.trans k8
        have ha8 := k18.tup _ _ ha
        walk_at "g"
        refine hN _ _ ?_
        clear hN
        refine seq_i fun N hN => ?_
        walk_at "g"
        refine spBad.mk2 t8 ?_
        walk_at "g"
        refine hN _ _ ?_
        walk_at "g"
        exact spDone.op (o := .call) rfl h ho hz t8 lv1 lv2 hs8 fun u H' k l z => q u H' (k18.trans k) l z
      · refine spSev.mk (es := [a, b]) es ho hz (Nat.le_of_ble_eq_true rfl) t1 (.cons (ra.tups k1.tup) (.cons (rb.tups k1.tup) .nil)) (fun x hx => by rcases List.mem_cons.mp hx with e | hx; exact e ▸ nm.1; rw [List.mem_singleton.mp hx]; exact nm.2) (k1.dict _ _ h1) (h2.kq k1) (h3.kq k1) hs1 fun u8 H8 k8 ls8 hs8 => ?_
        obtain ⟨_, lr8⟩ := ls8
        walk_at "g"
        refine hN _ _ ?_
        clear hN
        refine seq_i fun N hN => ?_
        walk_at "g"
        refine spBad.mk lr8 ?_
        rw [hbad]
        walk_at "g"
        exact q _ _ (k1.trans k8) lr8 hs8
    | sum =>
      refine seq_i fun N hN => ?_
      walk_at "g"
      refine hN _ _ ?_
      clear hN
      refine seq_i fun N hN => ?_
      walk_at "g"
      refine hN _ _ ?_
      clear hN
      refine seq_i fun N hN => ?_
      walk_at "g"
      refine hN _ _ ?_
      clear hN
      refine seq_i fun N hN => ?_
      walk_at "g"
      refine hN _ _ ?_
      clear hN
      refine seq_i fun N hN => ?_
      walk_at "g"
      refine hN _ _ ?_
      clear hN
      refine seq_i fun N hN => ?_
      walk_at "g"
      refine ⟨fun z => absurd z.1 (by show ¬ HT.sIx 3 0 (some 1) = 0; decide), fun _ => ?_⟩
      walk_at "new"; rename_i p1 f1 H1 s1' t1
      have t1 : H1 p1 = some (.tup [ua, ub]) := t1
      have k1 : Kq st po H H1 := kq_same s1'
      have hs1 := hs.mono s1'
      walk_at "g"
      rcases sev2 he with ⟨v, w, s1, es, h⟩ | ⟨es, hbad⟩
      · refine spSev.mk (es := [a, b]) es (Nat.le_trans (fw_op h fun b en ab s r s' h => ev_fw _ _ _ _ _ _ _ _ _ h).outs ho) hz (Nat.le_of_ble_eq_true rfl) t1 (.cons (ra.tups k1.tup) (.cons (rb.tups k1.tup) .nil)) (fun x hx => by rcases List.mem_cons.mp hx with e | hx; exact e ▸ nm.1; rw [List.mem_singleton.mp hx]; exact nm.2) (k1.dict _ _ h1) (h2.kq k1) (h3.kq k1) hs1 fun u8 H8 k8 ls8 hs8 => ?_
        obtain ⟨p8, xs8, rfl, f8, t8, pr8⟩ := ls8
        obtain ⟨w1, xr1, rfl, lv1, pr8⟩ := Zt.Paired.cons_inv pr8
        obtain ⟨w2, xr2, rfl, lv2, pr8⟩ := Zt.Paired.cons_inv pr8
        cases pr8
        have k18 := k1.trans k8
        have ha8 := k18.tup _ _ ha
        walk_at "g"
        refine hN _ _ ?_
        clear hN
        refine seq_i fun N hN => ?_
        walk_at "g"
        refine spBad.mk2 t8 ?_
        walk_at "g"
        refine hN _ _ ?_
        walk_at "g"
        exact spDone.op (o := .sum) rfl h ho hz t8 lv1 lv2 hs8 fun u H' k l z => q u H' (k18.trans k) l z
      · refine spSev.mk (es := [a, b]) es ho hz (Nat.le_of_ble_eq_true rfl) t1 (.cons (ra.tups k1.tup) (.cons (rb.tups k1.tup) .nil)) (fun x hx => by rcases List.mem_cons.mp hx with e | hx; exact e ▸ nm.1; rw [List.mem_singleton.mp hx]; exact nm.2) (k1.dict _ _ h1) (h2.kq k1) (h3.kq k1) hs1 fun u8 H8 k8 ls8 hs8 => ?_
        obtain ⟨_, lr8⟩ := ls8
        walk_at "g"
        refine hN _ _ ?_
        clear hN
        refine seq_i fun N hN => ?_
        walk_at "g"
        refine spBad.mk lr8 ?_
        rw [hbad]
        walk_at "g"
        exact q _ _ (k1.trans k8) lr8 hs8
    | less =>
      refine seq_i fun N hN => ?_
      walk_at "g"
      refine hN _ _ ?_
      clear hN
      refine seq_i fun N hN => ?_
      walk_at "g"
      refine hN _ _ ?_
      clear hN
      refine seq_i fun N hN => ?_
      walk_at "g"
      refine hN _ _ ?_
      clear hN
      refine seq_i fun N hN => ?_
      walk_at "g"
      refine hN _ _ ?_
      clear hN
      refine seq_i fun N hN => ?_
      walk_at "g"
      refine hN _ _ ?_
      clear hN
      refine seq_i fun N hN => ?_
      walk_at "g"
      refine ⟨fun z => absurd z.1 (by show ¬ HT.sIx 3 0 (some 1) = 0; decide), fun _ => ?_⟩
      walk_at "new"; rename_i p1 f1 H1 s1' t1
      have t1 : H1 p1 = some (.tup [ua, ub]) := t1
      have k1 : Kq st po H H1 := kq_same s1'
      have hs1 := hs.mono s1'
      walk_at "g"
      rcases sev2 he with ⟨v, w, s1, es, h⟩ | ⟨es, hbad⟩
      · refine spSev.mk (es := [a, b]) es (Nat.le_trans (fw_op h fun b en ab s r s' h => ev_fw _ _ _ _ _ _ _ _ _ h).outs ho) hz (Nat.le_of_ble_eq_true rfl) t1 (.cons (ra.tups k1.tup) (.cons (rb.tups k1.tup) .nil)) (fun x hx => by rcases List.mem_cons.mp hx with e | hx; exact e ▸ nm.1; rw [List.mem_singleton.mp hx]; exact nm.2) (k1.dict _ _ h1) (h2.kq k1) (h3.kq k1) hs1 fun u8 H8 k8 ls8 hs8 => ?_
        obtain ⟨p8, xs8, rfl, f8, t8, pr8⟩ := ls8
        obtain ⟨w1, xr1, rfl, lv1, pr8⟩ := Zt.Paired.cons_inv pr8
        obtain ⟨w2, xr2, rfl, lv2, pr8⟩ := Zt.Paired.cons_inv pr8
        cases pr8
        have k18 := k1.trans k8
        have ha8 := k18.tup _ _ ha
        walk_at "g"
        refine hN _ _ ?_
        clear hN
        refine seq_i fun N hN => ?_
        walk_at "g"
        refine spBad.mk2 t8 ?_
        walk_at "g"
        refine hN _ _ ?_
        walk_at "g"
        exact spDone.op (o := .less) rfl h ho hz t8 lv1 lv2 hs8 fun u H' k l z => q u H' (k18.trans k) l z
      · refine spSev.mk (es := [a, b]) es ho hz (Nat.le_of_ble_eq_true rfl) t1 (.cons (ra.tups k1.tup) (.cons (rb.tups k1.tup) .nil)) (fun x hx => by rcases List.mem_cons.mp hx with e | hx; exact e ▸ nm.1; rw [List.mem_singleton.mp hx]; exact nm.2) (k1.dict _ _ h1) (h2.kq k1) (h3.kq k1) hs1 fun u8 H8 k8 ls8 hs8 => ?_
        obtain ⟨_, lr8⟩ := ls8
        walk_at "g"
        refine hN _ _ ?_
        clear hN
        refine seq_i fun N hN => ?_
        walk_at "g"
        refine spBad.mk lr8 ?_
        rw [hbad]
        walk_at "g"
        exact q _ _ (k1.trans k8) lr8 hs8
end
end Zt

set_option Elab.async false
set_option linter.all false
set_option maxRecDepth 100000
set_option maxHeartbeats 4000000
namespace Zt
open PySem L2 PySem.Spec PyProof.Rows Zg
local macro_rules | `(tactic| walk_at "sq") => `(tactic| first | exact SqL.of (by assumption) | exact .inl (SqL.of (by assumption)) | assumption | exact SqT.of (by assumption) | exact .inr (SqT.of (by assumption)) | exact SqL.of upd_same | exact .inl (SqL.of upd_same))
local macro_rules | `(tactic| walk_at "hp") => `(tactic| first | assumption | exact upd_same)
local macro_rules | `(tactic| walk_at "cond") => `(tactic| first | assumption | rfl | (apply And.intro <;> assumption) | decide | (show (0 : Int) < _; decide) | (apply And.intro <;> decide) | (apply Or.inr; apply And.intro <;> decide) | (apply Or.inl; apply And.intro <;> decide))
local macro_rules | `(tactic| walk_at "s") => `(tactic| first
  | (with_reducible apply iteF)
  | (with_reducible apply iteT)
  | (apply e1; rfl)
  | (apply e2; rfl; rfl)
  | (apply e4; rfl; rfl; walk_at "sq"; rfl)
  | (apply e4; rfl; rfl; walk_at "hp"; rfl)
  | (apply e2; rfl; walk_at "sq")
  | (apply eOr; rfl)
  | (apply eOrR; rfl)
  | (apply eTru; walk_at "sq")
  | (apply eTruT; walk_at "sq")
  | (apply And.intro; (walk_at "cond"))
  | (apply iteTr; rfl)
  | (apply iteFr; rfl)
  | (apply iteD; all_goals intro _)
  | (with_reducible apply tNext_i))
local macro_rules | `(tactic| walk_at "g") => `(tactic| repeat' ((fail_if_success (with_reducible apply seq_i)); (fail_if_success (with_reducible apply cut_i)); (walk_at "s")))
local macro_rules | `(tactic| walk_at "size") => `(tactic| first | (simp only [List.length_cons, List.length_nil]; decide) | decide)
local macro_rules | `(tactic| walk_at "newp") => `(tactic| (intro p hp; generalize hH : upd _ _ _ = H1; have st := new_facts hp hH; clear hH; obtain ⟨s, t⟩ := st))
local macro_rules | `(tactic| walk_at "new") => `(tactic| walk_at "g"; first | (apply And.intro; (focus (apply small100; walk_at "size")); walk_at "newp") | (walk_at "newp"))

def erOf : Rs → Er
  | .val v => .value (shw v)
  | .stuck k => .stuck k
  | .more => .more
def sta0 (fl : Int) : Sta := ⟨fl, [], fun _ _ => none⟩
inductive spLRun (n : Nat) : List V → Hp → VK → XK → Prop
  | mk {nms : List Str} {e : TE} {s' : Sta} {r : Rs} {v : V} {fl : Int} {H : Hp} {Q : VK} {E : XK} (he : ev n false e .nil .none 0 (sta0 fl) = some (r, s')) (ho : s'.outs.length ≤ 5000000) (hz : nms.length ≤ 1000) (rp : RT H e v) (nm : Nm nms e)
    (q : ∀ u H', Tups H H' → RRun H' s'.outs (erOf r) u → Q u H') : spLRun n [v, .int fl] H Q E
inductive spWhole : List V → Hp → VK → XK → Prop
  | mk {v : V} {H : Hp} {Q : VK} {E : XK} (h : (∃ i, v = .int i) ∨ ∃ a l, v = .ref a ∧ H a = some (.tup l)) (q : Q (.bl (isInt v)) H) : spWhole [v] H Q E
inductive spIsShown : List V → Hp → VK → XK → Prop
  | mk {v : V} {s : Sh} {H : Hp} {Q : VK} {E : XK} (h : shV H s v) (q : Q (.bl true) H) : spIsShown [v] H Q E
inductive spIsRun : List V → Hp → VK → XK → Prop
  | mk {v : V} {outs : List (Int × Sh)} {er : Er} {H : Hp} {Q : VK} {E : XK} (h : RRun H outs er v) (q : Q (.bl true) H) : spIsRun [v] H Q E
section
variable {P : Program} {w : World} {K : PySem.W.Frag} {mg : Str → Option Value} {base : Heap} {aFunction aRun aRunB aPlace aForms aActions aOps : Addr} {k : Nat}
theorem none_f {x : Str} {st : Stmt} {ps : List Str} {sp : Sp} (D : DefX K mg x st ps) (hs : ∀ vs H Q E, ¬ sp vs H Q E) : FnF P w K mg base 0 x ps sp := by
  obtain ⟨f, fd, F, b, m⟩ := D
  exact ⟨f, fd, fun vs H Q E h => (hs _ _ _ _ h).elim, F.kp, b, m, fun A outer s H args us vs Q E _ _ _ _ h => (hs _ _ _ _ h).elim⟩
structure AllEv (P : Program) (w : World) (K : PySem.W.Frag) (mg : Str → Option Value) (base : Heap) (nms : List Str) (n : Nat) : Prop where
  eval : FnF P w K mg base n "_law_eval" ["e", "env", "about", "k", "st"] (spEval nms n false)
  given : FnF P w K mg base n "_law_given" ["e", "env", "about", "k", "st"] (spEval nms n true)
  several : FnF P w K mg base n "_law_several" ["parts", "env", "about", "k", "st"] (shift (spSev nms) n)
  done : FnF P w K mg base n "_law_done" ["kind", "values", "k", "st"] (shift (spDone nms) n)
  applied : FnF P w K mg base n "_law_applied" ["f", "a", "k", "st"] (shift (spApp nms) n)
theorem all_ev {nms : List Str} (T : Tx w K mg aFunction aRun aRunB aPlace aForms aActions aOps) : ∀ n, AllEv P w K mg base nms n
  | 0 => ⟨none_f T.d__law_eval (fun vs H Q E h => by rcases h with ⟨he, _⟩; cases he), none_f T.d__law_given (fun vs H Q E h => by rcases h with ⟨he, _⟩; cases he), none_f T.d__law_several (fun vs H Q E h => h), none_f T.d__law_done (fun vs H Q E h => h), none_f T.d__law_applied (fun vs H Q E h => h)⟩
  | n + 1 => by
    have A := all_ev (nms := nms) T n
    exact ⟨ok_leval T A.eval A.given A.several A.done (ok_kinds (k := 0) T) (ok_lbad (k := 0) T) (ok_lstep (k := 0) T) (ok_lwith (k := 0) T),
      ok_lgiven T A.eval A.several A.done (ok_lbad (k := 0) T) (ok_lwith (k := 0) T),
      ok_lsev T A.eval (ok_lbad (k := 0) T), ok_ldone T A.applied (ok_lshown (k := 0) T), ok_lapp T A.eval (ok_lstep (k := 0) T) (ok_lwith (k := 0) T)⟩
theorem ok_lwhole (T : Tx w K mg aFunction aRun aRunB aPlace aForms aActions aOps) : FnX P w K mg base (k + 1) "_law_whole" ["n"] spWhole := by
  refine T.d__law_whole.ok sc__law_whole (fun vs H Q E h => by cases h; rfl) (fun f cdv A outer s H vs Q E hr h => ?_)
  rcases h with ⟨h, q⟩
  refine ⟨_, (pss_one (ps_ret (pe_and (pe_callB call_isi rfl T.z_isinstance (by decide +kernel) (pa_cons (pv 0) (pa_cons (pe_bltn (v := .ty "int") rfl T.z_int (by decide +kernel) rfl) pa_nil))) (pe_one (pe_not (pe_callB call_isi rfl T.z_isinstance (by decide +kernel) (pa_cons (pv 0) (pa_cons (pe_bltn (v := .ty "bool") rfl T.z_bool (by decide +kernel) rfl) pa_nil)))))))), ?_⟩
  walk_at "g"
  refine isi_int h ?_
  rcases h with ⟨i, rfl⟩ | ⟨a, l, rfl, h⟩
  · walk_at "g"
    refine isi_bool ?_
    walk_at "g"
    exact q
  · walk_at "g"
    exact q
theorem ok_lisshown (T : Tx w K mg aFunction aRun aRunB aPlace aForms aActions aOps) (G__law_whole : FnX P w K mg base k "_law_whole" ["n"] spWhole) : FnX P w K mg base (k + 1) "_law_is_shown" ["x"] spIsShown := by
  refine T.d__law_is_shown.ok sc__law_is_shown (fun vs H Q E h => by cases h; rfl) (fun f cdv A outer s H vs Q E hr h => ?_)
  rcases h with ⟨h, q⟩
  rename_i v sh
  refine ⟨_, (pss_one (ps_ret (pe_or (pe_fn G__law_whole hr rfl (pa_cons (pv 0) pa_nil)) (pe_one (pe_and (pe_callB call_isi rfl T.z_isinstance (by decide +kernel) (pa_cons (pv 0) (pa_cons (pe_bltn (v := .ty "tuple") rfl T.z_tuple (by decide +kernel) rfl) pa_nil))) (pe_and (pe_cmpR op_eq (pe_callB call_len_seq rfl T.z_len PySem.boot_len (pa_cons (pv 0) pa_nil)) (pe_int) (nomark _)) (pe_and (pe_cmpR op_eq (pe_ix ix_tup (pv 0) (pe_int) (fun _ _ => rfl)) (pe_str) (nomark _)) (pe_one (pe_fn G__law_whole hr rfl (pa_cons (pe_ix ix_tup (pv 0) (pe_int) (fun _ _ => rfl)) pa_nil)))))))))), ?_⟩
  cases sh with
  | int i =>
    have h : v = .int i := h
    subst h
    walk_at "g"
    refine spWhole.mk (.inl ⟨_, rfl⟩) ?_
    walk_at "g"
    exact q
  | fn k =>
    obtain ⟨a, rfl, h⟩ := h
    walk_at "g"
    refine spWhole.mk (.inr ⟨_, _, rfl, h⟩) ?_
    walk_at "g"
    refine isi_part (.inr (.inr ⟨_, _, rfl, h⟩)) ?_
    walk_at "g"
    refine spWhole.mk (.inl ⟨_, rfl⟩) ?_
    walk_at "g"
    exact q
theorem ok_lisrun (T : Tx w K mg aFunction aRun aRunB aPlace aForms aActions aOps) (G__law_whole : FnX P w K mg base k "_law_whole" ["n"] spWhole) (G__law_is_shown : FnX P w K mg base k "_law_is_shown" ["x"] spIsShown) : FnX P w K mg base (k + 1) "_law_is_run" ["told"] spIsRun := by
  refine T.d__law_is_run.ok sc__law_is_run (fun vs H Q E h => by cases h; rfl) (fun f cdv A outer s H vs Q E hr h => ?_)
  rcases h with ⟨h, q⟩
  rename_i v outs er
  refine ⟨_, (pss_cons (ps_if (PW.pt (pw_or (pt_not (pt_val (pe_callB call_isi rfl T.z_isinstance (by decide +kernel) (pa_cons (pv 0) (pa_cons (pe_bltn (v := .ty "tuple") rfl T.z_tuple (by decide +kernel) rfl) pa_nil))))) (pw_or (pt_cmpR op_ne (pe_callB call_len_seq rfl T.z_len PySem.boot_len (pa_cons (pv 0) pa_nil)) (pe_int) (nomark _)) (pw_or (pt_not (pt_val (pe_callB call_isi rfl T.z_isinstance (by decide +kernel) (pa_cons (pe_ix ix_tup (pv 0) (pe_int) (fun _ _ => rfl)) (pa_cons (pe_bltn (v := .ty "tuple") rfl T.z_tuple (by decide +kernel) rfl) pa_nil))))) (pw_or1 (pt_not (pt_val (pe_callB call_isi rfl T.z_isinstance (by decide +kernel) (pa_cons (pe_ix ix_tup (pv 0) (pe_int) (fun _ _ => rfl)) (pa_cons (pe_bltn (v := .ty "tuple") rfl T.z_tuple (by decide +kernel) rfl) pa_nil)))))))))) (pss_one (ps_ret (pe_bl))) pss_nil)
    (pss_cons (ps_for PassesOwn.never rfl (pi_tup (pe_ix ix_tup (pv 0) (pe_int) (fun _ _ => rfl))) (pg_name (i := 1) sc__law_is_run.nd rfl (.inl rfl)) (pss_one (ps_if (PW.pt (pw_or (pt_not (pt_val (pe_callB call_isi rfl T.z_isinstance (by decide +kernel) (pa_cons (pv 1) (pa_cons (pe_bltn (v := .ty "tuple") rfl T.z_tuple (by decide +kernel) rfl) pa_nil))))) (pw_or (pt_cmpR op_ne (pe_callB call_len_seq rfl T.z_len PySem.boot_len (pa_cons (pv 1) pa_nil)) (pe_int) (nomark _)) (pw_or (pt_not (pt_val (pe_fn G__law_whole hr rfl (pa_cons (pe_ix ix_tup (pv 1) (pe_int) (fun _ _ => rfl)) pa_nil)))) (pw_or1 (pt_not (pt_val (pe_fn G__law_is_shown hr rfl (pa_cons (pe_ix ix_tup (pv 1) (pe_int) (fun _ _ => rfl)) pa_nil))))))))) (pss_one (ps_ret (pe_bl))) pss_nil)))
    (pss_one (ps_ret (pe_or (pe_cmpR op_ne (pe_ix ix_tup (pe_ix ix_tup (pv 0) (pe_int) (fun _ _ => rfl)) (pe_int) (fun _ _ => rfl)) (pe_str) (nomark _)) (pe_one (pe_fn G__law_is_shown hr rfl (pa_cons (pe_ix ix_tup (pe_ix ix_tup (pv 0) (pe_int) (fun _ _ => rfl)) (pe_int) (fun _ _ => rfl)) pa_nil)))))))), ?_⟩
  obtain ⟨p, po, ev, xo, rfl, hp, hpo, ho, he⟩ := h
  obtain ⟨ae, le, rfl, hae⟩ : ∃ ae le, ev = .ref ae ∧ H ae = some (.tup le) := by
    cases er with
    | value s =>
      obtain ⟨a, u, h1, h2, _⟩ := he
      exact ⟨a, _, h1, h2⟩
    | stuck k =>
      obtain ⟨a, h1, h2⟩ := he
      exact ⟨a, _, h1, h2⟩
    | more =>
      obtain ⟨a, h1, h2⟩ := he
      exact ⟨a, _, h1, h2⟩
  refine seq_i fun N hN => ?_
  walk_at "g"
  refine isi_part (.inr (.inr ⟨_, _, rfl, hp⟩)) ?_
  walk_at "g"
  refine isi_part (.inr (.inr ⟨_, _, rfl, hpo⟩)) ?_
  walk_at "g"
  refine isi_part (.inr (.inr ⟨_, _, rfl, hae⟩)) ?_
  walk_at "g"
  refine hN _ _ ?_
  clear hN
  refine seq_i fun N hN => ?_
  walk_at "g"
  refine ⟨⟨_, SqT.of hpo⟩, ?_⟩
  refine for_it (walk_tup (xs := xo)) (fun i σ H' => ∃ u1, σ = [some (.ref p), u1] ∧ H' = H) ⟨none, rfl, rfl⟩ (fun i σ H' _ h => by obtain ⟨u1, _, rfl⟩ := h; exact SqT.of hpo) (fun i x σ H' H2 hi h y => ?_) (fun σ H' h => ?_)
  · obtain ⟨u1, rfl, rfl⟩ := h
    obtain ⟨rfl, ex⟩ := y
    obtain ⟨ox, ux, e1, e2, a, u, e3, h1, h2⟩ := Paired.at (i := i) ho (by have := Paired.length' ho; omega)
    rw [ex] at e2
    cases e2
    subst e3
    walk_at "g"
    refine isi_part (.inr (.inr ⟨_, _, rfl, h1⟩)) ?_
    walk_at "g"
    refine spWhole.mk (.inl ⟨_, rfl⟩) ?_
    walk_at "g"
    refine spIsShown.mk h2 ?_
    walk_at "g"
    first | exact ⟨_, rfl, rfl⟩ | exact rfl
  · obtain ⟨u1, rfl, rfl⟩ := h
    refine hN _ _ ?_
    clear hN
    walk_at "g"
    cases er with
    | value s =>
      obtain ⟨a, u, h1, h2, h3⟩ := he
      cases h1
      walk_at "g"
      refine spIsShown.mk h3 ?_
      walk_at "g"
      exact q
    | stuck k =>
      obtain ⟨a, h1, h2⟩ := he
      cases h1
      walk_at "g"
      exact q
    | more =>
      obtain ⟨a, h1, h2⟩ := he
      cases h1
      walk_at "g"
      exact q
theorem ok_lrun {n : Nat} (T : Tx w K mg aFunction aRun aRunB aPlace aForms aActions aOps) (G0 : ∀ nms, FnX P w K mg base k "_law_eval" ["e", "env", "about", "k", "st"] (spEval nms n false)) (G1 : ∀ nms, FnX P w K mg base k "_law_bad" ["value"] (spBad nms)) (G2 : ∀ nms, FnX P w K mg base k "_law_shown" ["value"] (spLShown nms)) : FnX P w K mg base (k + 1) "_law_run" ["program", "fuel"] (spLRun n) := by
  refine T.d__law_run.ok sc__law_run (fun vs H Q E h => by cases h; rfl) (fun f cdv A outer s H vs Q E hr h => ?_)
  rcases h with ⟨he, ho, hz, rp, nm, q⟩
  rename_i nms e s' r v fl
  have G__law_eval := G0 nms
  have G__law_bad := G1 nms
  have G__law_shown := G2 nms
  refine ⟨_, (pss_cons (ps_set (i := 2) sc__law_run.nd rfl (.inl rfl) (pe_lst (pa_cons (pv 1) (pa_cons (pe_lst pa_nil) (pa_cons (pe_dnewT) pa_nil)))))
    (pss_cons (ps_set (i := 3) sc__law_run.nd rfl (.inl rfl) (pe_fn G__law_eval hr rfl (pa_cons (pv 0) (pa_cons (pe_dnewK) (pa_cons (pe_non) (pa_cons (pe_int) (pa_cons (pv 2) pa_nil)))))))
    (pss_cons (ps_set (i := 4) sc__law_run.nd rfl (.inl rfl) (pe_tup (pa_cons (pe_str) (pa_cons (pe_int) pa_nil))))
    (Evl.pss_cut (ps_if (PW.pt (pw_and (pt_val (pe_fn G__law_bad hr rfl (pa_cons (pv 3) pa_nil))) (pw_and1 (pt_cmpR op_eq (pe_ix ix_tup (pv 3) (pe_int) (fun _ _ => rfl)) (pe_str) (nomark _))))) (pss_one (ps_set (i := 4) sc__law_run.nd rfl (.inl rfl) (pe_tup (pa_cons (pe_str) (pa_cons (pe_ix ix_tup (pv 3) (pe_int) (fun _ _ => rfl)) pa_nil))))) (pss_one (ps_if (pt_val (pe_fn G__law_bad hr rfl (pa_cons (pv 3) pa_nil))) (pss_one (ps_set (i := 4) sc__law_run.nd rfl (.inl rfl) (pe_tup (pa_cons (pe_str) pa_nil)))) (pss_one (ps_set (i := 4) sc__law_run.nd rfl (.inl rfl) (pe_tup (pa_cons (pe_str) (pa_cons (pe_fn G__law_shown hr rfl (pa_cons (pv 3) pa_nil)) pa_nil))))))))
    (pss_one (ps_ret (pe_tup (pa_cons (pe_callTy call_tuple_of rfl T.z_tuple (by decide +kernel) (pa_cons (pe_ix ix_list (pv 2) (pe_int) (fun _ _ => rfl)) pa_nil)) (pa_cons (pv 4) pa_nil))))))))), ?_⟩
  refine seq_i fun N hN => ?_
  walk_at "g"
  intro po f1
  have s1 : Same H (upd H po (.lst [])) := Same.new f1
  have t1 : upd H po (.lst []) po = some (.lst []) := upd_same
  generalize upd H po (.lst []) = H1 at s1 t1 ⊢
  intro sw f2
  have s2 : Same H1 (upd H1 sw (.dT [])) := Same.new f2
  have t2 : upd H1 sw (.dT []) sw = some (.dT []) := upd_same
  generalize upd H1 sw (.dT []) = H2 at s2 t2 ⊢
  walk_at "new"; rename_i st f3 H3 s3 t3
  refine hN _ _ ?_
  clear hN
  refine seq_i fun N hN => ?_
  walk_at "g"
  intro de f4
  have s4 : Same H3 (upd H3 de (.dK [])) := Same.new f4
  have t4 : upd H3 de (.dK []) de = some (.dK []) := upd_same
  generalize upd H3 de (.dK []) = H4 at s4 t4 ⊢
  have s04 := Same.trans s1 (Same.trans s2 (Same.trans s3 s4))
  have hst : StA nms H4 st po sw [] [] (sta0 fl) := ⟨s4 _ _ t3, s4 _ _ (s3 _ _ (s2 _ _ t1)), s4 _ _ (s3 _ _ t2), .nil, fun k q => rfl, ⟨List.nodup_nil, fun k h => (by cases h)⟩, ?_⟩
  rotate_left
  · exact ne_of_none (s2 _ _ t1) f3 |>.symm
  walk_at "g"
  refine spEval.mk he ho hz (rp.tups (Same.tups s04)) nm t4 (by rw [LE]) (by rw [LA]) ⟨_, _, hst⟩ fun u6 H6 k6 lr hs6 => ?_
  obtain ⟨xo, kvs, hs6'⟩ := id hs6
  have hst6 := hs6'.hs
  have k06 := (Same.tups s04).trans k6.tup
  have hxl := Paired.length' hs6'.o
  refine hN _ _ ?_
  clear hN
  refine seq_i fun N hN => ?_
  walk_at "g"
  walk_at "new"; rename_i pz fz Hz sz tz
  refine hN _ _ ?_
  clear hN
  have lrz : LR nms Hz r u6 := lr.kq (kq_same (st := st) (po := po) sz)
  have hsz := hs6'.mono sz
  have hstz := hsz.hs
  have k0z := k06.trans (Same.tups sz)
  refine ⟨_, ?_, fun σ' H' h => h⟩
  walk_at "g"
  refine spBad.mk lrz ?_
  cases r with
  | val v =>
    walk_at "g"
    refine spBad.mk lrz ?_
    walk_at "g"
    have lv : LV nms Hz v u6 := lrz
    refine spLShown.mk lv fun u8 H8 s8 sh => ?_
    walk_at "new"; rename_i p9 f9 H9 s9 t9
    have s89 := Same.trans s8 s9
    have hst9 := s89 _ _ hstz
    walk_at "g"
    refine ⟨po, _, rfl, .inl ⟨SqL.of (s89 _ _ hsz.ho), fun p7 f7 => ?_⟩⟩
    have s7 : Same H9 (upd H9 p7 (.tup xo)) := Same.new f7
    have t7 : upd H9 p7 (.tup xo) p7 = some (.tup xo) := upd_same
    generalize upd H9 p7 (.tup xo) = H7 at s7 t7 ⊢
    walk_at "new"; rename_i pa fa Ha sa ta
    have s7a := Same.trans s89 (Same.trans s7 sa)
    exact q _ _ (k0z.trans (Same.tups s7a)) ⟨pa, p7, _, xo, rfl, ta, sa _ _ t7, Paired.imp' hsz.o fun _ _ r => r.tups (Same.tups s7a), p9, u8, rfl, sa _ _ (s7 _ _ t9), sh.tups (Same.tups (Same.trans s9 (Same.trans s7 sa)))⟩
  | stuck j =>
    obtain ⟨a, rfl, ha⟩ := id lrz
    walk_at "new"; rename_i p9 f9 H9 s9 t9
    have hst9 := s9 _ _ hstz
    walk_at "g"
    refine ⟨po, _, rfl, .inl ⟨SqL.of (s9 _ _ hsz.ho), fun p7 f7 => ?_⟩⟩
    have s7 : Same H9 (upd H9 p7 (.tup xo)) := Same.new f7
    have t7 : upd H9 p7 (.tup xo) p7 = some (.tup xo) := upd_same
    generalize upd H9 p7 (.tup xo) = H7 at s7 t7 ⊢
    walk_at "new"; rename_i pa fa Ha sa ta
    have s7a := Same.trans s9 (Same.trans s7 sa)
    exact q _ _ (k0z.trans (Same.tups s7a)) ⟨pa, p7, _, xo, rfl, ta, sa _ _ t7, Paired.imp' hsz.o fun _ _ r => r.tups (Same.tups s7a), p9, rfl, sa _ _ (s7 _ _ t9)⟩
  | more =>
    obtain ⟨a, rfl, ha⟩ := id lrz
    walk_at "g"
    refine spBad.mk lrz ?_
    walk_at "new"; rename_i p9 f9 H9 s9 t9
    have hst9 := s9 _ _ hstz
    walk_at "g"
    refine ⟨po, _, rfl, .inl ⟨SqL.of (s9 _ _ hsz.ho), fun p7 f7 => ?_⟩⟩
    have s7 : Same H9 (upd H9 p7 (.tup xo)) := Same.new f7
    have t7 : upd H9 p7 (.tup xo) p7 = some (.tup xo) := upd_same
    generalize upd H9 p7 (.tup xo) = H7 at s7 t7 ⊢
    walk_at "new"; rename_i pa fa Ha sa ta
    have s7a := Same.trans s9 (Same.trans s7 sa)
    exact q _ _ (k0z.trans (Same.tups s7a)) ⟨pa, p7, _, xo, rfl, ta, sa _ _ t7, Paired.imp' hsz.o fun _ _ r => r.tups (Same.tups s7a), p9, rfl, sa _ _ (s7 _ _ t9)⟩
end
/-! ### runs as data -/
def pSh : Sh → PyData
  | .int i => .int i
  | .fn k => .tuple [.str "fn", .int k]
def pOut (o : Int × Sh) : PyData := .tuple [.int o.1, pSh o.2]
def pEr : Er → PyData
  | .value s => .tuple [.str "value", pSh s]
  | .stuck k => .tuple [.str "stuck", .int k]
  | .more => .tuple [.str "more"]
def pRun (outs : List (Int × Sh)) (er : Er) : PyData := .tuple [.tuple (outs.map pOut), pEr er]
section
variable {K : PySem.W.Frag} {H : Hp}
theorem dp_sh {s : Sh} {v : V} (h : shV H s v) : Dp K H v (pSh s) := by
  cases s with
  | int i =>
    have h : v = .int i := h
    subst h
    exact .int i
  | fn k =>
    obtain ⟨a, rfl, h⟩ := h
    exact .tup (SqT.of h) (.cons (.str _) (.cons (.int _) .nil))
theorem dp_outs : ∀ {outs : List (Int × Sh)} {xs : List V}, Paired (RO H) outs xs → DpAll K H xs (outs.map pOut)
  | _, _, .nil => .nil
  | _, _, .cons r t => by
    obtain ⟨a, u, rfl, h1, h2⟩ := r
    exact .cons (.tup (SqT.of h1) (.cons (.int _) (.cons (dp_sh h2) .nil))) (dp_outs t)
theorem dp_er {er : Er} {v : V} (h : REr H er v) : Dp K H v (pEr er) := by
  cases er with
  | value s =>
    obtain ⟨a, u, rfl, h1, h2⟩ := h
    exact .tup (SqT.of h1) (.cons (.str _) (.cons (dp_sh h2) .nil))
  | stuck k =>
    obtain ⟨a, rfl, h1⟩ := h
    exact .tup (SqT.of h1) (.cons (.str _) (.cons (.int _) .nil))
  | more =>
    obtain ⟨a, rfl, h1⟩ := h
    exact .tup (SqT.of h1) (.cons (.str _) .nil)
theorem dp_run {outs : List (Int × Sh)} {er : Er} {v : V} (h : RRun H outs er v) : Dp K H v (pRun outs er) := by
  obtain ⟨p, po, ev, xo, rfl, h1, h2, h3, h4⟩ := h
  exact .tup (SqT.of h1) (.cons (.tup (SqT.of h2) (dp_outs h3)) (.cons (dp_er h4) .nil))
end
/-- data of a small depth that can be laid -/
def Lay (m : Nat) (d : PyData) : Prop := d.canLay0 = true ∧ d.depth ≤ m
theorem lay_all {m : Nat} : ∀ {ds : List PyData}, (∀ d ∈ ds, Lay m d) → PyData.canLayAll0 ds = true ∧ PyData.depthAll ds ≤ m
  | [], _ => ⟨rfl, Nat.zero_le _⟩
  | d :: ds, h => by
    obtain ⟨a, b⟩ := h d List.mem_cons_self
    obtain ⟨e, f⟩ := lay_all fun x hx => h x (List.mem_cons_of_mem _ hx)
    constructor
    · rw [PyData.canLayAll0, a, e]
      rfl
    · rw [PyData.depthAll]
      omega
theorem lay_tup {m : Nat} {ds : List PyData} (h : ∀ d ∈ ds, Lay m d) : Lay (m + 1) (.tuple ds) := by
  obtain ⟨a, b⟩ := lay_all h
  constructor
  · rw [PyData.canLay0]
    exact a
  · rw [PyData.depth]
    omega
theorem lay_int {i : Int} {m : Nat} : Lay m (.int i) := ⟨by rw [PyData.canLay0], by rw [PyData.depth]; exact Nat.zero_le _⟩
theorem lay_str {x : Str} {m : Nat} (h : PyData.strOk x = true) : Lay m (.str x) := ⟨by rw [PyData.canLay0]; exact h, by rw [PyData.depth]; exact Nat.zero_le _⟩
theorem lay_sh {s : Sh} : Lay 1 (pSh s) := by
  cases s with
  | int i => exact lay_int
  | fn k =>
    refine lay_tup fun d hd => ?_
    simp only [List.mem_cons, List.not_mem_nil, or_false] at hd
    rcases hd with rfl | rfl
    · exact lay_str (by decide +kernel)
    · exact lay_int
theorem lay_out {o : Int × Sh} : Lay 2 (pOut o) := by
  refine lay_tup fun d hd => ?_
  simp only [List.mem_cons, List.not_mem_nil, or_false] at hd
  rcases hd with rfl | rfl
  · exact lay_int
  · exact lay_sh
theorem lay_er {e : Er} : Lay 2 (pEr e) := by
  cases e with
  | value s =>
    refine lay_tup fun d hd => ?_
    simp only [List.mem_cons, List.not_mem_nil, or_false] at hd
    rcases hd with rfl | rfl
    · exact lay_str (by decide +kernel)
    · exact lay_sh
  | stuck k =>
    refine lay_tup fun d hd => ?_
    simp only [List.mem_cons, List.not_mem_nil, or_false] at hd
    rcases hd with rfl | rfl
    · exact lay_str (by decide +kernel)
    · exact lay_int
  | more =>
    refine lay_tup fun d hd => ?_
    simp only [List.mem_cons, List.not_mem_nil, or_false] at hd
    rcases hd with rfl
    exact lay_str (by decide +kernel)
theorem lay_run {outs : List (Int × Sh)} {er : Er} : Lay 4 (pRun outs er) := by
  refine lay_tup fun d hd => ?_
  simp only [List.mem_cons, List.not_mem_nil, or_false] at hd
  rcases hd with rfl | rfl
  · refine lay_tup fun d hd => ?_
    obtain ⟨o, _, rfl⟩ := List.mem_map.mp hd
    exact lay_out
  · exact ⟨lay_er.1, Nat.le_trans lay_er.2 (by decide)⟩
theorem eq_run {K : PySem.W.Frag} {H : Hp} {outs : List (Int × Sh)} {er : Er} {v u : V} {Q : VK} (a : RRun H outs er v) (b : RRun H outs er u) (q : Q (.bl true) H) : rEqD K v u H Q := by
  obtain ⟨h1, h2⟩ := lay_run (outs := outs) (er := er)
  have hsh : SeqAt.shaped (pRun outs er) = true := by
    unfold SeqAt.shaped
    rw [h1, decide_eq_true (by omega)]
    rfl
  refine ⟨_, _, dp_run a, dp_run b, hsh, hsh, ?_⟩
  rw [SeqAt.eqv_refl _ h1]
  exact q
end Zt

set_option Elab.async false
set_option linter.all false
set_option maxRecDepth 100000
set_option maxHeartbeats 4000000
namespace Zt
open PySem L2 PySem.Spec PyProof.Rows Zg
/-! ### how deep the evaluator goes, and how much comes out -/
/-- frames within a level -/
def hh : TE → Nat
  | .num _ => 2
  | .name _ => 2
  | .fn _ _ => 2
  | .op _ a b => 3 + max (hh a) (hh b)
  | .iff c a b => 2 + max (hh c) (max (hh a) (hh b))
  | .lett _ a b => 2 + max (hh a) (hh b)
  | .say a => 3 + hh a
  | .rule _ _ b => 1 + hh b
  | .keep _ _ => 1
  | .part _ => 1
  | .usual => 2
  | .witha a => 2 + hh a
  | .do1 a => 2 + hh a
  | .do2 a b => 2 + max (hh a) (hh b)
/-- nodes of a level -/
def oc : TE → Nat
  | .num _ => 1
  | .name _ => 1
  | .fn _ b => 1 + oc b
  | .op _ a b => 1 + (oc a + oc b)
  | .iff c a b => 1 + (oc c + (oc a + oc b))
  | .lett _ a b => 1 + (oc a + oc b)
  | .say a => 1 + oc a
  | .rule _ _ b => 1 + oc b
  | .keep _ _ => 1
  | .part _ => 1
  | .usual => 1
  | .witha a => 1 + oc a
  | .do1 a => 1 + oc a
  | .do2 a b => 1 + (oc a + oc b)
theorem hh_pos (e : TE) : 1 ≤ hh e := by cases e <;> (rw [hh]; omega)
theorem hh_ch {e : TE} (h : ch e = true) : 2 ≤ hh e := by
  cases e <;> first | (rw [hh]; omega) | cases h
theorem oc_pos (e : TE) : 1 ≤ oc e := by cases e <;> (rw [oc]; omega)
def aL : Nat → Nat
  | 0 => 4
  | 1 => 7
  | _ => 10
def uL : Nat → Nat
  | 0 => 57
  | 1 => 35
  | 2 => 16
  | _ => 0
def hL : Nat → Nat
  | 0 => 26
  | 1 => 23
  | 2 => 20
  | _ => 17
def bL : Nat → Nat
  | 0 => 23
  | 1 => 20
  | 2 => 17
  | _ => 14
/-- how much may come out between two steps -/
def pL (c : Nat → Nat) : Nat → Nat
  | 0 => c 0 * (c 1 * (c 2 * c 3))
  | 1 => c 1 * (c 2 * c 3)
  | 2 => c 2 * c 3
  | 3 => c 3
  | _ => 1
def parN (q : Str) : Nat := if q = "call" then 2 else if q = "sum" then 2 else if q = "less" then 2 else if q = "if" then 3 else if q = "let" then 1 else if q = "say" then 1 else 0
/-- a program that the evaluator can take: at a level, in names, about a kind -/
def ok (c : Nat → Nat) : Nat → TE → List Str → Option Str → Prop
  | _, .num _, _, _ => True
  | _, .name x, ns, _ => x ∈ ns
  | k, .fn x b, ns, a => hh b ≤ bL k ∧ oc b ≤ c k ∧ ok c k b (x :: ns) a
  | k, .op _ e f, ns, a => ok c k e ns a ∧ ok c k f ns a
  | k, .iff t e f, ns, a => ok c k t ns a ∧ ok c k e ns a ∧ ok c k f ns a
  | k, .lett x e f, ns, a => ok c k e ns a ∧ ok c k f (x :: ns) a
  | k, .say e, ns, a => ok c k e ns a
  | k, .rule q r b, ns, a => (k < 3 ∧ q ∈ kindsL ∧ hh r ≤ hL (k + 1) ∧ oc r ≤ c (k + 1) ∧ ok c (k + 1) r [] (some q)) ∧ ok c k b ns a
  | k, .keep q r, _, _ => k < 3 ∧ q ∈ kindsL ∧ hh r ≤ hL (k + 1) ∧ oc r ≤ c (k + 1) ∧ ok c (k + 1) r [] (some q)
  | _, .part i, _, a => ∃ q, a = some q ∧ i < parN q
  | _, .usual, _, a => ∃ q, a = some q
  | k, .witha e, ns, a => a = some "let" ∧ ok c k e ns a
  | k, .do1 e, ns, a => a = some "say" ∧ ok c k e ns a
  | k, .do2 e f, ns, a => (∃ o : Opw, a = some o.str) ∧ ok c k e ns a ∧ ok c k f ns a
def cov (en : En) (ns : List Str) : Prop := ∀ x ∈ ns, ∃ v, lookE en x = some v
theorem cov_cons {en : En} {ns : List Str} {x : Str} {v : Vl} (h : cov en ns) : cov (.cons x v en) (x :: ns) := by
  intro y hy
  unfold lookE
  by_cases e : x = y
  · exact ⟨v, if_pos e⟩
  · rw [if_neg e]
    rcases List.mem_cons.mp hy with z | z
    · exact absurd z.symm e
    · exact h y z
mutual
def vV (c : Nat → Nat) : Vl → Prop
  | .int _ => True
  | .fn k x b en ab => ∃ (m : Nat) (ns : List Str) (a : Option Str), k = (m : Int) ∧ hh b ≤ bL m ∧ oc b ≤ c m ∧ ok c m b (x :: ns) a ∧ cov en ns ∧ vE c en ∧ vA c m a ab
def vE (c : Nat → Nat) : En → Prop
  | .nil => True
  | .cons _ v r => vV c v ∧ vE c r
def vA (c : Nat → Nat) : Nat → Option Str → Ab → Prop
  | m, a, .none => m = 0 ∧ a = none
  | m, a, .some e en ab => ∃ (m' : Nat) (ns : List Str) (a' : Option Str), m = m' + 1 ∧ a = some (wd e) ∧ ch e = true ∧ hh e ≤ hL m' ∧ oc e ≤ c m' ∧ ok c m' e ns a' ∧ cov en ns ∧ vE c en ∧ vA c m' a' ab
end
theorem vE_look {c : Nat → Nat} {x : Str} {v : Vl} : ∀ {en : En}, vE c en → lookE en x = some v → vV c v
  | .nil, _, h => by cases h
  | .cons y w r, g, h => by
    rw [vE] at g
    unfold lookE at h
    split at h
    · cases h
      exact g.1
    · exact vE_look g.2 h
/-- the rules in force -/
def tok (c : Nat → Nat) (tb : Tab) : Prop := ∀ k q r, tb k q = some r → ∃ m : Nat, k = (m : Int) ∧ m < 3 ∧ hh r ≤ hL (m + 1) ∧ oc r ≤ c (m + 1) ∧ ok c (m + 1) r [] (some q)
theorem tok_set {c : Nat → Nat} {tb : Tab} {m : Nat} {q : Str} {r : Option TE} (h : tok c tb) (hr : ∀ r', r = some r' → m < 3 ∧ hh r' ≤ hL (m + 1) ∧ oc r' ≤ c (m + 1) ∧ ok c (m + 1) r' [] (some q)) : tok c (tset tb (m : Int) q r) := by
  intro k q' r' e
  unfold tset at e
  split at e
  · rename_i z
    obtain ⟨rfl, rfl⟩ := z
    obtain ⟨h1, h2, h3, h4⟩ := hr _ e
    exact ⟨m, rfl, h1, h2, h3, h4⟩
  · exact h _ _ _ e
/-! ### where the functions hang -/
def lenA : Ab → Nat
  | .none => 0
  | .some _ _ ab => lenA ab + 1
mutual
/-- all functions in it hang on the chain β -/
def NV (β : Ab) : Vl → Prop
  | .int _ => True
  | .fn _ _ _ en ab => NE β en ∧ NA β ab
def NE (β : Ab) : En → Prop
  | .nil => True
  | .cons _ v r => NV β v ∧ NE β r
def NA (β : Ab) : Ab → Prop
  | .none => Ab.none = β
  | .some e en ab => Ab.some e en ab = β ∨ (NE β en ∧ NA β ab)
end
theorem NA.refl (β : Ab) : NA β β := by
  cases β with
  | none => rw [NA]
  | some e en ab => rw [NA]; exact .inl rfl
mutual
theorem NV.low {β γ : Ab} (h : NA γ β) : ∀ {v : Vl}, NV β v → NV γ v
  | .int i, q => by rw [NV]; trivial
  | .fn k x b en ab, q => by
    rw [NV] at q ⊢
    exact ⟨NE.low h q.1, NA.low h q.2⟩
theorem NE.low {β γ : Ab} (h : NA γ β) : ∀ {en : En}, NE β en → NE γ en
  | .nil, q => by rw [NE]; trivial
  | .cons x v r, q => by
    rw [NE] at q ⊢
    exact ⟨NV.low h q.1, NE.low h q.2⟩
theorem NA.low {β γ : Ab} (h : NA γ β) : ∀ {ab : Ab}, NA β ab → NA γ ab
  | .none, q => by
    rw [NA] at q
    subst q
    exact h
  | .some e en ab, q => by
    rw [NA] at q
    rcases q with rfl | q
    · exact h
    · rw [NA]
      exact .inr ⟨NE.low h q.1, NA.low h q.2⟩
end
theorem NA.len {β : Ab} : ∀ {ab : Ab}, NA β ab → lenA β ≤ lenA ab
  | .none, q => by rw [NA] at q; subst q; exact Nat.le_refl _
  | .some e en ab, q => by
    rw [NA] at q
    rcases q with rfl | q
    · exact Nat.le_refl _
    · have := NA.len q.2
      rw [lenA]
      omega
/-- of two bases of a chain one hangs on the other -/
theorem NA.cmp {β γ : Ab} : ∀ {ab : Ab}, NA β ab → NA γ ab → NA γ β ∨ NA β γ
  | .none, h, q => by
    rw [NA] at h q
    subst h
    subst q
    exact .inl (NA.refl _)
  | .some e en ab, h, q => by
    have h0 := h
    have q0 := q
    rw [NA] at h q
    rcases h with rfl | h
    · exact .inl q0
    · rcases q with rfl | q
      · exact .inr h0
      · exact NA.cmp h.2 q.2
def pW : Nat → Nat
  | 0 => 0
  | 1 => 22
  | 2 => 38
  | _ => 48
theorem pW_mono {a b : Nat} (h : a ≤ b) : pW a ≤ pW b := by
  have hp : ∀ x, pW x = if x = 0 then 0 else if x = 1 then 22 else if x = 2 then 38 else 48 := fun x => by
    match x with
    | 0 => rfl
    | 1 => rfl
    | 2 => rfl
    | n + 3 => rw [if_neg (by omega), if_neg (by omega), if_neg (by omega)]; rfl
  rw [hp, hp]
  repeat' split
  all_goals omega
theorem NE.look {β : Ab} {v : Vl} {x : Str} : ∀ {en : En}, NE β en → lookE en x = some v → NV β v
  | .nil, _, hv => by cases hv
  | .cons y u r, h2, hv => by
    rw [NE] at h2
    unfold lookE at hv
    split at hv
    · cases hv
      exact h2.1
    · exact NE.look h2.2 hv
/-- the number of a chain -/
inductive AB : Ab → Nat → Prop
  | none {n : Nat} : AB .none n
  | some {e : TE} {en : En} {ab β : Ab} {m n : Nat} (h1 : NA β ab) (h2 : NE β en) (h3 : AB β m) (h4 : (hh e - aL (lenA ab)) + m + pW (lenA ab) ≤ n + pW (lenA β)) : AB (.some e en ab) n
/-- a context and its number -/
def CB (L : List Vl) (en : En) (ab : Ab) (n : Nat) : Prop := ∃ β m, NA β ab ∧ NE β en ∧ (∀ v ∈ L, NV β v) ∧ AB β m ∧ m + pW (lenA ab) ≤ n + pW (lenA β)
section
variable {L L' : List Vl} {en en' : En} {ab ab' : Ab} {n n' : Nat}
theorem CB.mono (h : CB L en ab n) (l : n ≤ n') : CB L en ab n' := by
  obtain ⟨β, m, h1, h2, h3, h4, h5⟩ := h
  exact ⟨β, m, h1, h2, h3, h4, by omega⟩
theorem CB.sub (h : CB L en ab n) (l : ∀ v ∈ L', v ∈ L) : CB L' en ab n := by
  obtain ⟨β, m, h1, h2, h3, h4, h5⟩ := h
  exact ⟨β, m, h1, h2, fun v hv => h3 v (l v hv), h4, h5⟩
theorem CB.bind {v : Vl} {x : Str} (h : CB (v :: L) en ab n) : CB L (.cons x v en) ab n := by
  obtain ⟨β, m, h1, h2, h3, h4, h5⟩ := h
  exact ⟨β, m, h1, by rw [NE]; exact ⟨h3 v List.mem_cons_self, h2⟩, fun w hw => h3 w (List.mem_cons_of_mem _ hw), h4, h5⟩
theorem CB.drop {v : Vl} {x : Str} (h : CB L (.cons x v en) ab n) : CB L en ab n := by
  obtain ⟨β, m, h1, h2, h3, h4, h5⟩ := h
  rw [NE] at h2
  exact ⟨β, m, h1, h2.2, h3, h4, h5⟩
theorem CB.look {v : Vl} {x : Str} (h : CB L en ab n) (hv : lookE en x = some v) : CB (v :: L) en ab n := by
  obtain ⟨β, m, h1, h2, h3, h4, h5⟩ := h
  refine ⟨β, m, h1, h2, fun w hw => ?_, h4, h5⟩
  rcases List.mem_cons.mp hw with rfl | hw
  · exact NE.look h2 hv
  · exact h3 w hw
theorem CB.int {i : Int} (h : CB L en ab n) : CB (.int i :: L) en ab n := by
  obtain ⟨β, m, h1, h2, h3, h4, h5⟩ := h
  refine ⟨β, m, h1, h2, fun w hw => ?_, h4, h5⟩
  rcases List.mem_cons.mp hw with rfl | hw
  · rw [NV]; trivial
  · exact h3 w hw
theorem CB.func {k : Int} {x : Str} {b : TE} (h : CB L en ab n) : CB (.fn k x b en ab :: L) en ab n := by
  obtain ⟨β, m, h1, h2, h3, h4, h5⟩ := h
  refine ⟨β, m, h1, h2, fun w hw => ?_, h4, h5⟩
  rcases List.mem_cons.mp hw with rfl | hw
  · rw [NV]; exact ⟨h2, h1⟩
  · exact h3 w hw
/-- a value that hangs on another base comes in -/
theorem CB.join {β β2 : Ab} {m m2 : Nat} {w : Vl} (h1 : NA β ab) (h2 : NE β en) (h3 : ∀ v ∈ L, NV β v) (h4 : AB β m) (h5 : m + pW (lenA ab) ≤ n + pW (lenA β)) (hn : n ≤ n') (q1 : NA β2 β ∨ NA β β2) (q2 : NV β2 w) (q3 : AB β2 m2) (q4 : m2 + pW (lenA ab) ≤ n' + pW (lenA β2)) : CB (w :: L) en ab n' := by
  rcases q1 with q1 | q1
  · refine ⟨β2, m2, NA.low q1 h1, NE.low q1 h2, fun v hv => ?_, q3, q4⟩
    rcases List.mem_cons.mp hv with rfl | hv
    · exact q2
    · exact NV.low q1 (h3 v hv)
  · refine ⟨β, m, h1, h2, fun v hv => ?_, h4, by omega⟩
    rcases List.mem_cons.mp hv with rfl | hv
    · exact NV.low q1 q2
    · exact h3 v hv
/-- into the body of a function of the same level -/
theorem CB.call {k : Int} {x y : Str} {b : TE} {v : Vl} (h : CB L en ab n) (hf : .fn k x b en' ab' ∈ L) (hv : v ∈ L) (hl : lenA ab' = lenA ab) : CB [] (.cons y v en') ab' n ∧ ∀ w n', n ≤ n' → CB [w] (.cons y v en') ab' n' → CB (w :: L) en ab n' := by
  obtain ⟨β, m, h1, h2, h3, h4, h5⟩ := h
  have f := h3 _ hf
  rw [NV] at f
  refine ⟨⟨β, m, f.2, by rw [NE]; exact ⟨h3 _ hv, f.1⟩, fun v hv => (by cases hv), h4, by rw [hl]; exact h5⟩, fun w n' hn q => ?_⟩
  obtain ⟨β2, m2, q1, q2, q3, q4, q5⟩ := q
  rw [hl] at q5
  exact CB.join h1 h2 h3 h4 h5 hn (NA.cmp f.2 q1) (q3 w List.mem_cons_self) q4 q5
/-- up to a rule -/
theorem CB.up {e : TE} (h : CB L en ab n) (he : hh e + pW (lenA ab) ≤ aL (lenA ab) + pW (lenA ab + 1)) : CB [] .nil (.some e en ab) ((hh e - aL (lenA ab)) + n) ∧ ∀ w n', CB [w] .nil (.some e en ab) ((hh e - aL (lenA ab)) + n + n') → CB (w :: L) en ab (n + n') := by
  obtain ⟨β, m, h1, h2, h3, h4, h5⟩ := h
  refine ⟨⟨_, (hh e - aL (lenA ab)) + n, NA.refl _, by rw [NE]; trivial, fun v hv => (by cases hv), .some h1 h2 h4 (by omega), Nat.le_refl _⟩, fun w n' q => ?_⟩
  obtain ⟨β2, m2, q1, q2, q3, q4, q5⟩ := q
  have hw := q3 w List.mem_cons_self
  have hm : pW (lenA ab) ≤ pW (lenA ab + 1) := pW_mono (Nat.le_succ _)
  have q10 := q1
  rw [NA] at q1
  rcases q1 with q1 | q1
  · subst q1
    have hβ : NA β (.some e en ab) := by rw [NA]; exact .inr ⟨h2, h1⟩
    exact CB.join h1 h2 h3 h4 h5 (by omega) (.inl (NA.refl _)) (NV.low hβ hw) h4 (by omega)
  · rw [lenA] at q5
    exact CB.join h1 h2 h3 h4 h5 (by omega) (NA.cmp h1 q1.2) hw q4 (by omega)
/-- down to what a rule is about -/
theorem CB.down {e : TE} (h : CB L en (.some e en' ab') n) (he : hh e + pW (lenA ab') ≤ aL (lenA ab') + pW (lenA ab' + 1)) (hp : pW (lenA ab' + 1) ≤ pW (lenA ab') + 24) : ∃ n0, CB L en' ab' n0 ∧ n0 + (hh e - aL (lenA ab')) ≤ n ∧ ∀ w n', CB (w :: L) en' ab' (n0 + n') → CB (w :: L) en (.some e en' ab') (n + n' + 24) := by
  obtain ⟨β, m, h1, h2, h3, h4, h5⟩ := h
  have h10 := h1
  have hm : pW (lenA ab') ≤ pW (lenA ab' + 1) := pW_mono (Nat.le_succ _)
  rw [NA] at h1
  rw [lenA] at h5
  have ret : ∀ n0, n0 ≤ n → ∀ w n', CB (w :: L) en' ab' (n0 + n') → CB (w :: L) en (.some e en' ab') (n + n' + 24) := by
    intro n0 hn0 w n' q
    obtain ⟨β2, m2, q1, q2, q3, q4, q5⟩ := q
    have q6 : NA β2 (.some e en' ab') := by rw [NA]; exact .inr ⟨q2, q1⟩
    exact CB.join (n := n) h10 h2 h3 h4 (by rw [lenA]; exact h5) (by omega) (NA.cmp h10 q6) (q3 w List.mem_cons_self) q4 (by rw [lenA]; omega)
  rcases h1 with h1 | h1
  · subst h1
    rw [lenA] at h5
    cases h4 with
    | some g1 g2 g3 g4 =>
      rename_i β' m'
      have hβ : NA β' (.some e en' ab') := by rw [NA]; exact .inr ⟨g2, g1⟩
      have gl := g1.len
      have hle : pW (lenA β') ≤ m' + pW (lenA ab') := by
        have := pW_mono gl
        omega
      refine ⟨m' + pW (lenA ab') - pW (lenA β'), ⟨β', m', g1, g2, fun v hv => NV.low hβ (h3 v hv), g3, by omega⟩, by omega, ret _ (by omega)⟩
  · have gl := h1.2.len
    have hle : pW (lenA β) ≤ m + pW (lenA ab') := by
      have := pW_mono gl
      omega
    refine ⟨m + pW (lenA ab') - pW (lenA β), ⟨β, m, h1.2, h1.1, h3, h4, by omega⟩, by omega, ret _ (by omega)⟩
end
theorem vA_len {c : Nat → Nat} : ∀ {ab : Ab} {m : Nat} {a : Option Str}, vA c m a ab → lenA ab = m
  | .none, m, a, h => by
    rw [vA] at h
    rw [lenA, h.1]
  | .some e en ab, m, a, h => by
    rw [vA] at h
    obtain ⟨m', ns, a', rfl, h1, h2, h3, h4, h5, h6, h7, h8⟩ := h
    rw [lenA, vA_len h8]
section
variable {c : Nat → Nat}
theorem pL_step (hc : ∀ k, 1 ≤ c k) {k : Nat} (h : k ≤ 3) : pL c k = c k * pL c (k + 1) := by
  have hk : k = 0 ∨ k = 1 ∨ k = 2 ∨ k = 3 := by omega
  rcases hk with rfl | rfl | rfl | rfl
  · rfl
  · rfl
  · rfl
  · simp [pL]
theorem pL_pos (hc : ∀ k, 1 ≤ c k) (k : Nat) : 1 ≤ pL c k := by
  unfold pL
  split
  · exact Nat.mul_pos (hc 0) (Nat.mul_pos (hc 1) (Nat.mul_pos (hc 2) (hc 3)))
  · exact Nat.mul_pos (hc 1) (Nat.mul_pos (hc 2) (hc 3))
  · exact Nat.mul_pos (hc 2) (hc 3)
  · exact hc 3
  · exact Nat.le_refl _
theorem pL_le1 (hc : ∀ k, 1 ≤ c k) {k : Nat} (h : k ≤ 3) : pL c (k + 1) ≤ pL c k := by
  rw [pL_step hc h]
  exact Nat.le_mul_of_pos_left _ (hc k)
theorem pL_le0 (hc : ∀ k, 1 ≤ c k) : ∀ {k : Nat}, k ≤ 4 → pL c k ≤ pL c 0
  | 0, _ => Nat.le_refl _
  | k + 1, h => Nat.le_trans (pL_le1 hc (by omega)) (pL_le0 hc (by omega))
/-- a node of the level costs no more than a rule of the next one -/
theorem oc_K (hc : ∀ k, 1 ≤ c k) {k : Nat} (h : k ≤ 3) {e : TE} (he : oc e ≤ c k) : oc e * pL c (k + 1) ≤ pL c 0 := by
  have := Nat.mul_le_mul_right (pL c (k + 1)) he
  rw [← pL_step hc h] at this
  exact Nat.le_trans this (pL_le0 hc (by omega))
end
/-- what an evaluation leaves -/
structure Ev (c : Nat → Nat) (t : Nat) (s : Sta) (r : Rs) (s' : Sta) : Prop where
  fuel : s'.fuel ≤ s.fuel
  outs : (s'.outs.length : Int) ≤ s.outs.length + t + pL c 0 * (s.fuel - s'.fuel)
  val : ∀ v, r = .val v → vV c v
  tb : tok c s'.tb
  low : 0 ≤ s.fuel → -1 ≤ s'.fuel ∧ ∀ v, r = .val v → 0 ≤ s'.fuel
theorem Ev.mono {c : Nat → Nat} {t t' : Nat} {s s' : Sta} {r : Rs} (h : Ev c t s r s') (ht : t ≤ t') : Ev c t' s r s' :=
  ⟨h.fuel, by have := h.outs; omega, h.val, h.tb, h.low⟩
theorem Ev.trans {c : Nat → Nat} {t t' : Nat} {s s1 s' : Sta} {v : Vl} {r : Rs} (h : Ev c t s (.val v) s1) (g : Ev c t' s1 r s') : Ev c (t + t') s r s' := by
  refine ⟨Int.le_trans g.fuel h.fuel, ?_, g.val, g.tb, fun h0 => g.low ((h.low h0).2 v rfl)⟩
  have h1 := h.outs
  have h2 := g.outs
  have e : (pL c 0 : Int) * (s.fuel - s'.fuel) = pL c 0 * (s.fuel - s1.fuel) + pL c 0 * (s1.fuel - s'.fuel) := by
    rw [← Int.mul_add]
    congr 1
    omega
  omega
theorem Ev.same {c : Nat → Nat} {t : Nat} {s : Sta} {r : Rs} (hv : ∀ v, r = .val v → vV c v) (h : tok c s.tb) : Ev c t s r s :=
  ⟨Int.le_refl _, by rw [Int.sub_self, Int.mul_zero]; omega, hv, h, fun h0 => ⟨by omega, fun _ _ => h0⟩⟩
theorem then_some {c : Nat → Nat} {t1 t2 : Nat} {r0 : Option (Rs × Sta)} {f : Vl → Sta → Option (Rs × Sta)} {s : Sta} {R1 R2 : Vl → Sta → Prop} (h : ∃ r s1, r0 = some (r, s1) ∧ Ev c t1 s r s1 ∧ ∀ v, r = .val v → R1 v s1) (g : ∀ v s1, Ev c t1 s (.val v) s1 → R1 v s1 → ∃ r s', f v s1 = some (r, s') ∧ Ev c t2 s1 r s' ∧ ∀ v, r = .val v → R2 v s') : ∃ r s', thenS r0 f = some (r, s') ∧ Ev c (t1 + t2) s r s' ∧ ∀ v, r = .val v → R2 v s' := by
  obtain ⟨r, s1, rfl, h, q⟩ := h
  cases r with
  | val v =>
    obtain ⟨r, s', e, g, p⟩ := g v s1 h (q v rfl)
    exact ⟨r, s', e, h.trans g, p⟩
  | stuck k => exact ⟨_, _, rfl, h.mono (Nat.le_add_right _ _), fun v e => by cases e⟩
  | more => exact ⟨_, _, rfl, h.mono (Nat.le_add_right _ _), fun v e => by cases e⟩
theorem step_some {c : Nat → Nat} {t F : Nat} {f : Sta → Option (Rs × Sta)} {s : Sta} {R : Vl → Sta → Prop} (hF : s.fuel = F) (ht : t ≤ pL c 0) (htb : tok c s.tb) (g : ∀ F', F = F' + 1 → ∃ r s', f { s with fuel := s.fuel - 1 } = some (r, s') ∧ Ev c t { s with fuel := s.fuel - 1 } r s' ∧ ∀ v, r = .val v → R v s') : ∃ r s', stepS s f = some (r, s') ∧ Ev c 0 s r s' ∧ ∀ v, r = .val v → R v s' := by
  unfold stepS
  by_cases h : s.fuel - 1 < 0
  · rw [if_pos h]
    refine ⟨_, _, rfl, ⟨?_, ?_, fun v e => (by cases e), htb, fun h0 => ⟨?_, fun v e => (by cases e)⟩⟩, fun v e => (by cases e)⟩
    · show s.fuel - 1 ≤ s.fuel
      omega
    · show (s.outs.length : Int) ≤ s.outs.length + (0 : Nat) + pL c 0 * (s.fuel - (s.fuel - 1))
      have e : s.fuel - (s.fuel - 1) = 1 := by omega
      rw [e, Int.mul_one]
      omega
    · show -1 ≤ s.fuel - 1
      omega
  · rw [if_neg h]
    obtain ⟨r, s', e, g, p⟩ := g (F - 1) (by omega)
    refine ⟨r, s', e, ⟨?_, ?_, g.val, g.tb, fun h0 => g.low (by show 0 ≤ s.fuel - 1; omega)⟩, p⟩
    · have h1 : s'.fuel ≤ s.fuel - 1 := g.fuel
      omega
    · have h1 : (s'.outs.length : Int) ≤ s.outs.length + t + pL c 0 * (s.fuel - 1 - s'.fuel) := g.outs
      have e : (pL c 0 : Int) * (s.fuel - s'.fuel) = pL c 0 * (s.fuel - 1 - s'.fuel) + pL c 0 := by
        have z : s.fuel - s'.fuel = (s.fuel - 1 - s'.fuel) + 1 := by omega
        rw [z, Int.mul_add, Int.mul_one]
      omega
theorem say_some {c : Nat → Nat} {k : Int} {v : Vl} {s : Sta} {R : Vl → Sta → Prop} (hv : vV c v) (h : tok c s.tb) (hr : ∀ s' : Sta, s'.fuel = s.fuel → R v s') : ∃ r s', sayS k v s = some (r, s') ∧ Ev c 1 s r s' ∧ ∀ w, r = .val w → R w s' := by
  refine ⟨_, _, rfl, ⟨Int.le_refl _, ?_, fun w e => (by cases e; exact hv), h, fun h0 => ⟨by show -1 ≤ s.fuel; omega, fun _ _ => h0⟩⟩, fun w e => (by cases e; exact hr _ rfl)⟩
  show ((s.outs ++ [(k, shw v)]).length : Int) ≤ s.outs.length + (1 : Nat) + pL c 0 * (s.fuel - s.fuel)
  rw [Int.sub_self, Int.mul_zero, List.length_append]
  simp
/-- a value and the fuel that is left, in a context -/
def Rt (L : List Vl) (en : En) (ab : Ab) (n F : Nat) (v : Vl) (s' : Sta) : Prop := ∃ F' : Nat, F' ≤ F ∧ s'.fuel = F' ∧ CB (v :: L) en ab (n + 24 * (F - F'))
end Zt

set_option Elab.async false
set_option linter.all false
set_option maxRecDepth 100000
set_option maxHeartbeats 4000000
namespace Zt
open PySem L2 PySem.Spec PyProof.Rows Zg
def PF (c : Nat → Nat) (n : Nat) : Prop := ∀ (b : Bool) (k : Nat) (e : TE) (en : En) (ab : Ab) (s : Sta) (F : Nat) (ns : List Str) (a : Option Str) (L : List Vl) (z : Nat), k ≤ 3 → ok c k e ns a → hh e ≤ hL k → oc e ≤ c k → cov en ns → vE c en → vA c k a ab → s.fuel = F → tok c s.tb → (b = true → ch e = true) → CB L en ab z → hh e + z + uL k + 24 * F ≤ n + (if b = true then 1 else 0) →
  ∃ r s', ev n b e en ab (k : Int) s = some (r, s') ∧ Ev c (oc e * pL c (k + 1)) s r s' ∧ ∀ v, r = .val v → Rt L en ab z F v s'
theorem num_some {c : Nat → Nat} {o : Opw} {k : Int} {v1 v2 : Vl} {s : Sta} (h : tok c s.tb) : Ev c 0 s (arith o k v1 v2) s := by
  refine Ev.same (fun v e => ?_) h
  unfold arith at e
  split at e
  · cases e
    rw [vV]
    trivial
  · cases e
theorem num_int {o : Opw} {k : Int} {v1 v2 v : Vl} (h : arith o k v1 v2 = .val v) : ∃ i, v = .int i := by
  unfold arith at h
  split at h
  · cases h
    exact ⟨_, rfl⟩
  · cases h
theorem b_le {k : Nat} (h : k ≤ 3) : bL k ≤ hL k := by
  have hk : k = 0 ∨ k = 1 ∨ k = 2 ∨ k = 3 := by omega
  rcases hk with rfl | rfl | rfl | rfl <;> decide
theorem op_some {c : Nat → Nat} (hc : ∀ k, 1 ≤ c k) {m F k z : Nat} {o : Opw} {v1 v2 : Vl} {s : Sta} {L : List Vl} {en0 : En} {ab0 : Ab} {a0 : Option Str} (ih : PF c m) (hk : k ≤ 3) (h1 : vV c v1) (h2 : vV c v2) (ha : vA c k a0 ab0) (hF : s.fuel = F) (htb : tok c s.tb) (hC : CB L en0 ab0 z) (m1 : v1 ∈ L) (m2 : v2 ∈ L) (hm : ∀ F', F = F' + 1 → bL k + z + uL k + 24 * F' ≤ m) :
    ∃ r s', opS (fun b en ab s => ev m false b en ab (k : Int) s) o (k : Int) v1 v2 s = some (r, s') ∧ Ev c 0 s r s' ∧ ∀ v, r = .val v → Rt L en0 ab0 z F v s' := by
  have num : ∀ v, arith o (k : Int) v1 v2 = .val v → Rt L en0 ab0 z F v s := fun v e => by
    obtain ⟨i, rfl⟩ := num_int e
    exact ⟨F, Nat.le_refl _, hF, (hC.int).mono (Nat.le_add_right _ _)⟩
  cases o with
  | sum => exact ⟨_, _, rfl, num_some htb, num⟩
  | less => exact ⟨_, _, rfl, num_some htb, num⟩
  | call =>
    cases v1 with
    | int i => exact ⟨_, _, rfl, Ev.same (fun v e => by cases e) htb, fun v e => by cases e⟩
    | fn k' x b en ab =>
      show ∃ r s', (if k' = (k : Int) then stepS s fun s => ev m false b (.cons x v2 en) ab (k : Int) s else some (.stuck (k : Int), s)) = some (r, s') ∧ Ev c 0 s r s' ∧ _
      by_cases e : k' = (k : Int)
      · subst e
        rw [if_pos rfl]
        rw [vV] at h1
        obtain ⟨j, ns, a, ej, b1, b2, b3, b4, b5, b6⟩ := h1
        have ej : j = k := by omega
        subst ej
        obtain ⟨g1, g2⟩ := hC.call (y := x) m1 m2 (by rw [vA_len b6, vA_len ha])
        refine step_some hF (oc_K hc hk b2) htb fun F' eF => ?_
        have := hm F' eF
        obtain ⟨r, s', e1, w1, w2⟩ := ih false j b (.cons x v2 en) ab { s with fuel := s.fuel - 1 } F' (x :: ns) a [] z hk b3 (Nat.le_trans b1 (b_le hk)) b2 (cov_cons b4) (by rw [vE]; exact ⟨h2, b5⟩) b6 (by show s.fuel - 1 = _; omega) htb (fun z => by cases z) g1 (by rw [if_neg Bool.false_ne_true]; omega)
        refine ⟨r, s', e1, w1, fun v ev => ?_⟩
        obtain ⟨F2, f1, f2, f3⟩ := w2 v ev
        exact ⟨F2, by omega, f2, (g2 v _ (by omega) f3).mono (by omega)⟩
      · rw [if_neg e]
        exact ⟨_, _, rfl, Ev.same (fun v e => by cases e) htb, fun v e => by cases e⟩
theorem lv_ok {k : Nat} (h : k ≤ 3) : lvok (k : Int) = true := by
  unfold lvok
  rw [Bool.and_eq_true]
  exact ⟨decide_eq_true (by omega), decide_eq_true (by omega)⟩
theorem mul1 {a p : Nat} (h : 1 ≤ p) : 1 ≤ (1 + a) * p := Nat.mul_pos (by omega) h
theorem mulS {a p : Nat} : a * p ≤ (1 + a) * p := Nat.mul_le_mul_right _ (by omega)
theorem mul2 {a b p : Nat} : a * p + b * p ≤ (1 + (a + b)) * p := by
  rw [← Nat.add_mul]
  exact Nat.mul_le_mul_right _ (by omega)
theorem part_some {c : Nat → Nat} {k i : Nat} {e : TE} {ns : List Str} {a : Option Str} (h : ok c k e ns a) (hp : i < parN (wd e)) : ∃ p, partAt e i = some p ∧ ok c k p ns a ∧ hh p + 2 ≤ hh e ∧ oc p ≤ oc e := by
  cases e with
  | op o x y =>
    have hw : parN (wd (.op o x y)) = 2 := by cases o <;> rfl
    rw [hw] at hp
    rw [ok] at h
    rw [hh, oc]
    match i, hp with
    | 0, _ => exact ⟨x, rfl, h.1, by omega, by omega⟩
    | 1, _ => exact ⟨y, rfl, h.2, by omega, by omega⟩
    | n + 2, hp => omega
  | iff t x y =>
    have hw : parN (wd (.iff t x y)) = 3 := rfl
    rw [hw] at hp
    rw [ok] at h
    rw [hh, oc]
    match i, hp with
    | 0, _ => exact ⟨t, rfl, h.1, by omega, by omega⟩
    | 1, _ => exact ⟨x, rfl, h.2.1, by omega, by omega⟩
    | 2, _ => exact ⟨y, rfl, h.2.2, by omega, by omega⟩
    | n + 3, hp => omega
  | lett z x y =>
    have hw : parN (wd (.lett z x y)) = 1 := rfl
    rw [hw] at hp
    rw [ok] at h
    rw [hh, oc]
    match i, hp with
    | 0, _ => exact ⟨x, rfl, h.1, by omega, by omega⟩
    | n + 1, hp => omega
  | say x =>
    have hw : parN (wd (.say x)) = 1 := rfl
    rw [hw] at hp
    rw [ok] at h
    rw [hh, oc]
    match i, hp with
    | 0, _ => exact ⟨x, rfl, h, by omega, by omega⟩
    | n + 1, hp => omega
  | num n => exact absurd hp (by show ¬ i < 0; omega)
  | name x => exact absurd hp (by show ¬ i < 0; omega)
  | fn x b => exact absurd hp (by show ¬ i < 0; omega)
  | rule q r b => exact absurd hp (by show ¬ i < 0; omega)
  | keep q r => exact absurd hp (by show ¬ i < 0; omega)
  | part j => exact absurd hp (by show ¬ i < 0; omega)
  | witha a => exact absurd hp (by show ¬ i < 0; omega)
  | usual => exact absurd hp (by show ¬ i < 0; omega)
  | do1 a => exact absurd hp (by show ¬ i < 0; omega)
  | do2 a b => exact absurd hp (by show ¬ i < 0; omega)
theorem wd_let {e : TE} (h : wd e = "let") (hc : ch e = true) : ∃ x a b, e = .lett x a b := by
  cases e with
  | lett x a b => exact ⟨_, _, _, rfl⟩
  | op o a b => exact absurd h (by cases o <;> first | (show ¬ ("call" : Str) = _; decide +kernel) | (show ¬ ("sum" : Str) = _; decide +kernel) | (show ¬ ("less" : Str) = _; decide +kernel))
  | num n => exact absurd h (by show ¬ ("num" : Str) = _; decide +kernel)
  | name x => exact absurd h (by show ¬ ("name" : Str) = _; decide +kernel)
  | fn x b => exact absurd h (by show ¬ ("fn" : Str) = _; decide +kernel)
  | iff c a b => exact absurd h (by show ¬ ("if" : Str) = _; decide +kernel)
  | say a => exact absurd h (by show ¬ ("say" : Str) = _; decide +kernel)
  | rule q r b => cases hc
  | keep q r => cases hc
  | part i => cases hc
  | witha a => cases hc
  | usual => cases hc
  | do1 a => cases hc
  | do2 a b => cases hc
theorem wd_say {e : TE} (h : wd e = "say") (hc : ch e = true) : ∃ a, e = .say a := by
  cases e with
  | say a => exact ⟨_, rfl⟩
  | op o a b => exact absurd h (by cases o <;> first | (show ¬ ("call" : Str) = _; decide +kernel) | (show ¬ ("sum" : Str) = _; decide +kernel) | (show ¬ ("less" : Str) = _; decide +kernel))
  | num n => exact absurd h (by show ¬ ("num" : Str) = _; decide +kernel)
  | name x => exact absurd h (by show ¬ ("name" : Str) = _; decide +kernel)
  | fn x b => exact absurd h (by show ¬ ("fn" : Str) = _; decide +kernel)
  | iff c a b => exact absurd h (by show ¬ ("if" : Str) = _; decide +kernel)
  | lett x a b => exact absurd h (by show ¬ ("let" : Str) = _; decide +kernel)
  | rule q r b => cases hc
  | keep q r => cases hc
  | part i => cases hc
  | witha a => cases hc
  | usual => cases hc
  | do1 a => cases hc
  | do2 a b => cases hc
theorem wd_op {e : TE} {o : Opw} (h : wd e = o.str) (hc : ch e = true) : ∃ o' a b, e = .op o' a b := by
  cases e with
  | op o a b => exact ⟨_, _, _, rfl⟩
  | num n => exact absurd h (by cases o <;> (show ¬ ("num" : Str) = _; decide +kernel))
  | name x => exact absurd h (by cases o <;> (show ¬ ("name" : Str) = _; decide +kernel))
  | fn x b => exact absurd h (by cases o <;> (show ¬ ("fn" : Str) = _; decide +kernel))
  | iff c a b => exact absurd h (by cases o <;> (show ¬ ("if" : Str) = _; decide +kernel))
  | lett x a b => exact absurd h (by cases o <;> (show ¬ ("let" : Str) = _; decide +kernel))
  | say a => exact absurd h (by cases o <;> (show ¬ ("say" : Str) = _; decide +kernel))
  | rule q r b => cases hc
  | keep q r => cases hc
  | part i => cases hc
  | witha a => cases hc
  | usual => cases hc
  | do1 a => cases hc
  | do2 a b => cases hc
end Zt

set_option Elab.async false
set_option linter.all false
set_option maxRecDepth 100000
set_option maxHeartbeats 4000000
namespace Zt
open PySem L2 PySem.Spec PyProof.Rows Zg
theorem down_int {j : Nat} : ((j + 1 : Nat) : Int) - 1 = (j : Int) := by omega
theorem up_int {j : Nat} : (j : Int) + 1 = ((j + 1 : Nat) : Int) := by omega
/-- the budgets of the levels -/
theorem b_rule {k : Nat} (h : k < 3) : 1 + hL (k + 1) + uL (k + 1) ≤ uL k + 2 := by
  have hk : k = 0 ∨ k = 1 ∨ k = 2 := by omega
  rcases hk with rfl | rfl | rfl <;> decide
theorem a_pos {k : Nat} : 4 ≤ aL k := by
  unfold aL
  split <;> omega
theorem b_call {k : Nat} (h : k ≤ 3) : 4 + bL k ≤ 28 := by
  have hk : k = 0 ∨ k = 1 ∨ k = 2 ∨ k = 3 := by omega
  rcases hk with rfl | rfl | rfl | rfl <;> decide
theorem b_part {j : Nat} (h : j < 3) : uL j + aL j ≤ uL (j + 1) + 26 := by
  have hk : j = 0 ∨ j = 1 ∨ j = 2 := by omega
  rcases hk with rfl | rfl | rfl <;> decide
theorem b_do {j : Nat} (h : j < 3) : 3 + bL j + uL j ≤ 3 + uL (j + 1) + 48 := by
  have hk : j = 0 ∨ j = 1 ∨ j = 2 := by omega
  rcases hk with rfl | rfl | rfl <;> decide
theorem b_w {j : Nat} (h : j < 3) : hL j + pW j ≤ aL j + pW (j + 1) ∧ pW (j + 1) ≤ pW j + 24 := by
  have hk : j = 0 ∨ j = 1 ∨ j = 2 := by omega
  rcases hk with rfl | rfl | rfl <;> decide
section
variable {L : List Vl} {en : En} {ab : Ab} {z F : Nat} {v : Vl} {s : Sta}
theorem Rt.step {F1 : Nat} (h : F1 ≤ F) (q : Rt L en ab (z + 24 * (F - F1)) F1 v s) : Rt L en ab z F v s := by
  obtain ⟨F2, f1, f2, f3⟩ := q
  exact ⟨F2, by omega, f2, f3.mono (by omega)⟩
theorem Rt.drop {x : Str} {u : Vl} (q : Rt L (.cons x u en) ab z F v s) : Rt L en ab z F v s := by
  obtain ⟨F2, f1, f2, f3⟩ := q
  exact ⟨F2, f1, f2, f3.drop⟩
theorem Rt.sub {u : Vl} (q : Rt (u :: L) en ab z F v s) : Rt L en ab z F v s := by
  obtain ⟨F2, f1, f2, f3⟩ := q
  exact ⟨F2, f1, f2, f3.sub fun w hw => by
    rcases List.mem_cons.mp hw with rfl | hw
    · exact List.mem_cons_self
    · exact List.mem_cons_of_mem _ (List.mem_cons_of_mem _ hw)⟩
theorem Rt.now (q : CB (v :: L) en ab z) (h : s.fuel = F) : Rt L en ab z F v s := ⟨F, Nat.le_refl _, h, q.mono (Nat.le_add_right _ _)⟩
theorem CB.tail {u : Vl} (h : CB (u :: L) en ab z) : CB L en ab z := h.sub fun w hw => List.mem_cons_of_mem _ hw
end
section
variable {c : Nat → Nat}
theorem given_some (hc : ∀ k, 1 ≤ c k) {n : Nat} (ih : ∀ m, m < n + 1 → PF c m) {k : Nat} {e : TE} {en : En} {ab : Ab} {s : Sta} {F : Nat} {ns : List Str} {a : Option Str} {L : List Vl} {z : Nat} (hk : k ≤ 3) (h1 : ok c k e ns a) (hb : hh e ≤ hL k) (ho : oc e ≤ c k) (h2 : cov en ns) (h3 : vE c en) (h4 : vA c k a ab) (hF : s.fuel = F) (htb : tok c s.tb) (hch : ch e = true) (hC : CB L en ab z) (hn : hh e + z + uL k + 24 * F ≤ n + 2) :
    ∃ r s', ev (n + 1) true e en ab (k : Int) s = some (r, s') ∧ Ev c (oc e * pL c (k + 1)) s r s' ∧ ∀ v, r = .val v → Rt L en ab z F v s' := by
  have hp := pL_pos hc (k + 1)
  have sub : ∀ (m : Nat) (e' : TE) (en' : En) (ns' : List Str) (s1 : Sta) (F1 : Nat) (L1 : List Vl) (z1 : Nat), m < n + 1 → ok c k e' ns' a → hh e' ≤ hL k → oc e' ≤ c k → cov en' ns' → vE c en' → s1.fuel = F1 → tok c s1.tb → CB L1 en' ab z1 → hh e' + z1 + uL k + 24 * F1 ≤ m → ∃ r s', ev m false e' en' ab (k : Int) s1 = some (r, s') ∧ Ev c (oc e' * pL c (k + 1)) s1 r s' ∧ ∀ v, r = .val v → Rt L1 en' ab z1 F1 v s' := fun m e' en' ns' s1 F1 L1 z1 hm g1 gb go g2 g3 gF gt gC gn =>
    ih m hm false k e' en' ab s1 F1 ns' a L1 z1 hk g1 gb go g2 g3 h4 gF gt (fun z => by cases z) gC (by rw [if_neg Bool.false_ne_true]; omega)
  have hpos : ∀ x : TE, 1 ≤ hh x := hh_pos
  cases e with
  | num i => exact ⟨_, _, rfl, Ev.same (fun v e => by cases e; rw [vV]; trivial) htb, fun v e => (by cases e; exact Rt.now hC.int hF)⟩
  | name x =>
    rw [ok] at h1
    obtain ⟨v, hv⟩ := h2 x h1
    refine ⟨.val v, s, ?_, Ev.same (fun w e => by cases e; exact vE_look h3 hv) htb, fun w e => (by cases e; exact Rt.now (hC.look hv) hF)⟩
    show (match lookE en x with
      | some v => some (Rs.val v, s)
      | none => none) = _
    rw [hv]
  | fn x b =>
    rw [ok] at h1
    refine ⟨_, _, rfl, Ev.same (fun w e => ?_) htb, fun w e => (by cases e; exact Rt.now hC.func hF)⟩
    cases e
    rw [vV]
    exact ⟨k, ns, a, rfl, h1.1, h1.2.1, h1.2.2, h2, h3, h4⟩
  | lett x e f =>
    rw [ok] at h1
    rw [hh] at hn hb
    rw [oc] at ho
    rw [ev_tlet]
    obtain ⟨r, s', e1, q, p⟩ := then_some (c := c) (R2 := Rt L en ab z F) (sub n e en ns s F L z (by omega) h1.1 (by omega) (by omega) h2 h3 hF htb hC (by omega)) fun v s1 g ⟨F1, f1, f2, f3⟩ => by
      obtain ⟨r, s', e1, q, p⟩ := sub n f (.cons x v en) (x :: ns) s1 F1 L (z + 24 * (F - F1)) (by omega) h1.2 (by omega) (by omega) (cov_cons h2) (by rw [vE]; exact ⟨g.val _ rfl, h3⟩) f2 g.tb f3.bind (by omega)
      exact ⟨r, s', e1, q, fun w ew => Rt.step f1 (p w ew).drop⟩
    refine ⟨r, s', e1, q.mono ?_, p⟩
    rw [oc]
    exact mul2
  | iff t e f =>
    rw [ok] at h1
    rw [hh] at hn hb
    rw [oc] at ho
    rw [ev_tif]
    obtain ⟨r, s', e1, q, p⟩ := then_some (c := c) (t2 := (oc e + oc f) * pL c (k + 1)) (R2 := Rt L en ab z F) (sub n t en ns s F L z (by omega) h1.1 (by omega) (by omega) h2 h3 hF htb hC (by omega)) (f := fun v s => (match v with
      | .int i => ev n false (if i = 0 then f else e) en ab k s
      | .fn _ _ _ _ _ => some (.stuck k, s))) fun v s1 g ⟨F1, f1, f2, f3⟩ => by
        cases v with
        | fn k' x b en' ab' => exact ⟨_, _, rfl, Ev.same (fun v e => by cases e) g.tb, fun v e => by cases e⟩
        | int i =>
          by_cases e0 : i = 0
          · obtain ⟨r, s', e2, q, p⟩ := sub n f en ns s1 F1 L (z + 24 * (F - F1)) (by omega) h1.2.2 (by omega) (by omega) h2 h3 f2 g.tb f3.tail (by omega)
            refine ⟨r, s', ?_, q.mono (Nat.mul_le_mul_right _ (Nat.le_add_left _ _)), fun w ew => Rt.step f1 (p w ew)⟩
            show ev n false (if i = 0 then f else e) en ab k s1 = _
            rw [if_pos e0]
            exact e2
          · obtain ⟨r, s', e2, q, p⟩ := sub n e en ns s1 F1 L (z + 24 * (F - F1)) (by omega) h1.2.1 (by omega) (by omega) h2 h3 f2 g.tb f3.tail (by omega)
            refine ⟨r, s', ?_, q.mono (Nat.mul_le_mul_right _ (Nat.le_add_right _ _)), fun w ew => Rt.step f1 (p w ew)⟩
            show ev n false (if i = 0 then f else e) en ab k s1 = _
            rw [if_neg e0]
            exact e2
    refine ⟨r, s', e1, q.mono ?_, p⟩
    rw [oc]
    exact mul2
  | say e =>
    rw [ok] at h1
    rw [hh] at hn hb
    rw [oc] at ho
    obtain ⟨m, rfl⟩ : ∃ m, n = m + 1 := ⟨n - 1, by have := hpos e; omega⟩
    rw [ev_tsay]
    obtain ⟨r, s', e1, q, p⟩ := then_some (c := c) (R2 := Rt L en ab z F) (sub m e en ns s F L z (by omega) h1 (by omega) (by omega) h2 h3 hF htb hC (by omega)) fun v s1 g ⟨F1, f1, f2, f3⟩ => say_some (k := (k : Int)) (g.val _ rfl) g.tb fun s' e => ⟨F1, f1, by omega, f3⟩
    refine ⟨r, s', e1, q.mono ?_, p⟩
    rw [oc, Nat.add_mul]
    omega
  | op o e f =>
    rw [ok] at h1
    rw [hh] at hn hb
    rw [oc] at ho
    obtain ⟨m, rfl⟩ : ∃ m, n = m + 2 := ⟨n - 2, by have := hpos e; omega⟩
    rw [ev_top]
    obtain ⟨r, s', e1, q, p⟩ := then_some (c := c) (t2 := oc f * pL c (k + 1)) (R2 := Rt L en ab z F) (sub (m + 1) e en ns s F L z (by omega) h1.1 (by omega) (by omega) h2 h3 hF htb hC (by omega)) (f := fun v1 s => thenS (ev (m + 1) false f en ab k s) fun v2 s => opS (fun b en ab s => ev m false b en ab k s) o k v1 v2 s) fun v1 s1 g ⟨F1, f1, f2, f3⟩ => by
      obtain ⟨r, s', e1, q, p⟩ := then_some (c := c) (t2 := 0) (R2 := Rt (v1 :: L) en ab (z + 24 * (F - F1)) F1) (sub (m + 1) f en ns s1 F1 (v1 :: L) (z + 24 * (F - F1)) (by omega) h1.2 (by omega) (by omega) h2 h3 f2 g.tb f3 (by omega)) (f := fun v2 s => opS (fun b en ab s => ev m false b en ab k s) o k v1 v2 s) fun v2 s2 g2 ⟨F2, p1, p2, p3⟩ => by
        obtain ⟨r, s', e1, q, p⟩ := op_some hc (k := k) (o := o) (v1 := v1) (v2 := v2) (ih m (by omega)) hk (g.val _ rfl) (g2.val _ rfl) h4 p2 g2.tb p3 (List.mem_cons_of_mem _ List.mem_cons_self) List.mem_cons_self fun F' eF => by
          have := b_call hk
          have := hpos e
          omega
        exact ⟨r, s', e1, q, fun w ew => Rt.step p1 (p w ew).sub⟩
      exact ⟨r, s', e1, q, fun w ew => Rt.step f1 (p w ew).sub⟩
    refine ⟨r, s', e1, q.mono ?_, p⟩
    rw [oc]
    exact mul2
  | rule q r b => cases hch
  | keep q r => cases hch
  | part i => cases hch
  | witha a => cases hch
  | usual => cases hch
  | do1 a => cases hch
  | do2 a b => cases hch
theorem CB.bind2 {L : List Vl} {en : En} {ab : Ab} {n : Nat} {v : Vl} {x : Str} (h : CB (v :: L) en ab n) : CB (v :: L) (.cons x v en) ab n := by
  obtain ⟨β, m, h1, h2, h3, h4, h5⟩ := h
  exact ⟨β, m, h1, by rw [NE]; exact ⟨h3 v List.mem_cons_self, h2⟩, h3, h4, h5⟩
theorem Rt.ret {L : List Vl} {en en1 : En} {ab ab1 : Ab} {z z0 F F' : Nat} {w : Vl} {s : Sta} (d : ∀ w n', CB (w :: L) en1 ab1 (z0 + n') → CB (w :: L) en ab (z + n' + 24)) (eF : F = F' + 1) (q : Rt L en1 ab1 z0 F' w s) : Rt L en ab z F w s := by
  obtain ⟨F2, f1, f2, f3⟩ := q
  exact ⟨F2, by omega, f2, (d w _ f3).mono (by omega)⟩
theorem all_PF (hc : ∀ k, 1 ≤ c k) : ∀ n, PF c n := by
  intro n
  induction n using Nat.strongRecOn with
  | ind n ih =>
  intro b k e en ab s F ns a L z hk h1 hb ho h2 h3 h4 hF htb hch hC hn
  have hp := hh_pos e
  cases n with
  | zero =>
    cases b with
    | false => rw [if_neg Bool.false_ne_true] at hn; omega
    | true =>
      have := hh_ch (hch rfl)
      rw [if_pos rfl] at hn
      omega
  | succ n =>
  cases b with
  | true => exact given_some hc ih hk h1 hb ho h2 h3 h4 hF htb (hch rfl) hC hn
  | false =>
  rw [if_neg Bool.false_ne_true] at hn
  have hq := pL_pos hc (k + 1)
  have hlen := vA_len h4
  cases hce : ch e with
  | true =>
    rw [ev_ch hce]
    have h22 := hh_ch hce
    cases hr : s.tb (k : Int) (wd e) with
    | none =>
      exact ih n (by omega) true k e en ab s F ns a L z hk h1 hb ho h2 h3 h4 hF htb (fun _ => hce) hC (by rw [if_pos rfl]; omega)
    | some r =>
      obtain ⟨m, em, m3, r1, r2, r3⟩ := htb _ _ _ hr
      have em : m = k := by omega
      subst em
      have hbu := b_rule m3
      have ha := a_pos (k := m)
      have hw := b_w m3
      obtain ⟨u1, u2⟩ := hC.up (e := e) (by rw [hlen]; omega)
      rw [hlen] at u1 u2
      obtain ⟨r', s', e1, q, p⟩ := ih n (by omega) false (m + 1) r .nil (.some e en ab) s F [] (some (wd e)) [] ((hh e - aL m) + z) (by omega) r3 r1 r2 (fun x hx => by cases hx) (by rw [vE]; trivial) (by rw [vA]; exact ⟨m, ns, a, rfl, rfl, hce, hb, ho, h1, h2, h3, h4⟩) hF htb (fun z => by cases z) u1 (by rw [if_neg Bool.false_ne_true]; omega)
      refine ⟨r', s', ?_, q.mono ?_, fun v ev => ?_⟩
      · show ev n false r .nil (.some e en ab) ((m : Int) + 1) s = _
        rw [up_int]
        exact e1
      · have w1 := Nat.mul_le_mul_right (pL c (m + 1 + 1)) r2
        rw [← pL_step hc (by omega)] at w1
        exact Nat.le_trans w1 (Nat.le_mul_of_pos_left _ (oc_pos e))
      · obtain ⟨F2, f1, f2, f3⟩ := p v ev
        exact ⟨F2, f1, f2, u2 v _ f3⟩
  | false =>
  have sub : ∀ (m : Nat) (e' : TE) (en' : En) (ns' : List Str) (s1 : Sta) (F1 : Nat) (L1 : List Vl) (z1 : Nat), m < n + 1 → ok c k e' ns' a → hh e' ≤ hL k → oc e' ≤ c k → cov en' ns' → vE c en' → s1.fuel = F1 → tok c s1.tb → CB L1 en' ab z1 → hh e' + z1 + uL k + 24 * F1 ≤ m → ∃ r s', ev m false e' en' ab (k : Int) s1 = some (r, s') ∧ Ev c (oc e' * pL c (k + 1)) s1 r s' ∧ ∀ v, r = .val v → Rt L1 en' ab z1 F1 v s' := fun m e' en' ns' s1 F1 L1 z1 hm g1 gb go g2 g3 gF gt gC gn =>
    ih m hm false k e' en' ab s1 F1 ns' a L1 z1 hk g1 gb go g2 g3 h4 gF gt (fun z => by cases z) gC (by rw [if_neg Bool.false_ne_true]; omega)
  cases e with
  | rule q r b =>
    rw [ok] at h1
    rw [hh] at hn hb
    rw [oc] at ho
    obtain ⟨⟨g1, g2, g3, g4, g5⟩, h1⟩ := h1
    have htb2 : tok c (tset s.tb (k : Int) q (some r)) := tok_set htb fun r' e => by cases e; exact ⟨g1, g3, g4, g5⟩
    obtain ⟨r', s', e1, w, p⟩ := sub n b en ns { s with tb := tset s.tb (k : Int) q (some r) } F L z (by omega) h1 (by omega) (by omega) h2 h3 hF htb2 hC (by omega)
    have w := w.mono (mulS (a := oc b) (p := pL c (k + 1)))
    rw [ev_rule (lv_ok hk), e1, oc]
    have wf : s'.fuel ≤ s.fuel := w.fuel
    have wo : (s'.outs.length : Int) ≤ s.outs.length + ((1 + oc b) * pL c (k + 1) : Nat) + pL c 0 * (s.fuel - s'.fuel) := w.outs
    cases r' with
    | stuck j => exact ⟨_, _, rfl, ⟨wf, wo, w.val, w.tb, w.low⟩, p⟩
    | more => exact ⟨_, _, rfl, ⟨wf, wo, w.val, w.tb, w.low⟩, p⟩
    | val v =>
      refine ⟨_, _, rfl, ⟨wf, wo, w.val, ?_, w.low⟩, fun u eu => ?_⟩
      · refine tok_set w.tb fun r' e => ?_
        obtain ⟨m, em, z⟩ := htb _ _ _ e
        have em : m = k := by omega
        subst em
        exact z
      · obtain ⟨F2, f1, f2, f3⟩ := p u eu
        exact ⟨F2, f1, f2, f3⟩
  | keep q r =>
    rw [ok] at h1
    rw [ev_keep (lv_ok hk), oc]
    refine ⟨_, _, rfl, ⟨Int.le_refl _, ?_, fun v e => (by cases e; rw [vV]; trivial), tok_set htb fun r' e => (by cases e; exact ⟨h1.1, h1.2.2.1, h1.2.2.2.1, h1.2.2.2.2⟩), fun h0 => ⟨by show -1 ≤ s.fuel; omega, fun _ _ => h0⟩⟩, fun v e => (by cases e; exact Rt.now hC.int hF)⟩
    show (s.outs.length : Int) ≤ s.outs.length + (1 * pL c (k + 1) : Nat) + pL c 0 * (s.fuel - s.fuel)
    rw [Int.sub_self, Int.mul_zero]
    omega
  | part i =>
    rw [ok] at h1
    obtain ⟨q, eq, hi⟩ := h1
    rw [hh] at hn
    rw [ev_part]
    cases ab with
    | none =>
      rw [vA] at h4
      rw [h4.2] at eq
      cases eq
    | some e1 en1 ab1 =>
      rw [vA] at h4
      obtain ⟨j, ns1, a1, rfl, ea, c1, c2, c3, c4, c5, c6, c7⟩ := h4
      rw [eq] at ea
      cases ea
      obtain ⟨p, hp1, hp2, hp3, hp4⟩ := part_some c4 hi
      have hw := b_w (j := j) (by omega)
      have hbp := b_part (j := j) (by omega)
      have hl1 := vA_len c7
      obtain ⟨z0, d1, d2, d3⟩ := hC.down (by rw [hl1]; omega) (by rw [hl1]; omega)
      rw [hl1] at d2
      dsimp only
      rw [hp1]
      dsimp only
      rw [down_int]
      obtain ⟨r, s', e2, w, p⟩ := step_some (c := c) (R := Rt L en (.some e1 en1 ab1) z F) (f := fun s => ev n false p en1 ab1 (j : Int) s) hF (oc_K hc (k := j) (by omega) (e := p) (by omega)) htb fun F' eF => by
        obtain ⟨r, s', e2, w, q⟩ := ih n (by omega) false j p en1 ab1 { s with fuel := s.fuel - 1 } F' ns1 a1 L z0 (by omega) hp2 (by omega) (by omega) c5 c6 c7 (by show s.fuel - 1 = _; omega) htb (fun z => by cases z) d1 (by
          rw [if_neg Bool.false_ne_true]
          omega)
        exact ⟨r, s', e2, w, fun v ev => Rt.ret d3 eF (q v ev)⟩
      exact ⟨r, s', e2, w.mono (Nat.zero_le _), p⟩
  | usual =>
    rw [ok] at h1
    obtain ⟨q, eq⟩ := h1
    rw [hh] at hn
    rw [ev_usual]
    cases ab with
    | none =>
      rw [vA] at h4
      rw [h4.2] at eq
      cases eq
    | some e1 en1 ab1 =>
      rw [vA] at h4
      obtain ⟨j, ns1, a1, rfl, ea, c1, c2, c3, c4, c5, c6, c7⟩ := h4
      have hw := b_w (j := j) (by omega)
      have hbp := b_part (j := j) (by omega)
      have hl1 := vA_len c7
      obtain ⟨z0, d1, d2, d3⟩ := hC.down (by rw [hl1]; omega) (by rw [hl1]; omega)
      rw [hl1] at d2
      dsimp only
      rw [down_int]
      obtain ⟨r, s', e2, w, p⟩ := step_some (c := c) (R := Rt L en (.some e1 en1 ab1) z F) (f := fun s => ev n true e1 en1 ab1 (j : Int) s) hF (oc_K hc (k := j) (by omega) c3) htb fun F' eF => by
        obtain ⟨r, s', e2, w, q⟩ := ih n (by omega) true j e1 en1 ab1 { s with fuel := s.fuel - 1 } F' ns1 a1 L z0 (by omega) c4 c2 c3 c5 c6 c7 (by show s.fuel - 1 = _; omega) htb (fun z => c1) d1 (by
          rw [if_pos rfl]
          omega)
        exact ⟨r, s', e2, w, fun v ev => Rt.ret d3 eF (q v ev)⟩
      exact ⟨r, s', e2, w.mono (Nat.zero_le _), p⟩
  | witha e =>
    rw [ok] at h1
    obtain ⟨eq, h1⟩ := h1
    rw [hh] at hn hb
    rw [oc] at ho
    cases ab with
    | none =>
      rw [vA] at h4
      rw [h4.2] at eq
      cases eq
    | some e1 en1 ab1 =>
      have h40 := h4
      rw [vA] at h4
      obtain ⟨j, ns1, a1, rfl, ea, c1, c2, c3, c4, c5, c6, c7⟩ := h4
      rw [eq] at ea
      obtain ⟨x, ea1, eb, rfl⟩ := wd_let (Option.some.inj ea).symm c1
      have hpe := hh_pos e
      obtain ⟨m, rfl⟩ : ∃ m, n = m + 1 := ⟨n - 1, by omega⟩
      have hw := b_w (j := j) (by omega)
      have hbp := b_part (j := j) (by omega)
      have hl1 := vA_len c7
      have c2' := c2
      have c3' := c3
      rw [hh] at c2'
      rw [oc] at c3'
      rw [ok] at c4
      rw [ev_with, down_int]
      obtain ⟨r, s', e2, w, p⟩ := then_some (c := c) (t2 := 0) (R2 := Rt L en (.some (.lett x ea1 eb) en1 ab1) z F) (sub m e en ns s F L z (by omega) h1 (by omega) (by omega) h2 h3 hF htb hC (by omega)) (f := fun v s => stepS s fun s => ev (m + 1) false eb (.cons x v en1) ab1 (j : Int) s) fun v s1 g ⟨F1, f1, f2, f3⟩ => by
        obtain ⟨z0, d1, d2, d3⟩ := f3.down (by rw [hl1]; omega) (by rw [hl1]; omega)
        rw [hl1, hh] at d2
        refine step_some (c := c) (F := F1) (f := fun s => ev (m + 1) false eb (.cons x v en1) ab1 (j : Int) s) f2 (oc_K hc (k := j) (by omega) (e := eb) (by omega)) g.tb fun F' eF => ?_
        obtain ⟨r, s', e2, w, q⟩ := ih (m + 1) (by omega) false j eb (.cons x v en1) ab1 { s1 with fuel := s1.fuel - 1 } F' (x :: ns1) a1 (v :: L) z0 (by omega) c4.2 (by omega) (by omega) (cov_cons c5) (by rw [vE]; exact ⟨g.val _ rfl, c6⟩) c7 (by show s1.fuel - 1 = _; omega) g.tb (fun z => by cases z) d1.bind2 (by
            rw [if_neg Bool.false_ne_true]
            omega)
        exact ⟨r, s', e2, w, fun u eu => Rt.step f1 (Rt.ret d3 eF (q u eu).drop).sub⟩
      exact ⟨r, s', e2, w.mono (by rw [oc]; exact mulS), p⟩
  | do1 e =>
    rw [ok] at h1
    obtain ⟨eq, h1⟩ := h1
    rw [hh] at hn hb
    rw [oc] at ho
    cases ab with
    | none =>
      rw [vA] at h4
      rw [h4.2] at eq
      cases eq
    | some e1 en1 ab1 =>
      have h40 := h4
      rw [vA] at h4
      obtain ⟨j, ns1, a1, rfl, ea, c1, c2, c3, c4, c5, c6, c7⟩ := h4
      rw [eq] at ea
      obtain ⟨ea1, rfl⟩ := wd_say (Option.some.inj ea).symm c1
      have hpe := hh_pos e
      obtain ⟨m, rfl⟩ : ∃ m, n = m + 1 := ⟨n - 1, by omega⟩
      rw [ev_do1]
      obtain ⟨r, s', e2, w, p⟩ := then_some (c := c) (t2 := 0) (R2 := Rt L en (.some (.say ea1) en1 ab1) z F) (sub m e en ns s F L z (by omega) h1 (by omega) (by omega) h2 h3 hF htb hC (by omega)) (f := fun v s => stepS s fun s => sayS (((j + 1 : Nat) : Int) - 1) v s) fun v s1 g ⟨F1, f1, f2, f3⟩ =>
        step_some (c := c) (F := F1) (f := fun s => sayS (((j + 1 : Nat) : Int) - 1) v s) f2 (pL_pos hc 0) g.tb fun F' eF => say_some (g.val _ rfl) g.tb fun s' es => ⟨F', by omega, by rw [es]; show s1.fuel - 1 = _; omega, f3.mono (by omega)⟩
      exact ⟨r, s', e2, w.mono (by rw [oc]; exact mulS), p⟩
  | do2 e f =>
    rw [ok] at h1
    obtain ⟨⟨o0, eq⟩, h1⟩ := h1
    rw [hh] at hn hb
    rw [oc] at ho
    cases ab with
    | none =>
      rw [vA] at h4
      rw [h4.2] at eq
      cases eq
    | some e1 en1 ab1 =>
      have h40 := h4
      rw [vA] at h4
      obtain ⟨j, ns1, a1, rfl, ea, c1, c2, c3, c4, c5, c6, c7⟩ := h4
      rw [eq] at ea
      obtain ⟨o, ea1, eb1, rfl⟩ := wd_op (Option.some.inj ea).symm c1
      have hpe := hh_pos e
      obtain ⟨m, rfl⟩ : ∃ m, n = m + 2 := ⟨n - 2, by omega⟩
      have hbd := b_do (j := j) (by omega)
      have hw := b_w (j := j) (by omega)
      have hl1 := vA_len c7
      rw [ev_do2, down_int]
      obtain ⟨r, s', e2, w, p⟩ := then_some (c := c) (t2 := oc f * pL c (j + 1 + 1)) (R2 := Rt L en (.some (.op o ea1 eb1) en1 ab1) z F) (sub (m + 1) e en ns s F L z (by omega) h1.1 (by omega) (by omega) h2 h3 hF htb hC (by omega)) (f := fun v1 s => thenS (ev (m + 1) false f en (.some (.op o ea1 eb1) en1 ab1) ((j + 1 : Nat) : Int) s) fun v2 s => stepS s fun s => opS (fun b en ab s => ev m false b en ab (j : Int) s) o (j : Int) v1 v2 s) fun v1 s1 g ⟨F1, f1, f2, f3⟩ => by
        obtain ⟨r, s', e2, w, p⟩ := then_some (c := c) (t2 := 0) (R2 := Rt (v1 :: L) en (.some (.op o ea1 eb1) en1 ab1) (z + 24 * (F - F1)) F1) (sub (m + 1) f en ns s1 F1 (v1 :: L) (z + 24 * (F - F1)) (by omega) h1.2 (by omega) (by omega) h2 h3 f2 g.tb f3 (by omega)) (f := fun v2 s => stepS s fun s => opS (fun b en ab s => ev m false b en ab (j : Int) s) o (j : Int) v1 v2 s) fun v2 s2 g2 ⟨F2, p1, p2, p3⟩ => by
          obtain ⟨z0, d1, d2, d3⟩ := p3.down (by rw [hl1]; omega) (by rw [hl1]; omega)
          refine step_some (c := c) (F := F2) (t := 0) p2 (Nat.zero_le _) g2.tb fun F3 eF3 => ?_
          obtain ⟨r, s', e2, w, q⟩ := op_some hc (F := F3) (o := o) (s := { s2 with fuel := s2.fuel - 1 }) (v1 := v1) (v2 := v2) (ih m (by omega)) (by omega : j ≤ 3) (g.val _ rfl) (g2.val _ rfl) c7 (by show s2.fuel - 1 = _; omega) g2.tb d1 (List.mem_cons_of_mem _ List.mem_cons_self) List.mem_cons_self fun F' eF => by omega
          exact ⟨r, s', e2, w, fun u eu => Rt.step p1 (Rt.ret d3 eF3 (q u eu)).sub⟩
        exact ⟨r, s', e2, w, fun u eu => Rt.step f1 (p u eu).sub⟩
      exact ⟨r, s', e2, w.mono (by rw [oc]; exact mul2), p⟩
  | num i => cases hce
  | name x => cases hce
  | fn x b => cases hce
  | op o a b => cases hce
  | iff c a b => cases hce
  | lett x a b => cases hce
  | say a => cases hce
end
end Zt

set_option Elab.async false
set_option linter.all false
set_option maxRecDepth 100000
set_option maxHeartbeats 4000000
namespace Zt
open PySem L2 PySem.Spec PyProof.Rows Zg
/-! ### the programs that are drawn -/
/-- the depth that the law counts -/
def ht : TE → Nat
  | .num _ => 1
  | .name _ => 1
  | .fn _ b => 1 + ht b
  | .op _ a b => 1 + max (ht a) (ht b)
  | .iff c a b => 1 + max (ht c) (max (ht a) (ht b))
  | .lett _ a b => 1 + max (ht a) (ht b)
  | .say a => 1 + ht a
  | .rule _ r b => 1 + max (ht r) (ht b)
  | .keep _ r => 1 + ht r
  | .part _ => 1
  | .usual => 1
  | .witha a => 1 + ht a
  | .do1 a => 1 + ht a
  | .do2 a b => 1 + max (ht a) (ht b)
def sz : TE → Nat
  | .num _ => 1
  | .name _ => 1
  | .fn _ b => 1 + sz b
  | .op _ a b => 1 + (sz a + sz b)
  | .iff c a b => 1 + (sz c + (sz a + sz b))
  | .lett _ a b => 1 + (sz a + sz b)
  | .say a => 1 + sz a
  | .rule _ r b => 1 + (sz r + sz b)
  | .keep _ r => 1 + sz r
  | .part _ => 1
  | .usual => 1
  | .witha a => 1 + sz a
  | .do1 a => 1 + sz a
  | .do2 a b => 1 + (sz a + sz b)
theorem ht_pos (e : TE) : 1 ≤ ht e := by cases e <;> (rw [ht]; omega)
theorem sz_pos (e : TE) : 1 ≤ sz e := by cases e <;> (rw [sz]; omega)
/-- drawn with a depth d, at a level, in names, about a kind -/
def gq (nms : List Str) : Nat → Int → TE → List Str → Option Str → Prop
  | _, _, .num _, _, _ => True
  | _, _, .name x, ns, _ => x ∈ ns
  | d, lv, .fn x b, ns, a => x ∈ nms ∧ hh b + 1 ≤ d + 2 * ht b ∧ gq nms d lv b (ns ++ [x]) a
  | d, lv, .op _ e f, ns, a => gq nms d lv e ns a ∧ gq nms d lv f ns a
  | d, lv, .iff t e f, ns, a => gq nms d lv t ns a ∧ gq nms d lv e ns a ∧ gq nms d lv f ns a
  | d, lv, .lett x e f, ns, a => x ∈ nms ∧ gq nms d lv e ns a ∧ gq nms d lv f (ns ++ [x]) a
  | d, lv, .say e, ns, a => gq nms d lv e ns a
  | d, lv, .rule q r b, ns, a => (∃ d', d = d' + 1 ∧ lv + 1 ≤ 3 ∧ q ∈ kindsL ∧ (hh r ≤ d' + 2 * ht r ∨ hh r ≤ 9) ∧ gq nms d' (lv + 1) r [] (some q)) ∧ gq nms d lv b ns a
  | d, lv, .keep q r, _, _ => ∃ d', d = d' + 1 ∧ lv + 1 ≤ 3 ∧ q ∈ kindsL ∧ (hh r ≤ d' + 2 * ht r ∨ hh r ≤ 9) ∧ gq nms d' (lv + 1) r [] (some q)
  | _, _, .part i, _, a => ∃ q, a = some q ∧ i < parN q
  | _, _, .usual, _, a => ∃ q, a = some q
  | d, lv, .witha e, ns, a => a = some "let" ∧ gq nms d lv e ns a
  | d, lv, .do1 e, ns, a => a = some "say" ∧ gq nms d lv e ns a
  | d, lv, .do2 e f, ns, a => (∃ o : Opw, a = some o.str) ∧ gq nms d lv e ns a ∧ gq nms d lv f ns a
theorem gq_up {nms : List Str} : ∀ {e : TE} {d : Nat} {lv : Int} {ns : List Str} {a : Option Str}, gq nms d lv e ns a → gq nms (d + 1) lv e ns a
  | .num _, d, lv, ns, a, h => by rw [gq] at h ⊢; exact h
  | .name x, d, lv, ns, a, h => by rw [gq] at h ⊢; exact h
  | .fn x b, d, lv, ns, a, h => by rw [gq] at h ⊢; exact ⟨h.1, by have := h.2.1; omega, gq_up h.2.2⟩
  | .op _ e f, d, lv, ns, a, h => by rw [gq] at h ⊢; exact ⟨gq_up h.1, gq_up h.2⟩
  | .iff t e f, d, lv, ns, a, h => by rw [gq] at h ⊢; exact ⟨gq_up h.1, gq_up h.2.1, gq_up h.2.2⟩
  | .lett x e f, d, lv, ns, a, h => by rw [gq] at h ⊢; exact ⟨h.1, gq_up h.2.1, gq_up h.2.2⟩
  | .say e, d, lv, ns, a, h => by rw [gq] at h ⊢; exact gq_up h
  | .rule q r b, d, lv, ns, a, h => by
    rw [gq] at h ⊢
    obtain ⟨⟨d', rfl, h1, h2, h3, h4⟩, h5⟩ := h
    exact ⟨⟨d' + 1, rfl, h1, h2, h3.imp (fun _ => by omega) id, gq_up h4⟩, gq_up h5⟩
  | .keep q r, d, lv, ns, a, h => by
    rw [gq] at h ⊢
    obtain ⟨d', rfl, h1, h2, h3, h4⟩ := h
    exact ⟨d' + 1, rfl, h1, h2, h3.imp (fun _ => by omega) id, gq_up h4⟩
  | .part i, d, lv, ns, a, h => by rw [gq] at h ⊢; exact h
  | .usual, d, lv, ns, a, h => by rw [gq] at h ⊢; exact h
  | .witha e, d, lv, ns, a, h => by rw [gq] at h ⊢; exact ⟨h.1, gq_up h.2⟩
  | .do1 e, d, lv, ns, a, h => by rw [gq] at h ⊢; exact ⟨h.1, gq_up h.2⟩
  | .do2 e f, d, lv, ns, a, h => by rw [gq] at h ⊢; exact ⟨h.1, gq_up h.2.1, gq_up h.2.2⟩
/-- v stands for a program drawn with a depth d -/
def GM (nms : List Str) (lv : Int) (d m : Nat) (H : Hp) (v : V) (ns : List Str) (ab : Option Str) : Prop := ∃ e, RT H e v ∧ gq nms d lv e ns ab ∧ hh e ≤ d + 2 * ht e ∧ ht e ≤ m
def GT (nms : List Str) (lv : Int) (d : Nat) (H : Hp) (v : V) (ns : List Str) (ab : Option Str) : Prop := GM nms lv d (4 + 2 * d) H v ns ab
/-- a rule for the kind a -/
def GR (nms : List Str) (lv : Int) (d : Nat) (H : Hp) (v : V) (a : Str) : Prop := ∃ e, RT H e v ∧ gq nms d lv e [] (some a) ∧ (hh e ≤ d + 2 * ht e ∨ hh e ≤ 9) ∧ ht e ≤ 4 + 2 * d
section
variable {nms : List Str} {lv : Int} {d : Nat} {H H' : Hp} {p p2 : Addr} {ns : List Str} {ab : Option Str} {v v1 v2 v3 : V} {x a : Str}
theorem GT.up (h : GT nms lv d H v ns ab) : GT nms lv (d + 1) H v ns ab := by
  obtain ⟨e, r, g, l, t⟩ := h
  exact ⟨e, r, gq_up g, by omega, by omega⟩
theorem GT.mono {d' : Nat} (h : GT nms lv d H v ns ab) (l : d ≤ d') : GT nms lv d' H v ns ab := by
  induction l with
  | refl => exact h
  | step _ ih => exact ih.up
theorem GT.tups (e : Tups H H') (h : GT nms lv d H v ns ab) : GT nms lv d H' v ns ab := by
  obtain ⟨t, r, g, l, t2⟩ := h
  exact ⟨t, r.tups e, g, l, t2⟩
theorem GM.tups {m : Nat} (e : Tups H H') (h : GM nms lv d m H v ns ab) : GM nms lv d m H' v ns ab := by
  obtain ⟨t, r, g, l, t2⟩ := h
  exact ⟨t, r.tups e, g, l, t2⟩
theorem GM.gt {m : Nat} (h : GM nms lv d m H v ns ab) (hm : m ≤ 4 + 2 * d) : GT nms lv d H v ns ab := by
  obtain ⟨t, r, g, l, t2⟩ := h
  exact ⟨t, r, g, l, by omega⟩
theorem GR.tups (e : Tups H H') (h : GR nms lv d H v a) : GR nms lv d H' v a := by
  obtain ⟨t, r, g, l, t2⟩ := h
  exact ⟨t, r.tups e, g, l, t2⟩
theorem GT.gr (h : GT nms lv d H v [] (some a)) : GR nms lv d H v a := by
  obtain ⟨t, r, g, l, t2⟩ := h
  exact ⟨t, r, g, .inl l, t2⟩
theorem gt_num {i : Int} (h : H p = some (.tup [.str "num", .int i])) : GT nms lv d H (.ref p) ns ab := ⟨.num i, ⟨p, rfl, h⟩, by rw [gq]; trivial, by rw [hh, ht]; omega, by rw [ht]; omega⟩
theorem gt_name (h : H p = some (.tup [.str "name", .str x])) (hx : x ∈ ns) : GT nms lv d H (.ref p) ns ab := ⟨.name x, ⟨p, rfl, h⟩, by rw [gq]; exact hx, by rw [hh, ht]; omega, by rw [ht]; omega⟩
theorem par_of {m : Int} (hk : a ∈ kindsL) (h : partsOf a = some m) : m = (parN a : Int) := by
  have hk : a ∈ (["num", "name", "fn", "call", "sum", "less", "if", "let", "say"] : List Str) := hk
  simp only [List.mem_cons, List.not_mem_nil, or_false] at hk
  rcases hk with rfl | rfl | rfl | rfl | rfl | rfl | rfl | rfl | rfl <;> (cases h; rfl)
theorem gt_part {i m : Int} (h : H p = some (.tup [.str "part", .int i])) (h0 : 0 ≤ i) (hk : a ∈ kindsL) (ha : partsOf a = some m) (h1 : i < m) : GT nms lv d H (.ref p) ns (some a) := by
  have := par_of hk ha
  refine ⟨.part i.toNat, ⟨p, rfl, ?_⟩, by rw [gq]; exact ⟨a, rfl, by omega⟩, by rw [hh, ht]; omega, by rw [ht]; omega⟩
  rw [Int.toNat_of_nonneg h0]
  exact h
theorem gt_usual (h : H p = some (.tup [.str "usual"])) : GT nms lv d H (.ref p) ns (some a) := ⟨.usual, ⟨p, rfl, h⟩, by rw [gq]; exact ⟨a, rfl⟩, by rw [hh, ht]; omega, by rw [ht]; omega⟩
theorem gt_fn (h : H p = some (.tup [.str "fn", .str x, v])) (hx : x ∈ nms) (g : GT nms lv d H v (ns ++ [x]) ab) : GT nms lv (d + 1) H (.ref p) ns ab := by
  obtain ⟨e, r, g, l, t⟩ := g
  exact ⟨.fn x e, ⟨p, v, rfl, h, r⟩, by rw [gq]; exact ⟨hx, by omega, gq_up g⟩, by rw [hh, ht]; omega, by rw [ht]; omega⟩
theorem gt_let (h : H p = some (.tup [.str "let", .str x, v1, v2])) (hx : x ∈ nms) (g1 : GT nms lv d H v1 ns ab) (g2 : GT nms lv d H v2 (ns ++ [x]) ab) : GT nms lv (d + 1) H (.ref p) ns ab := by
  obtain ⟨e, r, g, l, t⟩ := g1
  obtain ⟨f, r2, g2, l2, t2⟩ := g2
  exact ⟨.lett x e f, ⟨p, v1, v2, rfl, h, r, r2⟩, by rw [gq]; exact ⟨hx, gq_up g, gq_up g2⟩, by rw [hh, ht]; omega, by rw [ht]; omega⟩
theorem gt_op {o : Opw} (h : H p = some (.tup [.str o.str, v1, v2])) (g1 : GT nms lv d H v1 ns ab) (g2 : GT nms lv d H v2 ns ab) : GT nms lv (d + 1) H (.ref p) ns ab := by
  obtain ⟨e, r, g, l, t⟩ := g1
  obtain ⟨f, r2, g2, l2, t2⟩ := g2
  exact ⟨.op o e f, ⟨p, v1, v2, rfl, h, r, r2⟩, by rw [gq]; exact ⟨gq_up g, gq_up g2⟩, by rw [hh, ht]; omega, by rw [ht]; omega⟩
/-- the let of a function -/
theorem gt_fnm (h : H p = some (.tup [.str "fn", .str x, v])) (hx : x ∈ nms) (g : GT nms lv d H v (ns ++ [x]) ab) : GM nms lv (d + 1) (5 + 2 * d) H (.ref p) ns ab := by
  obtain ⟨e, r, g, l, t⟩ := g
  exact ⟨.fn x e, ⟨p, v, rfl, h, r⟩, by rw [gq]; exact ⟨hx, by omega, gq_up g⟩, by rw [hh, ht]; omega, by rw [ht]; omega⟩
theorem gt_opm {o : Opw} (h : H p = some (.tup [.str o.str, v1, v2])) (g1 : GT nms lv d H v1 ns ab) (g2 : GT nms lv d H v2 ns ab) : GM nms lv (d + 1) (5 + 2 * d) H (.ref p) ns ab := by
  obtain ⟨e, r, g, l, t⟩ := g1
  obtain ⟨f, r2, g2, l2, t2⟩ := g2
  exact ⟨.op o e f, ⟨p, v1, v2, rfl, h, r, r2⟩, by rw [gq]; exact ⟨gq_up g, gq_up g2⟩, by rw [hh, ht]; omega, by rw [ht]; omega⟩
theorem gt_letm (h : H p = some (.tup [.str "let", .str x, v1, v2])) (hx : x ∈ nms) (g1 : GM nms lv (d + 1) (5 + 2 * d) H v1 ns ab) (g2 : GM nms lv (d + 1) (5 + 2 * d) H v2 (ns ++ [x]) ab) : GT nms lv (d + 1) H (.ref p) ns ab := by
  obtain ⟨e, r, g, l, t⟩ := g1
  obtain ⟨f, r2, g2, l2, t2⟩ := g2
  exact ⟨.lett x e f, ⟨p, v1, v2, rfl, h, r, r2⟩, by rw [gq]; exact ⟨hx, g, g2⟩, by rw [hh, ht]; omega, by rw [ht]; omega⟩
theorem GT.gm (h : GT nms lv d H v ns ab) : GM nms lv (d + 1) (5 + 2 * d) H v ns ab := by
  obtain ⟨e, r, g, l, t⟩ := h
  exact ⟨e, r, gq_up g, by omega, by omega⟩
/-- a call of a function that stands there -/
theorem gt_callfn {w : V} (h : H p = some (.tup [.str "call", .ref p2, v2])) (h2 : H p2 = some (.tup [.str "fn", .str x, w])) (hx : x ∈ nms) (g1 : GT nms lv d H w (ns ++ [x]) ab) (g2 : GT nms lv d H v2 ns ab) : GT nms lv (d + 1) H (.ref p) ns ab := by
  obtain ⟨e, r, g, l, t⟩ := g1
  obtain ⟨f, r2, g2, l2, t2⟩ := g2
  have := ht_pos e
  exact ⟨.op .call (.fn x e) f, ⟨p, _, v2, rfl, h, ⟨p2, w, rfl, h2, r⟩, r2⟩, by rw [gq, gq]; exact ⟨⟨hx, by omega, gq_up g⟩, gq_up g2⟩, by rw [hh, ht, hh, ht]; omega, by rw [ht, ht]; omega⟩
theorem gt_if (h : H p = some (.tup [.str "if", v1, v2, v3])) (g1 : GT nms lv d H v1 ns ab) (g2 : GT nms lv d H v2 ns ab) (g3 : GT nms lv d H v3 ns ab) : GT nms lv (d + 1) H (.ref p) ns ab := by
  obtain ⟨e, r, g, l, t⟩ := g1
  obtain ⟨f, r2, g2, l2, t2⟩ := g2
  obtain ⟨f3, r3, g3, l3, t3⟩ := g3
  exact ⟨.iff e f f3, ⟨p, v1, v2, v3, rfl, h, r, r2, r3⟩, by rw [gq]; exact ⟨gq_up g, gq_up g2, gq_up g3⟩, by rw [hh, ht]; omega, by rw [ht]; omega⟩
theorem gt_say (h : H p = some (.tup [.str "say", v1])) (g1 : GT nms lv d H v1 ns ab) : GT nms lv (d + 1) H (.ref p) ns ab := by
  obtain ⟨e, r, g, l, t⟩ := g1
  exact ⟨.say e, ⟨p, v1, rfl, h, r⟩, by rw [gq]; exact gq_up g, by rw [hh, ht]; omega, by rw [ht]; omega⟩
theorem gt_rule (hlv : lv + 1 ≤ 3) (h : H p = some (.tup [.str "rule", .str x, v1, v2])) (hx : x ∈ kindsL) (g1 : GR nms (lv + 1) d H v1 x) (g2 : GT nms lv d H v2 ns ab) : GT nms lv (d + 1) H (.ref p) ns ab := by
  obtain ⟨e, r, g, l, t⟩ := g1
  obtain ⟨f, r2, g2, l2, t2⟩ := g2
  exact ⟨.rule x e f, ⟨p, v1, v2, rfl, h, r, r2, hx⟩, by rw [gq]; exact ⟨⟨d, rfl, hlv, hx, l, g⟩, gq_up g2⟩, by rw [hh, ht]; omega, by rw [ht]; omega⟩
theorem gt_keep (hlv : lv + 1 ≤ 3) (h : H p = some (.tup [.str "keep", .str x, v1])) (hx : x ∈ kindsL) (g1 : GR nms (lv + 1) d H v1 x) : GT nms lv (d + 1) H (.ref p) ns ab := by
  obtain ⟨e, r, g, l, t⟩ := g1
  exact ⟨.keep x e, ⟨p, v1, rfl, h, r, hx⟩, by rw [gq]; exact ⟨d, rfl, hlv, hx, l, g⟩, by rw [hh, ht]; omega, by rw [ht]; omega⟩
theorem gt_keepm (hlv : lv + 1 ≤ 3) (h : H p = some (.tup [.str "keep", .str x, v1])) (hx : x ∈ kindsL) (g1 : GR nms (lv + 1) d H v1 x) : GM nms lv (d + 1) (5 + 2 * d) H (.ref p) ns ab := by
  obtain ⟨e, r, g, l, t⟩ := g1
  exact ⟨.keep x e, ⟨p, v1, rfl, h, r, hx⟩, by rw [gq]; exact ⟨d, rfl, hlv, hx, l, g⟩, by rw [hh, ht]; omega, by rw [ht]; omega⟩
theorem gt_with (h : H p = some (.tup [.str "with", v1])) (g1 : GT nms lv d H v1 ns (some "let")) : GT nms lv (d + 1) H (.ref p) ns (some "let") := by
  obtain ⟨e, r, g, l, t⟩ := g1
  exact ⟨.witha e, ⟨p, v1, rfl, h, r⟩, by rw [gq]; exact ⟨rfl, gq_up g⟩, by rw [hh, ht]; omega, by rw [ht]; omega⟩
theorem gt_do2 {o : Opw} (h : H p = some (.tup [.str "do", .ref p2])) (h2 : H p2 = some (.tup [v1, v2])) (g1 : GT nms lv d H v1 ns (some o.str)) (g2 : GT nms lv d H v2 ns (some o.str)) : GT nms lv (d + 1) H (.ref p) ns (some o.str) := by
  obtain ⟨e, r, g, l, t⟩ := g1
  obtain ⟨f, r2, g2, l2, t2⟩ := g2
  exact ⟨.do2 e f, ⟨p, p2, v1, v2, rfl, h, h2, r, r2⟩, by rw [gq]; exact ⟨⟨o, rfl⟩, gq_up g, gq_up g2⟩, by rw [hh, ht]; omega, by rw [ht]; omega⟩
theorem gt_do1 (h : H p = some (.tup [.str "do", .ref p2])) (h2 : H p2 = some (.tup [v1])) (g1 : GT nms lv d H v1 ns (some "say")) : GT nms lv (d + 1) H (.ref p) ns (some "say") := by
  obtain ⟨e, r, g, l, t⟩ := g1
  exact ⟨.do1 e, ⟨p, p2, v1, rfl, h, h2, r⟩, by rw [gq]; exact ⟨rfl, gq_up g⟩, by rw [hh, ht]; omega, by rw [ht]; omega⟩
/-- what is drawn as a rule, the small ones -/
theorem gr_usual (h : H p = some (.tup [.str "usual"])) : GR nms lv d H (.ref p) a := (gt_usual h).gr
theorem gr_say (h : H p = some (.tup [.str "say", .ref p2])) (h2 : H p2 = some (.tup [.str "usual"])) : GR nms lv d H (.ref p) a :=
  ⟨.say .usual, ⟨p, _, rfl, h, ⟨p2, rfl, h2⟩⟩, by rw [gq, gq]; exact ⟨a, rfl⟩, .inr (by rw [hh, hh]; omega), by rw [ht, ht]; omega⟩
theorem gr_let {p1 p3 p4 p5 p6 : Addr} {y : Str} {i : Int} (h6 : H p6 = some (.tup [.str "let", .str x, .ref p1, .ref p5])) (h1 : H p1 = some (.tup [.str "num", .int i])) (h5 : H p5 = some (.tup [.str "let", .str y, .ref p3, .ref p4])) (h3 : H p3 = some (.tup [.str "say", .ref p2])) (h2 : H p2 = some (.tup [.str "name", .str x])) (h4 : H p4 = some (.tup [.str "usual"])) (hx : x ∈ nms) (hy : y ∈ nms) : GR nms lv d H (.ref p6) a :=
  ⟨.lett x (.num i) (.lett y (.say (.name x)) .usual), ⟨p6, _, _, rfl, h6, ⟨p1, rfl, h1⟩, ⟨p5, _, _, rfl, h5, ⟨p3, _, rfl, h3, ⟨p2, rfl, h2⟩⟩, ⟨p4, rfl, h4⟩⟩⟩, by rw [gq, gq, gq, gq, gq, gq]; exact ⟨hx, trivial, hy, by simp, a, rfl⟩, .inr (by rw [hh, hh, hh, hh, hh, hh]; omega), by rw [ht, ht, ht, ht, ht, ht]; omega⟩
end
end Zt

set_option Elab.async false
set_option linter.all false
set_option maxRecDepth 100000
set_option maxHeartbeats 4000000
namespace Zt
open PySem L2 PySem.Spec PyProof.Rows Zg
local macro_rules | `(tactic| walk_at "sq") => `(tactic| first | exact SqL.of (by assumption) | exact .inl (SqL.of (by assumption)) | assumption | exact SqT.of (by assumption) | exact .inr (SqT.of (by assumption)) | exact SqL.of upd_same | exact .inl (SqL.of upd_same))
local macro_rules | `(tactic| walk_at "hp") => `(tactic| first | assumption | exact upd_same)
local macro_rules | `(tactic| walk_at "cond") => `(tactic| first | assumption | rfl | (apply And.intro <;> assumption) | decide | (show (0 : Int) < _; decide) | (apply And.intro <;> decide) | (apply Or.inr; apply And.intro <;> decide) | (apply Or.inl; apply And.intro <;> decide))
local macro_rules | `(tactic| walk_at "s") => `(tactic| first
  | (with_reducible apply iteF)
  | (with_reducible apply iteT)
  | (apply e1; rfl)
  | (apply e2; rfl; rfl)
  | (apply e4; rfl; rfl; walk_at "sq"; rfl)
  | (apply e4; rfl; rfl; walk_at "hp"; rfl)
  | (apply e2; rfl; walk_at "sq")
  | (apply eOr; rfl)
  | (apply eOrR; rfl)
  | (apply eTru; walk_at "sq")
  | (apply eTruT; walk_at "sq")
  | (apply And.intro; (walk_at "cond"))
  | (apply iteTr; rfl)
  | (apply iteFr; rfl)
  | (apply iteD; all_goals intro _)
  | (with_reducible apply tNext_i))
local macro_rules | `(tactic| walk_at "g") => `(tactic| repeat' ((fail_if_success (with_reducible apply seq_i)); (fail_if_success (with_reducible apply cut_i)); (walk_at "s")))
local macro_rules | `(tactic| walk_at "size") => `(tactic| first | (simp only [List.length_cons, List.length_nil]; decide) | decide)
local macro_rules | `(tactic| walk_at "newp") => `(tactic| (intro p hp; generalize hH : upd _ _ _ = H1; have st := new_facts hp hH; clear hH; obtain ⟨s, t⟩ := st))
local macro_rules | `(tactic| walk_at "new") => `(tactic| walk_at "g"; first | (apply And.intro; (focus (apply small100; walk_at "size")); walk_at "newp") | (walk_at "newp"))

def abV : Option Str → V
  | none => .non
  | some a => .str a
def NmOk (nms : List Str) : Prop := 10 ≤ nms.length ∧ ∀ x ∈ nms, x ∈ nms
inductive spLeaf : List V → Hp → VK → XK → Prop
  | mk {H : Hp} {c na : Addr} {nms ns : List Str} {ab : Option Str} {Q : VK} {E : XK} (hC : CSt H c nms) (hn : H na = some (.lst (ns.map V.str))) (hne : na ≠ c) (hw : ∀ x ∈ ns, x ∈ nms) (hz : ns.length ≤ 1000)
    (hab : ∀ a, ab = some a → a ∈ kindsL) (q : ∀ v H', CSt H' c nms → Oth c H H' → (∀ lv ns', lv ≤ 3 → (∀ x ∈ ns, x ∈ ns') → GT nms lv 0 H' v ns' ab) → Q v H') : spLeaf [.ref c, .ref na, abV ab] H Q E
inductive spExpr (n : Int) : List V → Hp → VK → XK → Prop
  | mk {H : Hp} {c na : Addr} {nms ns : List Str} {ab : Option Str} {lv dep : Int} {Q : VK} {E : XK} (hC : CSt H c nms) (hN : NmOk nms) (hlv : lv ≤ 3) (hn : H na = some (.lst (ns.map V.str))) (hne : na ≠ c) (hw : ∀ x ∈ ns, x ∈ nms)
    (hd : 0 ≤ dep) (hdn : dep < n) (hz : (ns.length : Int) + dep ≤ 100) (hab : ∀ a, ab = some a → a ∈ kindsL)
    (q : ∀ v H', CSt H' c nms → Oth c H H' → GT nms lv dep.toNat H' v ns ab → Q v H') : spExpr n [.ref c, .int lv, .ref na, abV ab, .int dep] H Q E
inductive spRule (n : Int) : List V → Hp → VK → XK → Prop
  | mk {H : Hp} {c : Addr} {nms : List Str} {a : Str} {lv dep : Int} {Q : VK} {E : XK} (hC : CSt H c nms) (hN : NmOk nms) (hlv : lv + 1 ≤ 3) (hd : 0 ≤ dep) (hdn : dep < n) (hz : dep ≤ 100) (ha : a ∈ kindsL)
    (q : ∀ v H', CSt H' c nms → Oth c H H' → GR nms (lv + 1) dep.toNat H' v a → Q v H') : spRule n [.ref c, .int lv, .str a, .int dep] H Q E
inductive spAsk (n : Int) : List V → Hp → VK → XK → Prop
  | mk {H : Hp} {c na : Addr} {nms ns : List Str} {a : Str} {lv dep : Int} {Q : VK} {E : XK} (hC : CSt H c nms) (hN : NmOk nms) (hlv : lv ≤ 3) (hn : H na = some (.lst (ns.map V.str))) (hne : na ≠ c) (hw : ∀ x ∈ ns, x ∈ nms)
    (hd : 0 ≤ dep) (hdn : dep < n) (hz : (ns.length : Int) + dep ≤ 100) (ha : a ∈ kindsL)
    (q : ∀ v H', CSt H' c nms → Oth c H H' → GT nms lv (dep.toNat + 1) H' v ns (some a) → Q v H') : spAsk n [.ref c, .int lv, .ref na, .str a, .int dep] H Q E
inductive spBinding (n : Int) : List V → Hp → VK → XK → Prop
  | mk {H : Hp} {c na : Addr} {nms ns : List Str} {ab : Option Str} {kk lv dep : Int} {Q : VK} {E : XK} (hC : CSt H c nms) (hN : NmOk nms) (hlv : lv ≤ 3) (hn : H na = some (.lst (ns.map V.str))) (hne : na ≠ c) (hw : ∀ x ∈ ns, x ∈ nms)
    (hd : 1 ≤ dep) (hdn : dep ≤ n) (hz : (ns.length : Int) + dep ≤ 100) (hab : ∀ a, ab = some a → a ∈ kindsL)
    (q : ∀ v H', CSt H' c nms → Oth c H H' → GT nms lv dep.toNat H' v ns ab → Q v H') : spBinding n [.ref c, .int kk, .int lv, .ref na, abV ab, .int dep] H Q E
inductive spChange (n : Int) : List V → Hp → VK → XK → Prop
  | mk {H : Hp} {c na : Addr} {nms ns : List Str} {ab : Option Str} {kk lv dep : Int} {Q : VK} {E : XK} (hC : CSt H c nms) (hN : NmOk nms) (hlv : lv + 1 ≤ 3) (hn : H na = some (.lst (ns.map V.str))) (hne : na ≠ c) (hw : ∀ x ∈ ns, x ∈ nms)
    (hd : 1 ≤ dep) (hdn : dep ≤ n) (hz : (ns.length : Int) + dep ≤ 100) (hab : ∀ a, ab = some a → a ∈ kindsL)
    (q : ∀ v H', CSt H' c nms → Oth c H H' → GT nms lv dep.toNat H' v ns ab → Q v H') : spChange n [.ref c, .int kk, .int lv, .ref na, abV ab, .int dep] H Q E
theorem sIx_natG {n d i : Nat} (h : i ≤ n) : HT.sIx n d (some (i : Int)) = i := by
  rw [HT.sIx_nat, Nat.min_eq_left h]
theorem cut79 {nms : List Str} (h : 10 ≤ nms.length) : ∃ x y, x ∈ nms ∧ y ∈ nms ∧ cutV (nms.map V.str) (some 7) (some 9) = [.str x, .str y] := by
  have h7 : 7 < nms.length := by omega
  have h8 : 8 < nms.length := by omega
  refine ⟨nms[7], nms[8], List.getElem_mem _, List.getElem_mem _, ?_⟩
  unfold cutV
  have e1 : HT.sIx (nms.map V.str).length 0 (some 7) = 7 := sIx_natG (n := (nms.map V.str).length) (d := 0) (i := 7) (by rw [List.length_map]; omega)
  have e2 : HT.sIx (nms.map V.str).length (nms.map V.str).length (some 9) = 9 := sIx_natG (n := (nms.map V.str).length) (i := 9) (by rw [List.length_map]; omega)
  rw [e1, e2]
  have d1 : (nms.map V.str).drop 7 = .str nms[7] :: (nms.map V.str).drop 8 := by
    rw [List.drop_eq_getElem_cons (by rw [List.length_map]; exact h7), List.getElem_map]
  have d2 : (nms.map V.str).drop 8 = .str nms[8] :: (nms.map V.str).drop 9 := by
    rw [List.drop_eq_getElem_cons (by rw [List.length_map]; exact h8), List.getElem_map]
  rw [d1, d2]
  rfl
theorem parts_some {a : Str} (h : a ∈ kindsL) : ∃ m, partsOf a = some m ∧ 0 ≤ m ∧ m ≤ 3 := by
  have h : a ∈ (["num", "name", "fn", "call", "sum", "less", "if", "let", "say"] : List Str) := h
  simp only [List.mem_cons, List.not_mem_nil, or_false] at h
  rcases h with rfl | rfl | rfl | rfl | rfl | rfl | rfl | rfl | rfl <;> exact ⟨_, rfl, by decide, by decide⟩
theorem mem_of_ix {xs : List Str} {i : Nat} {v : V} (h : (xs.map V.str)[i]? = some v) : ∃ x, x ∈ xs ∧ v = .str x := by
  rw [List.getElem?_map] at h
  obtain ⟨y, ey, rfl⟩ := Option.map_eq_some_iff.mp h
  exact ⟨y, List.mem_of_getElem? ey, rfl⟩

section
variable {P : Program} {w : World} {K : PySem.W.Frag} {mg : Str → Option Value} {base : Heap} {aFunction aRun aRunB aPlace aForms aActions aOps : Addr} {k : Nat}

theorem ok_leaf (T : Tx w K mg aFunction aRun aRunB aPlace aForms aActions aOps) (G__law_take : FnX P w K mg base k "_law_take" ["c", "many"] spTake) (G__law_parts : FnX P w K mg base k "_law_parts" ["kind"] spParts) (G__law_integer : FnX P w K mg base k "_law_integer" ["c"] spInteger) :
    FnX P w K mg base (k + 1) "_law_leaf" ["c", "names", "about"] spLeaf := by
  refine T.d__law_leaf.ok sc__law_leaf (fun vs H Q E h => by cases h; rfl) (fun f cdv A outer s H vs Q E hr h => ?_)
  rcases h with ⟨hC, hn, hne, hw, hz, hab, q⟩
  rename_i c na nms ns ab
  refine ⟨_, (pss_cons (ps_set (i := 3) sc__law_leaf.nd rfl (.inl rfl) (pe_fn G__law_take hr rfl (pa_cons (pv 0) (pa_cons (pe_int) pa_nil))))
    (pss_cons (ps_if (PW.pt (pw_and (pt_truth (pv 1) (by intro _; rfl)) (pw_and1 (pt_cmpR op_gt (pv 3) (pe_int) (nomark _))))) (pss_one (ps_ret (pe_tup (pa_cons (pe_str) (pa_cons (pe_ix ix_list (pv 1) (pe_fn G__law_take hr rfl (pa_cons (pv 0) (pa_cons (pe_callB call_len_seq rfl T.z_len PySem.boot_len (pa_cons (pv 1) pa_nil)) pa_nil))) (fun _ _ => rfl)) pa_nil))))) pss_nil)
    (pss_cons (ps_if (PW.pt (pw_and (pt_cmpR op_notN (pv 2) (pe_non) (nomark _)) (pw_and1 (pt_cmpR op_lt (pv 3) (pe_int) (nomark _))))) (pss_cons (ps_if (PW.pt (pw_and (pt_cmpR op_gt (pe_fn G__law_parts hr rfl (pa_cons (pv 2) pa_nil)) (pe_int) (nomark _)) (pw_and1 (pt_cmpR op_lt (pv 3) (pe_int) (nomark _))))) (pss_one (ps_ret (pe_tup (pa_cons (pe_str) (pa_cons (pe_fn G__law_take hr rfl (pa_cons (pv 0) (pa_cons (pe_fn G__law_parts hr rfl (pa_cons (pv 2) pa_nil)) pa_nil))) pa_nil))))) pss_nil)
    (pss_one (ps_ret (pe_tup (pa_cons (pe_str) pa_nil))))) pss_nil)
    (pss_one (ps_ret (pe_tup (pa_cons (pe_str) (pa_cons (pe_fn G__law_integer hr rfl (pa_cons (pv 0) pa_nil)) pa_nil)))))))), ?_⟩
  refine seq_i fun N hN => ?_
  walk_at "g"
  refine spTake.mk hC (by decide) (by decide) fun d H1 l1 u1 hC1 o1 => ?_
  refine hN _ _ ?_
  clear hN
  have hn1 := o1 _ _ hne hn
  -- behind the tests: a number
  have last : ∀ H2, CSt H2 c nms → Oth c H H2 → spInteger [.ref c] H2 (fun v H3 => [V.str "num", v].length ≤ sizeLine ∧ ∀ p, H3 p = none → Q (.ref p) (upd H3 p (.tup [V.str "num", v]))) E0 := by
    intro H2 hC2 o2
    refine spInteger.mk hC2 fun i H3 hi hC3 o3 => ?_
    walk_at "new"; rename_i p f4 H4 s4 t4
    exact q _ _ (hC3.same s4) (o2.trans (o3.trans (Same.oth s4))) fun lv ns' hlv _ => gt_num t4
  refine seq_i fun N hN => ?_
  walk_at "g"
  · rename_i hne0 hk
    refine spTake.mk hC1 ?_ ?_ fun d2 H2 l2 u2 hC2 o2 => ?_
    · rw [List.length_map]
      cases ns with
      | nil => exact Bool.noConfusion hne0
      | cons x r => rw [List.length_cons]; omega
    · rw [List.length_map]
      omega
    obtain ⟨v, e1, e2⟩ := at_ex (xs := ns.map V.str) l2 u2
    obtain ⟨x, hx, rfl⟩ := mem_of_ix e1
    refine ⟨_, _, _, _, rfl, rfl, SqL.of (o2 _ _ hne hn1), e2, ?_⟩
    walk_at "new"; rename_i p f3 H3 s3 t3
    exact q _ _ (hC2.same s3) (o1.trans (o2.trans (Same.oth s3))) fun lv ns' hlv h => gt_name t3 (h x hx)
  all_goals
    refine hN _ _ ?_
    clear hN
    refine seq_i fun N hN => ?_
    cases ab with
    | none =>
      walk_at "g"
      refine hN _ _ ?_
      walk_at "g"
      exact last _ hC1 o1
    | some a =>
      obtain ⟨m, hm, hm0, hm3⟩ := parts_some (hab a rfl)
      walk_at "g"
      · refine seq_i fun N1 hN1 => ?_
        walk_at "g"
        refine spParts.mk hm fun H2 s2 => ?_
        walk_at "g"
        · refine spParts.mk hm fun H3 s3 => ?_
          rename_i hk0 hk1 hk2
          have hm1 : 0 < m := of_decide_eq_true hk1
          refine spTake.mk ((hC1.same s2).same s3) hm1 (by omega) fun d2 H4 l4 u4 hC4 o4 => ?_
          walk_at "new"; rename_i p f5 H5 s5 t5
          exact q _ _ (hC4.same s5) (o1.trans ((Same.oth s2).trans ((Same.oth s3).trans (o4.trans (Same.oth s5))))) fun lv ns' hlv _ => gt_part t5 l4 (hab a rfl) hm u4
        all_goals
          refine hN1 _ _ ?_
          walk_at "g"
          walk_at "new"; rename_i p f5 H5 s5 t5
          exact q _ _ ((hC1.same s2).same s5) (o1.trans ((Same.oth s2).trans (Same.oth s5))) fun lv ns' hlv _ => gt_usual t5
      · refine hN _ _ ?_
        walk_at "g"
        exact last _ hC1 o1

theorem ok_drule {n : Int} (T : Tx w K mg aFunction aRun aRunB aPlace aForms aActions aOps) (G__law_take : FnX P w K mg base k "_law_take" ["c", "many"] spTake) (G__law_expression : FnX P w K mg base k "_law_expression" ["c", "level", "names", "about", "depth"] (spExpr n)) :
    FnX P w K mg base (k + 1) "_law_rule" ["c", "level", "kind", "depth"] (spRule n) := by
  refine T.d__law_rule.ok sc__law_rule (fun vs H Q E h => by cases h; rfl) (fun f cdv A outer s H vs Q E hr h => ?_)
  rcases h with ⟨hC, hN, hlv, hd, hdn, hz, ha, q⟩
  rename_i c nms a lv dep
  refine ⟨_, (pss_cons (ps_set (i := 4) sc__law_rule.nd rfl (.inl rfl) (pe_fn G__law_take hr rfl (pa_cons (pv 0) (pa_cons (pe_int) pa_nil))))
    (pss_cons (ps_if (pt_cmpR op_eq (pv 4) (pe_int) (nomark _)) (pss_one (ps_ret (pe_tup (pa_cons (pe_str) pa_nil)))) pss_nil)
    (pss_cons (ps_if (pt_cmpR op_eq (pv 4) (pe_int) (nomark _)) (pss_one (ps_ret (pe_tup (pa_cons (pe_str) (pa_cons (pe_tup (pa_cons (pe_str) pa_nil)) pa_nil))))) pss_nil)
    (pss_cons (ps_if (pt_cmpR op_eq (pv 4) (pe_int) (nomark _)) (pss_cons (ps_asg (pe_op op_sub (pe_ix ix_list (pv 0) (pe_int) (fun _ _ => rfl)) (pe_int)) (pg_sub (pv 0) (pe_int) set_list))
    (pss_cons (ps_asg (pe_slice sl_list (pe_ix ix_list (pv 0) (pe_int) (fun _ _ => rfl)) (po_some (pe_int)) (po_some (pe_int))) (pg_unl rfl (pgs_cons (pg_name (i := 5) sc__law_rule.nd rfl (.inl rfl)) (pgs_cons (pg_name (i := 6) sc__law_rule.nd rfl (.inl rfl)) pgs_nil))))
    (pss_one (ps_ret (pe_tup (pa_cons (pe_str) (pa_cons (pv 5) (pa_cons (pe_tup (pa_cons (pe_str) (pa_cons (pe_fn G__law_take hr rfl (pa_cons (pv 0) (pa_cons (pe_int) pa_nil))) pa_nil))) (pa_cons (pe_tup (pa_cons (pe_str) (pa_cons (pv 6) (pa_cons (pe_tup (pa_cons (pe_str) (pa_cons (pe_tup (pa_cons (pe_str) (pa_cons (pv 5) pa_nil))) pa_nil))) (pa_cons (pe_tup (pa_cons (pe_str) pa_nil)) pa_nil))))) pa_nil))))))))) pss_nil)
    (pss_one (ps_ret (pe_fn G__law_expression hr rfl (pa_cons (pv 0) (pa_cons (pe_op op_add (pv 1) (pe_int)) (pa_cons (pe_lst pa_nil) (pa_cons (pv 2) (pa_cons (pv 3) pa_nil)))))))))))), ?_⟩
  refine seq_i fun N hNx => ?_
  walk_at "g"
  refine spTake.mk hC (by decide) (by decide) fun d H1 l1 u1 hC1 o1 => ?_
  refine hNx _ _ ?_
  clear hNx
  refine seq_i fun N hNx => ?_
  walk_at "g"
  · walk_at "new"; rename_i p f3 H3 s3 t3
    exact q _ _ (hC1.same s3) (o1.trans (Same.oth s3)) (gr_usual t3)
  refine hNx _ _ ?_
  clear hNx
  refine seq_i fun N hNx => ?_
  walk_at "g"
  · walk_at "new"; rename_i p f3 H3 s3 t3
    walk_at "new"; rename_i p2 f4 H4 s4 t4
    exact q _ _ ((hC1.same s3).same s4) (o1.trans ((Same.oth s3).trans (Same.oth s4))) (gr_say t4 (s4 _ _ t3))
  refine hNx _ _ ?_
  clear hNx
  refine seq_i fun N hNx => ?_
  walk_at "g"
  · obtain ⟨s0, nm, ss, i, a0, kk, b0, hc, hs, h63, hi, hnm, n1, n2⟩ := hC1
    refine seq_i fun N1 hN1 => ?_
    walk_at "g"
    refine hN1 _ _ ?_
    clear hN1 hNx
    have hC2 : CSt (upd H1 c (.lst [.ref s0, .int i, .int a0, .int kk, .int (b0 - 5), .ref nm])) c nms := cst_mk hs h63 hi hnm n1 n2
    have o2 := o1.trans (Oth.put (H := H1) (o := .lst [.ref s0, .int i, .int a0, .int kk, .int (b0 - 5), .ref nm]))
    show tSeq _ _ _ _ (upd H1 c (.lst [.ref s0, .int i, .int a0, .int kk, .int (b0 - 5), .ref nm]))
    generalize upd H1 c (.lst [.ref s0, .int i, .int a0, .int kk, .int (b0 - 5), .ref nm]) = H2 at hC2 o2 ⊢
    have hC2' := hC2
    clear hc hs h63 hi hnm n1 n2
    obtain ⟨s0, nm, ss, i, a0, kk, b0, hc, hs, h63, hi, hnm, n1, n2⟩ := hC2'
    refine seq_i fun N1 hN1 => ?_
    walk_at "g"
    walk_at "new"; rename_i p f3 H3 s3 t3
    obtain ⟨x, y, hx, hy, exy⟩ := cut79 hN.1
    rw [exy] at t3
    refine ⟨p, _, rfl, SqL.of t3, rfl, _, _, rfl, _, _, rfl, rfl, hN1 _ _ ?_⟩
    walk_at "g"
    refine spTake.mk (hC2.same s3) (by decide) (by decide) fun d2 H4 l4 u4 hC4 o4 => ?_
    walk_at "new"; rename_i p1 f5 H5 s5 t5
    walk_at "g"
    walk_at "new"; rename_i p2 f6 H6 s6 t6
    walk_at "new"; rename_i p3 f7 H7 s7 t7
    walk_at "new"; rename_i p4 f8 H8 s8 t8
    walk_at "new"; rename_i p5 f9 H9 s9 t9
    walk_at "new"; rename_i p6 f10 H10 s10 t10
    have a1 := (s10 _ _ (s9 _ _ (s8 _ _ (s7 _ _ (s6 _ _ t5)))))
    have a2 := (s10 _ _ (s9 _ _ (s8 _ _ (s7 _ _ t6))))
    have a3 := (s10 _ _ (s9 _ _ (s8 _ _ t7)))
    have a4 := (s10 _ _ (s9 _ _ t8))
    have a5 := s10 _ _ t9
    have so : Same H4 H10 := (s5.trans (s6.trans (s7.trans (s8.trans (s9.trans s10)))))
    refine q _ _ (hC4.same so) (o2.trans ((Same.oth s3).trans (o4.trans (Same.oth so)))) (gr_let t10 a1 a5 a3 a2 a4 (hN.2 x hx) (hN.2 y hy))
  refine hNx _ _ ?_
  clear hNx
  walk_at "g"
  walk_at "new"; rename_i p f3 H3 s3 t3
  walk_at "g"
  obtain ⟨l, hl⟩ := hC1.lst
  refine spExpr.mk (ns := []) (ab := some a) (hC1.same s3) hN hlv t3 ?_ (fun x h => nomatch h) hd hdn (by simpa using hz) ?_ ?_
  · rintro rfl
    rw [hl] at f3
    cases f3
  · rintro a' ⟨⟩
    exact ha
  · intro v H4 hC4 o4 gd
    exact q _ _ hC4 (o1.trans ((Same.oth s3).trans o4)) gd.gr
end
end Zt

set_option Elab.async false
set_option linter.all false
set_option maxRecDepth 100000
set_option maxHeartbeats 4000000
namespace Zt
open PySem L2 PySem.Spec PyProof.Rows Zg
local macro_rules | `(tactic| walk_at "sq") => `(tactic| first | exact SqL.of (by assumption) | exact .inl (SqL.of (by assumption)) | assumption | exact SqT.of (by assumption) | exact .inr (SqT.of (by assumption)) | exact SqL.of upd_same | exact .inl (SqL.of upd_same))
local macro_rules | `(tactic| walk_at "hp") => `(tactic| first | assumption | exact upd_same)
local macro_rules | `(tactic| walk_at "cond") => `(tactic| first | assumption | rfl | (apply And.intro <;> assumption) | decide | (show (0 : Int) < _; decide) | (apply And.intro <;> decide) | (apply Or.inr; apply And.intro <;> decide) | (apply Or.inl; apply And.intro <;> decide))
local macro_rules | `(tactic| walk_at "s") => `(tactic| first
  | (with_reducible apply iteF)
  | (with_reducible apply iteT)
  | (apply e1; rfl)
  | (apply e2; rfl; rfl)
  | (apply e4; rfl; rfl; walk_at "sq"; rfl)
  | (apply e4; rfl; rfl; walk_at "hp"; rfl)
  | (apply e2; rfl; walk_at "sq")
  | (apply eOr; rfl)
  | (apply eOrR; rfl)
  | (apply eTru; walk_at "sq")
  | (apply eTruT; walk_at "sq")
  | (apply And.intro; (walk_at "cond"))
  | (apply iteTr; rfl)
  | (apply iteFr; rfl)
  | (apply iteD; all_goals intro _)
  | (with_reducible apply tNext_i))
local macro_rules | `(tactic| walk_at "g") => `(tactic| repeat' ((fail_if_success (with_reducible apply seq_i)); (fail_if_success (with_reducible apply cut_i)); (walk_at "s")))
local macro_rules | `(tactic| walk_at "size") => `(tactic| first | (simp only [List.length_cons, List.length_nil]; decide) | decide)
local macro_rules | `(tactic| walk_at "newp") => `(tactic| (intro p hp; generalize hH : upd _ _ _ = H1; have st := new_facts hp hH; clear hH; obtain ⟨s, t⟩ := st))
local macro_rules | `(tactic| walk_at "new") => `(tactic| walk_at "g"; first | (apply And.intro; (focus (apply small100; walk_at "size")); walk_at "newp") | (walk_at "newp"))

theorem do_two {a : Str} (h : inV (.str a) [.str "call", .str "sum", .str "less"] = true) : ∃ o : Opw, a = o.str := by
  have e : ([.str "call", .str "sum", .str "less"] : List V) = (["call", "sum", "less"] : List Str).map V.str := rfl
  rw [e, inV_str] at h
  have h := of_decide_eq_true h
  simp only [List.mem_cons, List.not_mem_nil, or_false] at h
  rcases h with rfl | rfl | rfl
  · exact ⟨.call, rfl⟩
  · exact ⟨.sum, rfl⟩
  · exact ⟨.less, rfl⟩
section
variable {P : Program} {w : World} {K : PySem.W.Frag} {mg : Str → Option Value} {base : Heap} {aFunction aRun aRunB aPlace aForms aActions aOps : Addr} {k : Nat}

theorem ok_ask {n : Int} (T : Tx w K mg aFunction aRun aRunB aPlace aForms aActions aOps) (G__law_take : FnX P w K mg base k "_law_take" ["c", "many"] spTake) (G__law_leaf : FnX P w K mg base k "_law_leaf" ["c", "names", "about"] spLeaf) (G__law_expression : FnX P w K mg base k "_law_expression" ["c", "level", "names", "about", "depth"] (spExpr n)) :
    FnX P w K mg base (k + 1) "_law_ask" ["c", "level", "names", "about", "depth"] (spAsk n) := by
  refine T.d__law_ask.ok sc__law_ask (fun vs H Q E h => by cases h; rfl) (fun f cdv A outer s H vs Q E hr h => ?_)
  rcases h with ⟨hC, hN, hlv, hn, hne, hw, hd, hdn, hz, ha, q⟩
  rename_i c na nms ns a lv dep
  obtain ⟨l0, hl0⟩ := hC.lst
  have hab : ∀ a', some a = some a' → a' ∈ kindsL := by rintro a' ⟨⟩; exact ha
  refine ⟨_, (pss_cons (ps_if (PW.pt (pw_and (pt_cmpR op_in_seq (pv 3) (pe_lst (pa_cons (pe_str) (pa_cons (pe_str) (pa_cons (pe_str) pa_nil)))) (by with_unfolding_all rfl)) (pw_and1 (pt_cmpR op_eq (pe_fn G__law_take hr rfl (pa_cons (pv 0) (pa_cons (pe_int) pa_nil))) (pe_int) (nomark _))))) (pss_one (ps_ret (pe_tup (pa_cons (pe_str) (pa_cons (pe_tup (pa_cons (pe_fn G__law_expression hr rfl (pa_cons (pv 0) (pa_cons (pv 1) (pa_cons (pv 2) (pa_cons (pv 3) (pa_cons (pv 4) pa_nil)))))) (pa_cons (pe_fn G__law_expression hr rfl (pa_cons (pv 0) (pa_cons (pv 1) (pa_cons (pv 2) (pa_cons (pv 3) (pa_cons (pv 4) pa_nil)))))) pa_nil))) pa_nil))))) pss_nil)
    (pss_cons (ps_if (PW.pt (pw_and (pt_cmpR op_eq (pv 3) (pe_str) (nomark _)) (pw_and1 (pt_cmpR op_eq (pe_fn G__law_take hr rfl (pa_cons (pv 0) (pa_cons (pe_int) pa_nil))) (pe_int) (nomark _))))) (pss_one (ps_ret (pe_tup (pa_cons (pe_str) (pa_cons (pe_tup (pa_cons (pe_fn G__law_expression hr rfl (pa_cons (pv 0) (pa_cons (pv 1) (pa_cons (pv 2) (pa_cons (pv 3) (pa_cons (pv 4) pa_nil)))))) pa_nil)) pa_nil))))) pss_nil)
    (pss_cons (ps_if (PW.pt (pw_and (pt_cmpR op_eq (pv 3) (pe_str) (nomark _)) (pw_and1 (pt_cmpR op_eq (pe_fn G__law_take hr rfl (pa_cons (pv 0) (pa_cons (pe_int) pa_nil))) (pe_int) (nomark _))))) (pss_one (ps_ret (pe_tup (pa_cons (pe_str) (pa_cons (pe_fn G__law_expression hr rfl (pa_cons (pv 0) (pa_cons (pv 1) (pa_cons (pv 2) (pa_cons (pv 3) (pa_cons (pv 4) pa_nil)))))) pa_nil))))) pss_nil)
    (pss_one (ps_ret (pe_fn G__law_leaf hr rfl (pa_cons (pv 0) (pa_cons (pe_lst pa_nil) (pa_cons (pv 3) pa_nil))))))))), ?_⟩
  obtain ⟨m, hm⟩ : ∃ m, dep.toNat = m := ⟨_, rfl⟩
  rw [hm] at q
  refine seq_i fun N hNx => ?_
  have rest : ∀ H2, CSt H2 c nms → Oth c H H2 → N [some (.ref c), some (.int lv), some (.ref na), some (.str a), some (.int dep)] H2 := by
    intro H2 hC2 o2
    refine hNx _ _ ?_
    clear hNx
    refine seq_i fun N hNx => ?_
    have rest : ∀ H2, CSt H2 c nms → Oth c H H2 → N [some (.ref c), some (.int lv), some (.ref na), some (.str a), some (.int dep)] H2 := by
      intro H2 hC2 o2
      refine hNx _ _ ?_
      clear hNx
      refine seq_i fun N hNx => ?_
      have rest : ∀ H2, CSt H2 c nms → Oth c H H2 → N [some (.ref c), some (.int lv), some (.ref na), some (.str a), some (.int dep)] H2 := by
        intro H2 hC2 o2
        refine hNx _ _ ?_
        walk_at "g"
        walk_at "new"; rename_i p f3 H3 s3 t3
        obtain ⟨l, hl⟩ := hC2.lst
        walk_at "g"
        refine spLeaf.mk (ns := []) (ab := some a) (hC2.same s3) t3 ?_ (fun x h => nomatch h) (by simp) hab fun v H4 hC4 o4 g4 => ?_
        · rintro rfl
          rw [hl] at f3
          cases f3
        · exact q _ _ hC4 (o2.trans ((Same.oth s3).trans o4)) ((g4 lv ns hlv (fun x h => nomatch h)).mono (by omega))
      walk_at "g"
      · rename_i hin
        have h2 := str_dec hin
        subst h2
        refine spTake.mk hC2 (by decide) (by decide) fun d H3 l3 u3 hC3 o3 => ?_
        have o3 := o2.trans o3
        walk_at "g"
        · refine spExpr.mk (ab := some "let") hC3 hN hlv (o3 _ _ hne hn) hne hw hd hdn hz hab fun v H4 hC4 o4 g4 => ?_
          rw [hm] at g4
          walk_at "new"; rename_i p1 f5 H5 s5 t5
          exact q _ _ (hC4.same s5) (o3.trans (o4.trans (Same.oth s5))) ((gt_with t5 (g4.tups (Same.tups s5))).mono (by omega))
        · exact rest _ hC3 o3
      · exact rest _ hC2 o2
    walk_at "g"
    · rename_i hin
      have h2 := str_dec hin
      subst h2
      refine spTake.mk hC2 (by decide) (by decide) fun d H3 l3 u3 hC3 o3 => ?_
      have o3 := o2.trans o3
      walk_at "g"
      · refine spExpr.mk (ab := some "say") hC3 hN hlv (o3 _ _ hne hn) hne hw hd hdn hz hab fun v H4 hC4 o4 g4 => ?_
        rw [hm] at g4
        walk_at "new"; rename_i p1 f5 H5 s5 t5
        walk_at "new"; rename_i p2 f6 H6 s6 t6
        have so := s5.trans s6
        exact q _ _ (hC4.same so) (o3.trans (o4.trans (Same.oth so))) (gt_do1 t6 (s6 _ _ t5) (g4.tups (Same.tups so)))
      · exact rest _ hC3 o3
    · exact rest _ hC2 o2
  walk_at "g"
  walk_at "new"; rename_i p f1 H1 s1 t1
  have hC1 := hC.same s1
  have o1 : Oth c H H1 := Same.oth s1
  walk_at "g"
  · rename_i hin
    obtain ⟨o0, h2⟩ := do_two hin
    subst h2
    refine spTake.mk hC1 (by decide) (by decide) fun d H2 l2 u2 hC2 o2 => ?_
    have o2 := o1.trans o2
    walk_at "g"
    · refine spExpr.mk (ab := some o0.str) hC2 hN hlv (o2 _ _ hne hn) hne hw hd hdn hz hab fun v H3 hC3 o3 g3 => ?_
      have o3' := o2.trans o3
      walk_at "g"
      refine spExpr.mk (ab := some o0.str) hC3 hN hlv (o3' _ _ hne hn) hne hw hd hdn hz hab fun v2 H4 hC4 o4 g4 => ?_
      obtain ⟨l3, hl3⟩ := hC3.lst
      have g3' := g3.tups (Oth.tups hl3 o4)
      walk_at "new"; rename_i p1 f5 H5 s5 t5
      walk_at "new"; rename_i p2 f6 H6 s6 t6
      have so := s5.trans s6
      rw [hm] at g3' g4
      exact q _ _ (hC4.same so) (o3'.trans (o4.trans (Same.oth so))) (gt_do2 t6 (s6 _ _ t5) (g3'.tups (Same.tups so)) (g4.tups (Same.tups so)))
    · exact rest _ hC2 o2
  · exact rest _ hC1 o1

theorem ok_binding {n : Int} (T : Tx w K mg aFunction aRun aRunB aPlace aForms aActions aOps) (G__law_take : FnX P w K mg base k "_law_take" ["c", "many"] spTake) (G__law_expression : FnX P w K mg base k "_law_expression" ["c", "level", "names", "about", "depth"] (spExpr n)) :
    FnX P w K mg base (k + 1) "_law_binding" ["c", "k", "level", "names", "about", "depth"] (spBinding n) := by
  refine T.d__law_binding.ok sc__law_binding (fun vs H Q E h => by cases h; rfl) (fun f cdv A outer s H vs Q E hr h => ?_)
  rcases h with ⟨hC, hN, hlv, hn, hne, hw, hd, hdn, hz, hab, q⟩
  rename_i c na nms ns ab kk lv dep
  obtain ⟨l0, hl0⟩ := hC.lst
  obtain ⟨m, hm, hm1, hm3⟩ : ∃ m, dep.toNat = m + 1 ∧ (dep - 1).toNat = m ∧ 0 ≤ m := ⟨(dep - 1).toNat, by omega, rfl, Nat.zero_le _⟩
  rw [hm] at q
  refine ⟨_, (pss_cons (ps_set (i := 6) sc__law_binding.nd rfl (.inl rfl) (pe_ix ix_list (pe_ix ix_list (pv 0) (pe_int) (fun _ _ => rfl)) (pe_fn G__law_take hr rfl (pa_cons (pv 0) (pa_cons (pe_int) pa_nil))) (fun _ _ => rfl)))
    (pss_cons (ps_set (i := 7) sc__law_binding.nd rfl (.inl rfl) (pe_fn G__law_expression hr rfl (pa_cons (pv 0) (pa_cons (pv 2) (pa_cons (pe_op op_cat (pv 3) (pe_lst (pa_cons (pv 6) pa_nil))) (pa_cons (pv 4) (pa_cons (pe_op op_sub (pv 5) (pe_int)) pa_nil)))))))
    (pss_cons (ps_if (pt_cmpR op_eq (pv 1) (pe_int) (nomark _)) (pss_one (ps_ret (pe_tup (pa_cons (pe_str) (pa_cons (pv 6) (pa_cons (pv 7) pa_nil)))))) pss_nil)
    (pss_cons (ps_if (pt_cmpR op_eq (pe_fn G__law_take hr rfl (pa_cons (pv 0) (pa_cons (pe_int) pa_nil))) (pe_int) (nomark _)) (pss_one (ps_ret (pe_tup (pa_cons (pe_str) (pa_cons (pe_tup (pa_cons (pe_str) (pa_cons (pv 6) (pa_cons (pv 7) pa_nil)))) (pa_cons (pe_fn G__law_expression hr rfl (pa_cons (pv 0) (pa_cons (pv 2) (pa_cons (pv 3) (pa_cons (pv 4) (pa_cons (pe_op op_sub (pv 5) (pe_int)) pa_nil)))))) pa_nil)))))) pss_nil)
    (pss_cons (ps_set (i := 8) sc__law_binding.nd rfl (.inl rfl) (pe_ix ix_list (pe_ix ix_list (pv 0) (pe_int) (fun _ _ => rfl)) (pe_op op_add (pe_int) (pe_fn G__law_take hr rfl (pa_cons (pv 0) (pa_cons (pe_int) pa_nil)))) (fun _ _ => rfl)))
    (pss_cons (ps_set (i := 9) sc__law_binding.nd rfl (.inl rfl) (pe_fn G__law_expression hr rfl (pa_cons (pv 0) (pa_cons (pv 2) (pa_cons (pe_op op_cat (pv 3) (pe_lst (pa_cons (pv 8) pa_nil))) (pa_cons (pv 4) (pa_cons (pe_op op_sub (pv 5) (pe_int)) pa_nil)))))))
    (pss_one (ps_ret (pe_tup (pa_cons (pe_str) (pa_cons (pv 8) (pa_cons (pe_tup (pa_cons (pe_str) (pa_cons (pv 6) (pa_cons (pv 7) pa_nil)))) (pa_cons (pe_ix ix_list (pe_lst (pa_cons (pv 9) (pa_cons (pe_tup (pa_cons (pe_str) (pa_cons (pe_tup (pa_cons (pe_str) (pa_cons (pv 8) pa_nil))) (pa_cons (pv 9) pa_nil)))) pa_nil))) (pe_fn G__law_take hr rfl (pa_cons (pv 0) (pa_cons (pe_int) pa_nil))) (fun _ _ => rfl)) pa_nil))))))))))))), ?_⟩
  have hC' := hC
  obtain ⟨s0, nm, ss, i, a0, kx, b0, hc, hs, h63, hi, hnm, n1, n2⟩ := hC'
  refine seq_i fun N hNx => ?_
  walk_at "g"
  refine spTake.mk hC (by decide) (by decide) fun d H1 l1 u1 hC1 o1 => ?_
  obtain ⟨v, e1, e2⟩ := at_ex (xs := nms.map V.str) (i := d) l1 (by rw [List.length_map]; have := hN.1; omega)
  obtain ⟨x, hx, rfl⟩ := mem_of_ix e1
  refine ⟨_, _, _, _, rfl, rfl, SqL.of (o1 _ _ n2 hnm), e2, hNx _ _ ?_⟩
  clear hNx e1 e2 hs h63 hi hnm n1 n2 hc
  refine seq_i fun N hNx => ?_
  walk_at "g"
  walk_at "new"; rename_i p2 f2 H2 s2 t2
  walk_at "g"
  refine cat_i (s2 _ _ (o1 _ _ hne hn)) t2 (by rw [List.length_map]; simp; omega) fun p3 H3 s3 f3 t3 => ?_
  have t3 : H3 p3 = some (.lst ((ns ++ [x]).map V.str)) := by rw [List.map_append]; exact t3
  have hp3 : p3 ≠ c := by
    rintro rfl
    obtain ⟨l, hl⟩ := hC1.lst
    rw [s2 _ _ hl] at f3
    cases f3
  have hwx := hN.2 x hx
  have hw3 : ∀ y ∈ ns ++ [x], y ∈ nms := fun y hy => by
    rcases List.mem_append.mp hy with h | h
    · exact hw y h
    · rw [List.mem_singleton.mp h]; exact hwx
  walk_at "g"
  have o3 := o1.trans ((Same.oth s2).trans (Same.oth s3))
  refine spExpr.mk ((hC1.same s2).same s3) hN hlv t3 hp3 hw3 (by omega) (by omega) (by rw [List.length_append, List.length_singleton]; omega) hab fun v H4 hC4 o4 g4 => ?_
  rw [hm1] at g4
  have o4 := o3.trans o4
  refine hNx _ _ ?_
  clear hNx
  refine seq_i fun N hNx => ?_
  walk_at "g"
  · walk_at "new"; rename_i p5 f5 H5 s5 t5
    exact q _ _ (hC4.same s5) (o4.trans (Same.oth s5)) ((gt_fn t5 hwx (g4.tups (Same.tups s5))).mono (by omega))
  refine hNx _ _ ?_
  clear hNx
  refine seq_i fun N hNx => ?_
  walk_at "g"
  refine spTake.mk hC4 (by decide) (by decide) fun d5 H5 l5 u5 hC5 o5 => ?_
  obtain ⟨l4, hl4⟩ := hC4.lst
  have g5 := g4.tups (Oth.tups hl4 o5)
  have o5 := o4.trans o5
  walk_at "g"
  · walk_at "new"; rename_i p6 f6 H6 s6 t6
    have o6 := o5.trans (Same.oth s6)
    have g6 := gt_fn t6 hwx (g5.tups (Same.tups s6))
    obtain ⟨l6, hl6⟩ := (hC5.same s6).lst
    walk_at "g"
    refine spExpr.mk (hC5.same s6) hN hlv (o6 _ _ hne hn) hne hw (by omega) (by omega) (by omega) hab fun v7 H7 hC7 o7 g7 => ?_
    rw [hm1] at g7
    walk_at "new"; rename_i p8 f8 H8 s8 t8
    exact q _ _ (hC7.same s8) (o6.trans (o7.trans (Same.oth s8))) (gt_callfn t8 ((Same.tups s8) _ _ ((Oth.tups hl6 o7) _ _ t6)) hwx (((g5.tups (Same.tups s6)).tups (Oth.tups hl6 o7)).tups (Same.tups s8)) (g7.tups (Same.tups s8)))
  refine hNx _ _ ?_
  clear hNx
  refine seq_i fun N hNx => ?_
  have hC5' := hC5
  obtain ⟨s0, nm, ss, i, a0, kx, b0, hc, hs, h63, hi, hnm, n1, n2⟩ := hC5'
  walk_at "g"
  refine spTake.mk hC5 (by decide) (by decide) fun d6 H6 l6 u6 hC6 o6 => ?_
  walk_at "g"
  obtain ⟨y', e1, e2⟩ := at_ex (xs := nms.map V.str) (i := 3 + d6) (by omega) (by rw [List.length_map]; have := hN.1; omega)
  obtain ⟨y, hy, rfl⟩ := mem_of_ix e1
  refine ⟨_, _, _, _, rfl, rfl, SqL.of (o6 _ _ n2 hnm), e2, hNx _ _ ?_⟩
  obtain ⟨l5, hl5⟩ := hC5.lst
  have g6 := g5.tups (Oth.tups hl5 o6)
  have o6 := o5.trans o6
  clear hNx e1 e2 hs h63 hi hnm n1 n2 hc
  refine seq_i fun N hNx => ?_
  walk_at "g"
  walk_at "new"; rename_i p7 f7 H7 s7 t7
  walk_at "g"
  have o7 := o6.trans (Same.oth s7)
  refine cat_i (o7 _ _ hne hn) t7 (by rw [List.length_map]; simp; omega) fun p8 H8 s8 f8 t8 => ?_
  have t8 : H8 p8 = some (.lst ((ns ++ [y]).map V.str)) := by rw [List.map_append]; exact t8
  have hp8 : p8 ≠ c := by
    rintro rfl
    obtain ⟨l, hl⟩ := hC6.lst
    rw [s7 _ _ hl] at f8
    cases f8
  have hwy := hN.2 y hy
  have hw8 : ∀ z ∈ ns ++ [y], z ∈ nms := fun z hz => by
    rcases List.mem_append.mp hz with h | h
    · exact hw z h
    · rw [List.mem_singleton.mp h]; exact hwy
  walk_at "g"
  have o8 := o7.trans (Same.oth s8)
  have hC8 := (hC6.same s7).same s8
  obtain ⟨l8, hl8⟩ := hC8.lst
  refine spExpr.mk hC8 hN hlv t8 hp8 hw8 (by omega) (by omega) (by rw [List.length_append, List.length_singleton]; omega) hab fun v9 H9 hC9 o9 g9 => ?_
  rw [hm1] at g9
  have g9' : GT nms lv m H9 v ((ns ++ [x])) ab := ((g6.tups (Same.tups s7)).tups (Same.tups s8)).tups (Oth.tups hl8 o9)
  have o9 := o8.trans o9
  refine hNx _ _ ?_
  clear hNx
  walk_at "g"
  walk_at "new"; rename_i p10 f10 H10 s10 t10
  walk_at "g"
  walk_at "new"; rename_i p11 f11 H11 s11 t11
  walk_at "g"
  walk_at "new"; rename_i p12 f12 H12 s12 t12
  walk_at "new"; rename_i p13 f13 H13 s13 t13
  walk_at "g"
  have so := s10.trans (s11.trans (s12.trans s13))
  have hC13 := hC9.same so
  refine spTake.mk hC13 (by decide) (by decide) fun d14 H14 l14 u14 hC14 o14 => ?_
  obtain ⟨l13, hl13⟩ := hC13.lst
  have tt := (Oth.tups hl13 o14)
  have np : p13 ≠ c := by
    rintro rfl
    obtain ⟨l, hl⟩ := hC9.lst
    rw [s12 _ _ (s11 _ _ (s10 _ _ hl))] at f13
    cases f13
  have gf : GM nms lv (m + 1) (5 + 2 * m) H14 (.ref p10) ns ab := (gt_fnm (s13 _ _ (s12 _ _ (s11 _ _ t10))) hwx (g9'.tups (Same.tups so))).tups tt
  have gu : GT nms lv m H14 v9 (ns ++ [y]) ab := (g9.tups (Same.tups so)).tups tt
  have gc : GM nms lv (m + 1) (5 + 2 * m) H14 (.ref p12) (ns ++ [y]) ab := (gt_opm (o := .call) (s13 _ _ t12) (gt_name (s13 _ _ (s12 _ _ t11)) (by simp)) (g9.tups (Same.tups so))).tups tt
  obtain ⟨z, e1, e2⟩ := at_ex (xs := [v9, V.ref p12]) l14 u14
  refine ⟨_, _, _, _, rfl, rfl, SqL.of (o14 _ _ np t13), e2, ?_⟩
  have gz : GM nms lv (m + 1) (5 + 2 * m) H14 z (ns ++ [y]) ab := by
    have hd : d14 = 0 ∨ d14 = 1 := by omega
    rcases hd with rfl | rfl
    · cases e1; exact gu.gm
    · cases e1; exact gc
  walk_at "new"; rename_i p15 f15 H15 s15 t15
  exact q _ _ (hC14.same s15) (o9.trans ((Same.oth so).trans (o14.trans (Same.oth s15)))) (gt_letm t15 hwy (gf.tups (Same.tups s15)) (gz.tups (Same.tups s15)))

theorem ok_change {n : Int} (T : Tx w K mg aFunction aRun aRunB aPlace aForms aActions aOps) (G__law_take : FnX P w K mg base k "_law_take" ["c", "many"] spTake) (G__law_kinds : FnX P w K mg base k "_law_kinds" [] spKinds) (G__law_rule : FnX P w K mg base k "_law_rule" ["c", "level", "kind", "depth"] (spRule n))
    (G__law_expression : FnX P w K mg base k "_law_expression" ["c", "level", "names", "about", "depth"] (spExpr n)) :
    FnX P w K mg base (k + 1) "_law_change" ["c", "k", "level", "names", "about", "depth"] (spChange n) := by
  refine T.d__law_change.ok sc__law_change (fun vs H Q E h => by cases h; rfl) (fun f cdv A outer s H vs Q E hr h => ?_)
  rcases h with ⟨hC, hN, hl3, hn, hne, hw, hd, hdn, hz, hab, q⟩
  rename_i c na nms ns ab kk lv dep
  have hlv : lv ≤ 3 := by omega
  obtain ⟨m, hm, hm1, hm3⟩ : ∃ m, dep.toNat = m + 1 ∧ (dep - 1).toNat = m ∧ 0 ≤ m := ⟨(dep - 1).toNat, by omega, rfl, Nat.zero_le _⟩
  rw [hm] at q
  refine ⟨_, (pss_cons (ps_set (i := 6) sc__law_change.nd rfl (.inl rfl) (pe_ix ix_list (pe_fn0 G__law_kinds hr rfl) (pe_fn G__law_take hr rfl (pa_cons (pv 0) (pa_cons (pe_int) pa_nil))) (fun _ _ => rfl)))
    (pss_cons (ps_set (i := 7) sc__law_change.nd rfl (.inl rfl) (pe_fn G__law_rule hr rfl (pa_cons (pv 0) (pa_cons (pv 2) (pa_cons (pv 6) (pa_cons (pe_op op_sub (pv 5) (pe_int)) pa_nil))))))
    (pss_cons (ps_if (pt_cmpR op_eq (pv 1) (pe_int) (nomark _)) (pss_one (ps_ret (pe_tup (pa_cons (pe_str) (pa_cons (pe_ix ix_list (pe_ix ix_list (pv 0) (pe_int) (fun _ _ => rfl)) (pe_int) (fun _ _ => rfl)) (pa_cons (pe_tup (pa_cons (pe_str) (pa_cons (pv 6) (pa_cons (pv 7) pa_nil)))) (pa_cons (pe_fn G__law_expression hr rfl (pa_cons (pv 0) (pa_cons (pv 2) (pa_cons (pe_op op_cat (pv 3) (pe_lst (pa_cons (pe_ix ix_list (pe_ix ix_list (pv 0) (pe_int) (fun _ _ => rfl)) (pe_int) (fun _ _ => rfl)) pa_nil))) (pa_cons (pv 4) (pa_cons (pe_op op_sub (pv 5) (pe_int)) pa_nil)))))) pa_nil))))))) pss_nil)
    (pss_cons (ps_if (pt_cmpR op_eq (pv 1) (pe_int) (nomark _)) (pss_one (ps_ret (pe_tup (pa_cons (pe_str) (pa_cons (pv 6) (pa_cons (pv 7) pa_nil)))))) pss_nil)
    (pss_one (ps_ret (pe_tup (pa_cons (pe_str) (pa_cons (pv 6) (pa_cons (pv 7) (pa_cons (pe_fn G__law_expression hr rfl (pa_cons (pv 0) (pa_cons (pv 2) (pa_cons (pv 3) (pa_cons (pv 4) (pa_cons (pe_op op_sub (pv 5) (pe_int)) pa_nil)))))) pa_nil))))))))))), ?_⟩
  refine seq_i fun N hNx => ?_
  refine spKinds.mk fun p1 H1 s1 f1 t1 => ?_
  have hC1 := hC.same s1
  have o1 : Oth c H H1 := Same.oth s1
  have np : p1 ≠ c := by
    rintro rfl
    obtain ⟨l, hl⟩ := hC.lst
    rw [hl] at f1
    cases f1
  walk_at "g"
  refine spTake.mk hC1 (by decide) (by decide) fun d H2 l2 u2 hC2 o2 => ?_
  obtain ⟨v', e1, e2⟩ := at_ex (xs := kindsL.map V.str) (i := d) l2 u2
  obtain ⟨x, hx, rfl⟩ := mem_of_ix e1
  refine ⟨_, _, _, _, rfl, rfl, SqL.of (o2 _ _ np t1), e2, hNx _ _ ?_⟩
  clear hNx e1 e2
  have o2 := o1.trans o2
  refine seq_i fun N hNx => ?_
  walk_at "g"
  refine spRule.mk hC2 hN hl3 (by omega) (by omega) (by omega) hx fun v3 H3 hC3 o3 g3 => ?_
  rw [hm1] at g3
  have o3 := o2.trans o3
  refine hNx _ _ ?_
  clear hNx
  refine seq_i fun N hNx => ?_
  have hC3' := hC3
  obtain ⟨s0, nm, ss, i, a0, kx, b0, hc, hs, h63, hi, hnm, n1, n2⟩ := hC3'
  obtain ⟨y', e1, e2⟩ := at_ex (xs := nms.map V.str) (i := 9) (by decide) (by rw [List.length_map]; have := hN.1; omega)
  obtain ⟨y, hy, rfl⟩ := mem_of_ix e1
  have hwy := hN.2 y hy
  walk_at "g"
  · refine ⟨_, _, _, _, rfl, rfl, SqL.of hnm, e2, ?_⟩
    walk_at "new"; rename_i p4 f4 H4 s4 t4
    have hc4 := s4 _ _ hc
    walk_at "g"
    refine ⟨_, _, _, _, rfl, rfl, SqL.of (s4 _ _ hnm), e2, ?_⟩
    walk_at "g"
    walk_at "new"; rename_i p5 f5 H5 s5 t5
    walk_at "g"
    refine cat_i (s5 _ _ (s4 _ _ (o3 _ _ hne hn))) t5 (by rw [List.length_map]; simp; omega) fun p6 H6 s6 f6 t6 => ?_
    have t6 : H6 p6 = some (.lst ((ns ++ [y]).map V.str)) := by rw [List.map_append]; exact t6
    have so := s4.trans (s5.trans s6)
    have np6 : p6 ≠ c := by
      rintro rfl
      obtain ⟨l, hl⟩ := hC3.lst
      rw [s5 _ _ (s4 _ _ hl)] at f6
      cases f6
    have hw6 : ∀ z ∈ ns ++ [y], z ∈ nms := fun z hz => by
      rcases List.mem_append.mp hz with h | h
      · exact hw z h
      · rw [List.mem_singleton.mp h]; exact hwy
    walk_at "g"
    have hC6 := hC3.same so
    obtain ⟨l6, hl6⟩ := hC6.lst
    refine spExpr.mk hC6 hN hlv t6 np6 hw6 (by omega) (by omega) (by rw [List.length_append, List.length_singleton]; omega) hab fun v7 H7 hC7 o7 g7 => ?_
    rw [hm1] at g7
    walk_at "new"; rename_i p8 f8 H8 s8 t8
    have gk : GM nms lv (m + 1) (5 + 2 * m) H8 (.ref p4) ns ab := ((gt_keepm hl3 (s6 _ _ (s5 _ _ t4)) hx ((g3.tups (Same.tups so)))).tups (Oth.tups hl6 o7)).tups (Same.tups s8)
    exact q _ _ (hC7.same s8) (o3.trans ((Same.oth so).trans (o7.trans (Same.oth s8)))) (gt_letm t8 hwy gk (g7.tups (Same.tups s8)).gm)
  refine hNx _ _ ?_
  clear hNx
  refine seq_i fun N hNx => ?_
  walk_at "g"
  · walk_at "new"; rename_i p4 f4 H4 s4 t4
    exact q _ _ (hC3.same s4) (o3.trans (Same.oth s4)) ((gt_keep hl3 t4 hx (g3.tups (Same.tups s4))).mono (by omega))
  refine hNx _ _ ?_
  clear hNx
  walk_at "g"
  obtain ⟨l3, hl3b⟩ := hC3.lst
  refine spExpr.mk hC3 hN hlv (o3 _ _ hne hn) hne hw (by omega) (by omega) (by omega) hab fun v7 H7 hC7 o7 g7 => ?_
  rw [hm1] at g7
  walk_at "new"; rename_i p8 f8 H8 s8 t8
  exact q _ _ (hC7.same s8) (o3.trans (o7.trans (Same.oth s8))) ((gt_rule hl3 t8 hx ((g3.tups (Oth.tups hl3b o7)).tups (Same.tups s8)) (g7.tups (Same.tups s8))).mono (by omega))

theorem ok_expr {n : Int} (hn0 : 0 ≤ n) (T : Tx w K mg aFunction aRun aRunB aPlace aForms aActions aOps) (G__law_take : FnX P w K mg base k "_law_take" ["c", "many"] spTake) (G__law_leaf : FnX P w K mg base k "_law_leaf" ["c", "names", "about"] spLeaf)
    (G__law_ask : FnX P w K mg base k "_law_ask" ["c", "level", "names", "about", "depth"] (spAsk n)) (G__law_binding : FnX P w K mg base k "_law_binding" ["c", "k", "level", "names", "about", "depth"] (spBinding n))
    (G__law_change : FnX P w K mg base k "_law_change" ["c", "k", "level", "names", "about", "depth"] (spChange n)) (G__law_expression : FnX P w K mg base k "_law_expression" ["c", "level", "names", "about", "depth"] (spExpr n)) :
    FnX P w K mg base (k + 1) "_law_expression" ["c", "level", "names", "about", "depth"] (spExpr (n + 1)) := by
  refine T.d__law_expression.ok sc__law_expression (fun vs H Q E h => by cases h; rfl) (fun f cdv A outer s H vs Q E hr h => ?_)
  rcases h with ⟨hC, hN, hlv, hn, hne, hw, hd, hdn, hz, hab, q⟩
  rename_i c na nms ns ab lv dep
  refine ⟨_, (pss_cons (ps_asg (pe_op op_sub (pe_ix ix_list (pv 0) (pe_int) (fun _ _ => rfl)) (pe_int)) (pg_sub (pv 0) (pe_int) set_list))
    (pss_cons (ps_set (i := 5) sc__law_expression.nd rfl (.inl rfl) (pe_fn G__law_take hr rfl (pa_cons (pv 0) (pa_cons (pe_int) pa_nil))))
    (pss_cons (ps_if (PW.pt (pw_or (pt_cmpR op_lt (pv 4) (pe_int) (nomark _)) (pw_or (pt_cmpR op_lt (pe_ix ix_list (pv 0) (pe_int) (fun _ _ => rfl)) (pe_int) (nomark _)) (pw_or1 (pt_cmpR op_lt (pv 5) (pe_int) (nomark _)))))) (pss_one (ps_ret (pe_fn G__law_leaf hr rfl (pa_cons (pv 0) (pa_cons (pv 2) (pa_cons (pv 3) pa_nil)))))) pss_nil)
    (pss_cons (ps_if (PW.pt (pw_and (pt_cmpR op_in_seq (pv 5) (pe_lst (pa_cons (pe_int) (pa_cons (pe_int) pa_nil))) (by with_unfolding_all rfl)) (pw_and1 (pt_cmpR op_notN (pv 3) (pe_non) (nomark _))))) (pss_one (ps_ret (pe_fn G__law_ask hr rfl (pa_cons (pv 0) (pa_cons (pv 1) (pa_cons (pv 2) (pa_cons (pv 3) (pa_cons (pe_op op_sub (pv 4) (pe_int)) pa_nil)))))))) pss_nil)
    (pss_cons (ps_if (PW.pt (pw_or (pt_cmpR op_lt (pv 5) (pe_int) (nomark _)) (pw_or1 (pt_cmpR op_eq (pv 5) (pe_int) (nomark _))))) (pss_one (ps_ret (pe_fn G__law_binding hr rfl (pa_cons (pv 0) (pa_cons (pv 5) (pa_cons (pv 1) (pa_cons (pv 2) (pa_cons (pv 3) (pa_cons (pv 4) pa_nil))))))))) pss_nil)
    (pss_cons (ps_if (PW.pt (pw_and (pt_cmpR op_in_seq (pv 5) (pe_lst (pa_cons (pe_int) (pa_cons (pe_int) (pa_cons (pe_int) (pa_cons (pe_int) pa_nil))))) (by with_unfolding_all rfl)) (pw_and1 (pt_cmpR op_lt (pv 1) (pe_int) (nomark _))))) (pss_one (ps_ret (pe_fn G__law_change hr rfl (pa_cons (pv 0) (pa_cons (pv 5) (pa_cons (pv 1) (pa_cons (pv 2) (pa_cons (pv 3) (pa_cons (pv 4) pa_nil))))))))) pss_nil)
    (pss_cons (ps_set (i := 6) sc__law_expression.nd rfl (.inl rfl) (pe_fn G__law_expression hr rfl (pa_cons (pv 0) (pa_cons (pv 1) (pa_cons (pv 2) (pa_cons (pv 3) (pa_cons (pe_op op_sub (pv 4) (pe_int)) pa_nil)))))))
    (pss_cons (ps_if (pt_cmpR op_lt (pv 5) (pe_int) (nomark _)) (pss_one (ps_ret (pe_tup (pa_cons (pe_ix ix_list (pe_lst (pa_cons (pe_str) (pa_cons (pe_str) (pa_cons (pe_str) pa_nil)))) (pe_op op_sub (pv 5) (pe_int)) (fun _ _ => rfl)) (pa_cons (pv 6) (pa_cons (pe_fn G__law_expression hr rfl (pa_cons (pv 0) (pa_cons (pv 1) (pa_cons (pv 2) (pa_cons (pv 3) (pa_cons (pe_op op_sub (pv 4) (pe_int)) pa_nil)))))) pa_nil)))))) pss_nil)
    (pss_cons (ps_if (pt_cmpR op_eq (pv 5) (pe_int) (nomark _)) (pss_cons (ps_set (i := 7) sc__law_expression.nd rfl (.inl rfl) (pe_fn G__law_expression hr rfl (pa_cons (pv 0) (pa_cons (pv 1) (pa_cons (pv 2) (pa_cons (pv 3) (pa_cons (pe_op op_sub (pv 4) (pe_int)) pa_nil)))))))
    (pss_one (ps_ret (pe_tup (pa_cons (pe_str) (pa_cons (pv 6) (pa_cons (pv 7) (pa_cons (pe_fn G__law_expression hr rfl (pa_cons (pv 0) (pa_cons (pv 1) (pa_cons (pv 2) (pa_cons (pv 3) (pa_cons (pe_op op_sub (pv 4) (pe_int)) pa_nil)))))) pa_nil)))))))) pss_nil)
    (pss_cons (ps_if (pt_cmpR op_lt (pv 5) (pe_int) (nomark _)) (pss_cons (ps_set (i := 8) sc__law_expression.nd rfl (.inl rfl) (pe_ix ix_list (pe_ix ix_list (pv 0) (pe_int) (fun _ _ => rfl)) (pe_ix ix_list (pe_lst (pa_cons (pe_int) (pa_cons (pe_int) (pa_cons (pe_int) (pa_cons (pe_int) pa_nil))))) (pe_fn G__law_take hr rfl (pa_cons (pv 0) (pa_cons (pe_int) pa_nil))) (fun _ _ => rfl)) (fun _ _ => rfl)))
    (pss_one (ps_ret (pe_tup (pa_cons (pe_str) (pa_cons (pv 8) (pa_cons (pv 6) (pa_cons (pe_fn G__law_expression hr rfl (pa_cons (pv 0) (pa_cons (pv 1) (pa_cons (pe_op op_cat (pv 2) (pe_lst (pa_cons (pv 8) pa_nil))) (pa_cons (pv 3) (pa_cons (pe_op op_sub (pv 4) (pe_int)) pa_nil)))))) pa_nil)))))))) pss_nil)
    (pss_cons (ps_if (pt_cmpR op_eq (pv 5) (pe_int) (nomark _)) (pss_one (ps_ret (pe_tup (pa_cons (pe_str) (pa_cons (pv 6) pa_nil))))) pss_nil)
    (pss_one (ps_ret (pe_tup (pa_cons (pe_str) (pa_cons (pv 6) (pa_cons (pe_fn G__law_expression hr rfl (pa_cons (pv 0) (pa_cons (pv 1) (pa_cons (pv 2) (pa_cons (pv 3) (pa_cons (pe_op op_sub (pv 4) (pe_int)) pa_nil)))))) pa_nil))))))))))))))))), ?_⟩
  have hC' := hC
  obtain ⟨s0, nm, ss, i, a0, kx, b0, hc, hs, h63, hi, hnm, n1, n2⟩ := hC'
  refine seq_i fun N hNx => ?_
  walk_at "g"
  refine hNx _ _ ?_
  clear hNx
  have hC1 : CSt (upd H c (.lst [.ref s0, .int i, .int a0, .int kx, .int (b0 - 1), .ref nm])) c nms := cst_mk hs h63 hi hnm n1 n2
  have o1 : Oth c H (upd H c (.lst [.ref s0, .int i, .int a0, .int kx, .int (b0 - 1), .ref nm])) := Oth.put
  show tSeq _ _ _ _ (upd H c (.lst [.ref s0, .int i, .int a0, .int kx, .int (b0 - 1), .ref nm]))
  generalize upd H c (.lst [.ref s0, .int i, .int a0, .int kx, .int (b0 - 1), .ref nm]) = H1 at hC1 o1 ⊢
  clear hc hs h63 hi hnm n1 n2
  refine seq_i fun N hNx => ?_
  walk_at "g"
  refine spTake.mk hC1 (by decide) (by decide) fun d H2 l2 u2 hC2 o2 => ?_
  refine hNx _ _ ?_
  clear hNx
  have o2 := o1.trans o2
  have hn2 := o2 _ _ hne hn
  have hC2' := hC2
  obtain ⟨s0, nm, ss, i, a0, kx, b0, hc, hs, h63, hi, hnm, n1, n2⟩ := hC2'
  refine seq_i fun N hNx => ?_
  have leaf : spLeaf [.ref c, .ref na, abV ab] H2 Q E0 := spLeaf.mk hC2 hn2 hne hw (by omega) hab fun v H3 hC3 o3 g3 => q _ _ hC3 (o2.trans o3) ((g3 lv ns hlv fun _ h => h).mono (by omega))
  walk_at "g"
  · exact leaf
  · exact leaf
  · exact leaf
  rename_i hdep hbud hk2
  have hd1 : 1 ≤ dep := by
    have := of_decide_eq_false hdep
    omega
  have hk2 : 2 ≤ d := by
    have := of_decide_eq_false hk2
    omega
  obtain ⟨m, hm, hm1, hm3⟩ : ∃ m, dep.toNat = m + 1 ∧ (dep - 1).toNat = m ∧ 0 ≤ m := ⟨(dep - 1).toNat, by omega, rfl, Nat.zero_le _⟩
  rw [hm] at q
  clear leaf hdep hbud hc hs h63 hi hnm n1 n2
  refine hNx _ _ ?_
  clear hNx
  -- behind the ask
  refine seq_i fun N hNx => ?_
  have rest : ∀ H3, Same H2 H3 → N [some (.ref c), some (.int lv), some (.ref na), some (abV ab), some (.int dep), some (.int d), none, none, none] H3 := by
    intro H3 s3
    have hC3 := hC2.same s3
    have o3 := o2.trans (Same.oth s3)
    have hn3 := o3 _ _ hne hn
    refine hNx _ _ ?_
    clear hNx
    refine seq_i fun N hNx => ?_
    have bind : spBinding n [.ref c, .int d, .int lv, .ref na, abV ab, .int dep] H3 Q E0 := spBinding.mk hC3 hN hlv hn3 hne hw hd1 (by omega) hz hab fun v H4 hC4 o4 g4 => q _ _ hC4 (o3.trans o4) (by rw [hm] at g4; exact g4)
    walk_at "g"
    · exact bind
    · exact bind
    refine hNx _ _ ?_
    clear hNx bind
    refine seq_i fun N hNx => ?_
    have rest : ∀ H4, Same H3 H4 → N [some (.ref c), some (.int lv), some (.ref na), some (abV ab), some (.int dep), some (.int d), none, none, none] H4 := by
      intro H4 s4
      have hC4 := hC3.same s4
      have o4 := o3.trans (Same.oth s4)
      have hn4 := o4 _ _ hne hn
      rename_i hk5 hk16
      have hk5 : 5 ≤ d := by
        have := of_decide_eq_false hk5
        omega
      refine hNx _ _ ?_
      clear hNx
      refine seq_i fun N hNx => ?_
      walk_at "g"
      refine spExpr.mk hC4 hN hlv hn4 hne hw (by omega) (by omega) (by omega) hab fun v5 H5 hC5 o5 g5 => ?_
      rw [hm1] at g5
      obtain ⟨l5, hl5⟩ := hC5.lst
      have o5 := o4.trans o5
      have hn5 := o5 _ _ hne hn
      refine hNx _ _ ?_
      clear hNx
      refine seq_i fun N hNx => ?_
      walk_at "g"
      · -- sum, less
        rename_i hk8
        have hk8 : d < 8 := of_decide_eq_true hk8
        walk_at "new"; rename_i p6 f6 H6 s6 t6
        walk_at "g"
        obtain ⟨v7, e1, e2⟩ := at_ex (xs := [V.str "sum", V.str "less", V.str "sum"]) (i := d - 5) (by omega) (by show d - 5 < 3; omega)
        refine ⟨_, _, _, _, rfl, rfl, SqL.of t6, e2, ?_⟩
        walk_at "g"
        refine spExpr.mk (hC5.same s6) hN hlv (s6 _ _ hn5) hne hw (by omega) (by omega) (by omega) hab fun v8 H8 hC8 o8 g8 => ?_
        rw [hm1] at g8
        walk_at "new"; rename_i p9 f9 H9 s9 t9
        have g5' : GT nms lv m H9 v5 ns ab := ((g5.tups (Same.tups s6)).tups (Oth.tups (s6 _ _ hl5) o8)).tups (Same.tups s9)
        refine q _ _ (hC8.same s9) (o5.trans ((Same.oth s6).trans (o8.trans (Same.oth s9)))) ?_
        have hd : d = 5 ∨ d = 6 ∨ d = 7 := by omega
        rcases hd with rfl | rfl | rfl
        · cases e1; exact (gt_op (o := .sum) t9 g5' (g8.tups (Same.tups s9))).mono (by omega)
        · cases e1; exact (gt_op (o := .less) t9 g5' (g8.tups (Same.tups s9))).mono (by omega)
        · cases e1; exact (gt_op (o := .sum) t9 g5' (g8.tups (Same.tups s9))).mono (by omega)
      refine hNx _ _ ?_
      clear hNx
      refine seq_i fun N hNx => ?_
      walk_at "g"
      · -- if
        refine seq_i fun N1 hN1 => ?_
        walk_at "g"
        refine spExpr.mk hC5 hN hlv hn5 hne hw (by omega) (by omega) (by omega) hab fun v6 H6 hC6 o6 g6 => ?_
        rw [hm1] at g6
        obtain ⟨l6, hl6⟩ := hC6.lst
        have g5' := g5.tups (Oth.tups hl5 o6)
        have o6 := o5.trans o6
        refine hN1 _ _ ?_
        walk_at "g"
        refine spExpr.mk hC6 hN hlv (o6 _ _ hne hn) hne hw (by omega) (by omega) (by omega) hab fun v7 H7 hC7 o7 g7 => ?_
        rw [hm1] at g7
        have tt := Oth.tups hl6 o7
        walk_at "new"; rename_i p9 f9 H9 s9 t9
        have ts := Same.tups s9
        exact q _ _ (hC7.same s9) (o6.trans (o7.trans (Same.oth s9))) ((gt_if t9 ((g5'.tups tt).tups ts) ((g6.tups tt).tups ts) (g7.tups ts)).mono (by omega))
      refine hNx _ _ ?_
      clear hNx
      refine seq_i fun N hNx => ?_
      walk_at "g"
      · -- let
        have hC5' := hC5
        obtain ⟨s0, nm, ss, i, a0, kx, b0, hc, hs, h63, hi, hnm, n1, n2⟩ := hC5'
        refine seq_i fun N1 hN1 => ?_
        walk_at "new"; rename_i p6 f6 H6 s6 t6
        have np6 : p6 ≠ c := by
          rintro rfl
          rw [hl5] at f6
          cases f6
        walk_at "g"
        refine spTake.mk (hC5.same s6) (by decide) (by decide) fun d7 H7 l7 u7 hC7 o7 => ?_
        obtain ⟨v8, e1, e2⟩ := at_ex (xs := [V.int 0, V.int 1, V.int 2, V.int 6]) l7 u7
        refine ⟨_, _, _, _, rfl, rfl, SqL.of (o7 _ _ np6 t6), e2, ?_⟩
        obtain ⟨j, rfl, hj0, hj6⟩ : ∃ j : Int, v8 = .int j ∧ 0 ≤ j ∧ j ≤ 6 := by
          have hd : d7 = 0 ∨ d7 = 1 ∨ d7 = 2 ∨ d7 = 3 := by omega
          rcases hd with rfl | rfl | rfl | rfl <;> cases e1 <;> exact ⟨_, rfl, by decide, by decide⟩
        obtain ⟨y', e3, e4⟩ := at_ex (xs := nms.map V.str) (i := j) hj0 (by rw [List.length_map]; have := hN.1; omega)
        obtain ⟨y, hy, rfl⟩ := mem_of_ix e3
        have hwy := hN.2 y hy
        refine ⟨_, _, _, _, rfl, rfl, SqL.of (o7 _ _ n2 (s6 _ _ hnm)), e4, hN1 _ _ ?_⟩
        have g7 : GT nms lv m H7 v5 ns ab := (g5.tups (Same.tups s6)).tups (Oth.tups (s6 _ _ hl5) o7)
        have o7' := o5.trans ((Same.oth s6).trans o7)
        clear hN1 e1 e2 e3 e4 hs h63 hi hnm n1 n2 hc
        walk_at "new"; rename_i p8 f8 H8 s8 t8
        walk_at "g"
        refine cat_i (s8 _ _ (o7' _ _ hne hn)) t8 (by rw [List.length_map]; simp; omega) fun p9 H9 s9 f9 t9 => ?_
        have t9 : H9 p9 = some (.lst ((ns ++ [y]).map V.str)) := by rw [List.map_append]; exact t9
        have so := s8.trans s9
        have np9 : p9 ≠ c := by
          rintro rfl
          obtain ⟨l, hl⟩ := hC7.lst
          rw [s8 _ _ hl] at f9
          cases f9
        have hw9 : ∀ z ∈ ns ++ [y], z ∈ nms := fun z hz => by
          rcases List.mem_append.mp hz with h | h
          · exact hw z h
          · rw [List.mem_singleton.mp h]; exact hwy
        walk_at "g"
        have hC9 := hC7.same so
        obtain ⟨l9, hl9⟩ := hC9.lst
        refine spExpr.mk hC9 hN hlv t9 np9 hw9 (by omega) (by omega) (by rw [List.length_append, List.length_singleton]; omega) hab fun v10 H10 hC10 o10 g10 => ?_
        rw [hm1] at g10
        walk_at "new"; rename_i p11 f11 H11 s11 t11
        exact q _ _ (hC10.same s11) (o7'.trans ((Same.oth so).trans (o10.trans (Same.oth s11)))) ((gt_let t11 hwy (((g7.tups (Same.tups so)).tups (Oth.tups hl9 o10)).tups (Same.tups s11)) (g10.tups (Same.tups s11))).mono (by omega))
      refine hNx _ _ ?_
      clear hNx
      refine seq_i fun N hNx => ?_
      walk_at "g"
      · walk_at "new"; rename_i p6 f6 H6 s6 t6
        exact q _ _ (hC5.same s6) (o5.trans (Same.oth s6)) ((gt_say t6 (g5.tups (Same.tups s6))).mono (by omega))
      refine hNx _ _ ?_
      clear hNx
      walk_at "g"
      refine spExpr.mk hC5 hN hlv hn5 hne hw (by omega) (by omega) (by omega) hab fun v6 H6 hC6 o6 g6 => ?_
      rw [hm1] at g6
      walk_at "new"; rename_i p7 f7 H7 s7 t7
      exact q _ _ (hC6.same s7) (o5.trans (o6.trans (Same.oth s7))) ((gt_op (o := .call) t7 ((g5.tups (Oth.tups hl5 o6)).tups (Same.tups s7)) (g6.tups (Same.tups s7))).mono (by omega))
    walk_at "new"; rename_i p4 f4 H4 s4 t4
    have hC4 := hC3.same s4
    have o4 := o3.trans (Same.oth s4)
    have hn4 := o4 _ _ hne hn
    walk_at "g"
    · rename_i hq3
      have hq3 : lv < 3 := of_decide_eq_true hq3
      exact spChange.mk hC4 hN (by omega) hn4 hne hw hd1 (by omega) hz hab fun v H5 hC5 o5 g5 => q _ _ hC5 (o4.trans o5) (by rw [hm] at g5; exact g5)
    · exact rest _ s4
    · exact rest _ s4
  walk_at "new"; rename_i p3 f3 H3 s3 t3
  have hC3 := hC2.same s3
  have o3 := o2.trans (Same.oth s3)
  have hn3 := o3 _ _ hne hn
  cases ab with
  | none =>
    walk_at "g"
    · exact rest _ s3
    · exact rest _ s3
  | some a =>
    walk_at "g"
    · exact spAsk.mk hC3 hN hlv hn3 hne hw (by omega) (by omega) (by omega) (hab a rfl) fun v H5 hC5 o5 g5 => q _ _ hC5 (o3.trans o5) (by rw [hm1] at g5; exact g5.mono (by omega))
    · exact rest _ s3
end
end Zt

set_option Elab.async false
set_option linter.all false
set_option maxRecDepth 100000
set_option maxHeartbeats 4000000
namespace Zt
open PySem L2 PySem.Spec PyProof.Rows Zg
local macro_rules | `(tactic| walk_at "sq") => `(tactic| first | exact SqL.of (by assumption) | exact .inl (SqL.of (by assumption)) | assumption | exact SqT.of (by assumption) | exact .inr (SqT.of (by assumption)) | exact SqL.of upd_same | exact .inl (SqL.of upd_same))
local macro_rules | `(tactic| walk_at "hp") => `(tactic| first | assumption | exact upd_same)
local macro_rules | `(tactic| walk_at "cond") => `(tactic| first | assumption | rfl | (apply And.intro <;> assumption) | decide | (show (0 : Int) < _; decide) | (apply And.intro <;> decide) | (apply Or.inr; apply And.intro <;> decide) | (apply Or.inl; apply And.intro <;> decide))
local macro_rules | `(tactic| walk_at "s") => `(tactic| first
  | (with_reducible apply iteF)
  | (with_reducible apply iteT)
  | (apply e1; rfl)
  | (apply e2; rfl; rfl)
  | (apply e4; rfl; rfl; walk_at "sq"; rfl)
  | (apply e4; rfl; rfl; walk_at "hp"; rfl)
  | (apply e2; rfl; walk_at "sq")
  | (apply eOr; rfl)
  | (apply eOrR; rfl)
  | (apply eTru; walk_at "sq")
  | (apply eTruT; walk_at "sq")
  | (apply And.intro; (walk_at "cond"))
  | (apply iteTr; rfl)
  | (apply iteFr; rfl)
  | (apply iteD; all_goals intro _)
  | (with_reducible apply tNext_i))
local macro_rules | `(tactic| walk_at "g") => `(tactic| repeat' ((fail_if_success (with_reducible apply seq_i)); (fail_if_success (with_reducible apply cut_i)); (walk_at "s")))
local macro_rules | `(tactic| walk_at "size") => `(tactic| first | (simp only [List.length_cons, List.length_nil]; decide) | decide)
local macro_rules | `(tactic| walk_at "newp") => `(tactic| (intro p hp; generalize hH : upd _ _ _ = H1; have st := new_facts hp hH; clear hH; obtain ⟨s, t⟩ := st))
local macro_rules | `(tactic| walk_at "new") => `(tactic| walk_at "g"; first | (apply And.intro; (focus (apply small100; walk_at "size")); walk_at "newp") | (walk_at "newp"))

theorem cut1 {v0 : V} {xs : List V} : cutV (v0 :: xs) (some 1) none = xs := cut_from (xs := v0 :: xs) (j := 1) (by simp)
def mx (l : List Int) : Int := l.foldr max 0
theorem mx_cons (x : Int) (l : List Int) : mx (x :: l) = max x (mx l) := rfl
theorem mx_pos : ∀ l : List Int, 0 ≤ mx l
  | [] => Int.le_refl _
  | x :: l => by
    have := mx_pos l
    rw [mx_cons]
    omega
theorem mx_ge : ∀ {l : List Int} {x : Int}, x ∈ l → x ≤ mx l
  | y :: l, x, h => by
    rw [mx_cons]
    cases h with
    | head => omega
    | tail _ h =>
      have := mx_ge h
      omega
theorem mx_le : ∀ {l : List Int} {m : Int}, 0 ≤ m → (∀ y ∈ l, y ≤ m) → mx l ≤ m
  | [], _, h, _ => h
  | y :: l, m, h, q => by
    have h1 := mx_le h fun z hz => q z (List.mem_cons_of_mem _ hz)
    have h2 := q y List.mem_cons_self
    rw [mx_cons]
    omega
theorem mx_of {l : List Int} {m : Int} (h1 : m ∈ (0 : Int) :: l) (h2 : ∀ y ∈ (0 : Int) :: l, y ≤ m) : m = mx l := by
  have h0 : 0 ≤ m := h2 0 List.mem_cons_self
  have a := mx_le h0 fun y hy => h2 y (List.mem_cons_of_mem _ hy)
  cases h1 with
  | head =>
    have := mx_pos l
    omega
  | tail _ h =>
    have := mx_ge h
    omega
/-- the expressions in one -/
def kids : TE → List TE
  | .fn _ b => [b]
  | .op _ a b => [a, b]
  | .iff c a b => [c, a, b]
  | .lett _ a b => [a, b]
  | .say a => [a]
  | .rule _ r b => [r, b]
  | .keep _ r => [r]
  | .witha a => [a]
  | .do1 a => [a]
  | .do2 a b => [a, b]
  | _ => []
theorem kids_len (e : TE) : (kids e).length ≤ 3 := by cases e <;> exact Nat.le_of_ble_eq_true rfl
theorem kids_ht {e d : TE} {n : Nat} (h : ht e ≤ n + 1) (hd : d ∈ kids e) : ht d ≤ n := by
  cases e <;> (rw [ht] at h; simp only [kids, List.mem_cons, List.not_mem_nil, or_false] at hd)
  all_goals first | (subst hd; omega) | (rcases hd with rfl | rfl <;> omega) | (rcases hd with rfl | rfl | rfl <;> omega)
theorem ht_kids (e : TE) : (ht e : Int) = 1 + mx ((kids e).map fun d => (ht d : Int)) := by
  cases e <;> (rw [ht]; simp only [kids, List.map_cons, List.map_nil, mx, List.foldr]; omega)
theorem sz_kids (e : TE) : (sz e : Int) = 1 + ((kids e).map fun d => (sz d : Int)).sum := by
  cases e <;> (rw [sz]; simp only [kids, List.map_cons, List.map_nil, List.sum_cons, List.sum_nil]; omega)
/-- what stands behind the word -/
def SlotR (H : Hp) : Option TE → V → Prop
  | none, v => (∃ i, v = .int i) ∨ ∃ x, v = .str x
  | some e, v => RT H e v
theorem SlotR.tups {H H' : Hp} (h : Tups H H') : ∀ {o : Option TE} {v : V}, SlotR H o v → SlotR H' o v
  | none, _, q => q
  | some _, _, q => RT.tups h q
theorem rt_slots {H : Hp} {e : TE} {v : V} (r : RT H e v) : (∃ a xr os, v = .ref a ∧ wd e ≠ "do" ∧ H a = some (.tup (.str (wd e) :: xr)) ∧ Paired (SlotR H) os xr ∧ os.filterMap id = kids e ∧ os.length ≤ 3) ∨ (∃ a t xs, v = .ref a ∧ wd e = "do" ∧ H a = some (.tup [.str "do", .ref t]) ∧ H t = some (.tup xs) ∧ Paired (RT H) (kids e) xs) := by
  cases e with
  | num n =>
    obtain ⟨a, rfl, h⟩ := r
    exact .inl ⟨a, _, [none], rfl, (by decide +kernel : ("num" : Str) ≠ "do"), h, .cons (.inl ⟨_, rfl⟩) .nil, rfl, by decide⟩
  | name x =>
    obtain ⟨a, rfl, h⟩ := r
    exact .inl ⟨a, _, [none], rfl, (by decide +kernel : ("name" : Str) ≠ "do"), h, .cons (.inr ⟨_, rfl⟩) .nil, rfl, by decide⟩
  | fn x b =>
    obtain ⟨a, u, rfl, h, r1⟩ := r
    exact .inl ⟨a, _, [none, some b], rfl, (by decide +kernel : ("fn" : Str) ≠ "do"), h, .cons (.inr ⟨_, rfl⟩) (.cons r1 .nil), rfl, Nat.le_of_ble_eq_true rfl⟩
  | op o x y =>
    obtain ⟨a, u, w, rfl, h, r1, r2⟩ := r
    have hw : wd (.op o x y) ≠ "do" := by cases o with
      | call => exact (by decide +kernel : ("call" : Str) ≠ "do")
      | sum => exact (by decide +kernel : ("sum" : Str) ≠ "do")
      | less => exact (by decide +kernel : ("less" : Str) ≠ "do")
    exact .inl ⟨a, _, [some x, some y], rfl, hw, h, .cons r1 (.cons r2 .nil), rfl, Nat.le_of_ble_eq_true rfl⟩
  | iff c x y =>
    obtain ⟨a, t, u, w, rfl, h, r1, r2, r3⟩ := r
    exact .inl ⟨a, _, [some c, some x, some y], rfl, (by decide +kernel : ("if" : Str) ≠ "do"), h, .cons r1 (.cons r2 (.cons r3 .nil)), rfl, Nat.le_of_ble_eq_true rfl⟩
  | lett z x y =>
    obtain ⟨a, u, w, rfl, h, r1, r2⟩ := r
    exact .inl ⟨a, _, [none, some x, some y], rfl, (by decide +kernel : ("let" : Str) ≠ "do"), h, .cons (.inr ⟨_, rfl⟩) (.cons r1 (.cons r2 .nil)), rfl, Nat.le_of_ble_eq_true rfl⟩
  | say x =>
    obtain ⟨a, u, rfl, h, r1⟩ := r
    exact .inl ⟨a, _, [some x], rfl, (by decide +kernel : ("say" : Str) ≠ "do"), h, .cons r1 .nil, rfl, Nat.le_of_ble_eq_true rfl⟩
  | rule q x y =>
    obtain ⟨a, u, w, rfl, h, r1, r2, _⟩ := r
    exact .inl ⟨a, _, [none, some x, some y], rfl, (by decide +kernel : ("rule" : Str) ≠ "do"), h, .cons (.inr ⟨_, rfl⟩) (.cons r1 (.cons r2 .nil)), rfl, Nat.le_of_ble_eq_true rfl⟩
  | keep q x =>
    obtain ⟨a, u, rfl, h, r1, _⟩ := r
    exact .inl ⟨a, _, [none, some x], rfl, (by decide +kernel : ("keep" : Str) ≠ "do"), h, .cons (.inr ⟨_, rfl⟩) (.cons r1 .nil), rfl, Nat.le_of_ble_eq_true rfl⟩
  | part i =>
    obtain ⟨a, rfl, h⟩ := r
    exact .inl ⟨a, _, [none], rfl, (by decide +kernel : ("part" : Str) ≠ "do"), h, .cons (.inl ⟨_, rfl⟩) .nil, rfl, by decide⟩
  | witha x =>
    obtain ⟨a, u, rfl, h, r1⟩ := r
    exact .inl ⟨a, _, [some x], rfl, (by decide +kernel : ("with" : Str) ≠ "do"), h, .cons r1 .nil, rfl, Nat.le_of_ble_eq_true rfl⟩
  | usual =>
    obtain ⟨a, rfl, h⟩ := r
    exact .inl ⟨a, _, [], rfl, (by decide +kernel : ("usual" : Str) ≠ "do"), h, .nil, rfl, by decide⟩
  | do1 x =>
    obtain ⟨a, t, u, rfl, h, h2, r1⟩ := r
    exact .inr ⟨a, t, _, rfl, rfl, h, h2, .cons r1 .nil⟩
  | do2 x y =>
    obtain ⟨a, t, u, w, rfl, h, h2, r1, r2⟩ := r
    exact .inr ⟨a, t, _, rfl, rfl, h, h2, .cons r1 (.cons r2 .nil)⟩
inductive spLInner : List V → Hp → VK → XK → Prop
  | mk {e : TE} {v : V} {H : Hp} {Q : VK} {E : XK} (r : RT H e v) (q : ∀ p xs H', Same H H' → (H' p = some (.lst xs) ∨ H' p = some (.tup xs)) → Paired (RT H') (kids e) xs → Q (.ref p) H') : spLInner [v] H Q E
inductive spLDepth (n : Nat) : List V → Hp → VK → XK → Prop
  | mk {e : TE} {v : V} {H : Hp} {Q : VK} {E : XK} (r : RT H e v) (l : ht e ≤ n) (q : ∀ H', Same H H' → Q (.int (ht e)) H') : spLDepth n [v] H Q E
inductive spLSize (n : Nat) : List V → Hp → VK → XK → Prop
  | mk {e : TE} {v : V} {H : Hp} {Q : VK} {E : XK} (r : RT H e v) (l : ht e ≤ n) (q : ∀ H', Same H H' → Q (.int (sz e)) H') : spLSize n [v] H Q E
theorem slot_ok {H : Hp} {o : Option TE} {v : V} (h : SlotR H o v) : PartOk H v ∧ isRef v = o.isSome := by
  cases o with
  | none =>
    rcases h with ⟨i, rfl⟩ | ⟨x, rfl⟩
    · exact ⟨.inl ⟨_, rfl⟩, rfl⟩
    · exact ⟨.inr (.inl ⟨_, rfl⟩), rfl⟩
  | some e =>
    obtain ⟨a, rest, rfl, ha⟩ := rt_tup (show RT H e v from h)
    exact ⟨.inr (.inr ⟨_, _, rfl, ha⟩), rfl⟩
section
variable {P : Program} {w : World} {K : PySem.W.Frag} {mg : Str → Option Value} {base : Heap} {aFunction aRun aRunB aPlace aForms aActions aOps : Addr} {k n : Nat}
theorem ok_linner (T : Tx w K mg aFunction aRun aRunB aPlace aForms aActions aOps) : FnX P w K mg base (k + 1) "_law_inner" ["e"] spLInner := by
  refine T.d__law_inner.ok sc__law_inner (fun vs H Q E h => by cases h; rfl) (fun f cdv A outer s H vs Q E hr h => ?_)
  rcases h with ⟨r, q⟩
  rename_i e v
  refine ⟨_, (pss_cons (ps_if (pt_cmpR op_eq (pe_ix ix_tup (pv 0) (pe_int) (fun _ _ => rfl)) (pe_str) (nomark _)) (pss_one (ps_ret (pe_ix ix_tup (pv 0) (pe_int) (fun _ _ => rfl)))) pss_nil)
    (pss_one (ps_ret (pe_lc (own := [("part", 1)]) (tt := tB (tCB (rIsi K) (tCons (tVar 1) (tCons (tC (.ty "tuple")) tNil)))) rfl sc__law_inner.nd (pi_tup (pe_slice sl_tupA (pv 0) (po_some (pe_int)) po_none)) (blkOk_by (N := ["e", "part"]) (sc := defScope s__law_inner) (by decide +kernel)) (fun _ _ _ _ _ => pg_name (i := 1) sc__law_inner.nd rfl (.inl rfl)) (fun _ _ _ _ _ => pts_one (pt_val (pe_callB call_isi rfl T.z_isinstance (by decide +kernel) (pa_cons (pv 1) (pa_cons (pe_bltn (v := .ty "tuple") rfl T.z_tuple (by decide +kernel) rfl) pa_nil))))) (fun _ _ _ _ _ => pv 1))))), ?_⟩
  rcases rt_slots r with ⟨ad, xr, os, rfl, hw, had, po, hos, hl⟩ | ⟨ad, t, xs, rfl, hw, had, ht, pk⟩
  · have hlx := Paired.length' po
    refine seq_i fun N hN => ?_
    walk_at "g"
    refine ⟨_, _, _, _, rfl, rfl, SqT.of had, at0, ?_⟩
    walk_at "g"
    · rename_i e8
      exact absurd (str_dec e8) hw
    refine hN _ _ ?_
    clear hN
    walk_at "g"
    refine ⟨fun hw => (not_whole1 hw).elim, fun _ => ?_⟩
    walk_at "new"; rename_i p3 f3 H3 s3 t3
    rw [cut1] at t3
    refine ⟨_, rfl, ⟨_, SqT.of t3⟩, fun D hD => ?_⟩
    refine lc_it (walk_tup (xs := xr)) (fun i H4 => Same H3 H4 ∧ ∃ ys, H4 D = some (.lst ys) ∧ Paired (RT H4) ((os.take i).filterMap id) ys) ⟨Same.new hD, [], upd_same, .nil⟩ (fun i H4 _ h => SqT.of (h.1 _ _ t3)) ?_ (fun H4 h => ?_)
    · rintro i x H4 H5 hi ⟨s4, ys, h4, pr4⟩ ⟨rfl, ex⟩
      obtain ⟨o', x', e1, e2, rr⟩ := Paired.at (i := i) po (by omega)
      rw [ex] at e2
      cases e2
      have etk : os.take (i + 1) = os.take i ++ [o'] := by rw [List.take_succ, e1] <;> rfl
      refine ⟨rfl, ?_⟩
      have rr4 := rr.tups (Same.tups (Same.trans s3 s4))
      have hly := Paired.length' pr4
      have hlf := List.length_filterMap_le id (os.take i)
      rw [List.length_take] at hlf
      obtain ⟨pok, eis⟩ := slot_ok rr4
      walk_at "g"
      refine isi_part pok ?_
      rw [etk, List.filterMap_append, eis]
      cases o' with
      | some e =>
        walk_at "g"
        refine ⟨_, h4, Nat.lt_of_lt_of_le (m := 100000) (by omega) (by decide), fun b o e => ?_, _, upd_same, ?_⟩
        · rw [upd_ne (ne_of_none e hD)]
          exact s4 _ _ e
        · have o : Oth D H5 (upd H5 D (.lst (ys ++ [x]))) := Oth.put
          exact Paired.snoc' (Paired.imp' pr4 fun _ _ r => r.tups (o.tups h4)) (RT.tups (o.tups h4) rr4)
      | none =>
        walk_at "g"
        refine ⟨ys, h4, ?_⟩
        rw [show ([none] : List (Option TE)).filterMap id = [] from rfl, List.append_nil]
        exact pr4
    · obtain ⟨s4, ys, h4, pr4⟩ := h
      rw [List.take_of_length_le (by omega), hos] at pr4
      exact q _ ys _ (Same.trans s3 s4) (.inl h4) pr4
  · refine seq_i fun N hN => ?_
    walk_at "g"
    exact q t xs _ (Same.refl _) (.inr ht) pk
end
end Zt

set_option Elab.async false
set_option linter.all false
set_option maxRecDepth 100000
set_option maxHeartbeats 4000000
namespace Zt
open PySem L2 PySem.Spec PyProof.Rows Zg RZ
local macro_rules | `(tactic| walk_at "sq") => `(tactic| first | exact SqL.of (by assumption) | exact .inl (SqL.of (by assumption)) | assumption | exact SqT.of (by assumption) | exact .inr (SqT.of (by assumption)) | exact SqL.of upd_same | exact .inl (SqL.of upd_same))
local macro_rules | `(tactic| walk_at "hp") => `(tactic| first | assumption | exact upd_same)
local macro_rules | `(tactic| walk_at "cond") => `(tactic| first | assumption | rfl | (apply And.intro <;> assumption) | decide | (show (0 : Int) < _; decide) | (apply And.intro <;> decide) | (apply Or.inr; apply And.intro <;> decide) | (apply Or.inl; apply And.intro <;> decide))
local macro_rules | `(tactic| walk_at "s") => `(tactic| first
  | (with_reducible apply iteF)
  | (with_reducible apply iteT)
  | (apply e1; rfl)
  | (apply e2; rfl; rfl)
  | (apply e4; rfl; rfl; walk_at "sq"; rfl)
  | (apply e4; rfl; rfl; walk_at "hp"; rfl)
  | (apply e2; rfl; walk_at "sq")
  | (apply eOr; rfl)
  | (apply eOrR; rfl)
  | (apply eTru; walk_at "sq")
  | (apply eTruT; walk_at "sq")
  | (apply And.intro; (walk_at "cond"))
  | (apply iteTr; rfl)
  | (apply iteFr; rfl)
  | (apply iteD; all_goals intro _)
  | (with_reducible apply tNext_i))
local macro_rules | `(tactic| walk_at "g") => `(tactic| repeat' ((fail_if_success (with_reducible apply seq_i)); (fail_if_success (with_reducible apply cut_i)); (walk_at "s")))
local macro_rules | `(tactic| walk_at "size") => `(tactic| first | (simp only [List.length_cons, List.length_nil]; decide) | decide)
local macro_rules | `(tactic| walk_at "newp") => `(tactic| (intro p hp; generalize hH : upd _ _ _ = H1; have st := new_facts hp hH; clear hH; obtain ⟨s, t⟩ := st))
local macro_rules | `(tactic| walk_at "new") => `(tactic| walk_at "g"; first | (apply And.intro; (focus (apply small100; walk_at "size")); walk_at "newp") | (walk_at "newp"))

/-! ### a walk over a list or a tuple -/
def iSeq (K : PySem.W.Frag) (tl : L2.TE) : L2.TI := fun σ H R => tl σ H fun x H1 => ∃ a, x = .ref a ∧ ((∃ xs, SqL K H1 a xs ∧ R (Itl K a) H1) ∨ (∃ xs, SqT K H1 a xs ∧ R (Itt K a) H1))
theorem pi_seq {X : Cx} {tg l : Expr} {tl : L2.TE} (hl : PE X l tl) : PI X tg l (iSeq X.K tl) := by
  refine ⟨fun pins s σ H R I h => ?_⟩
  refine thn (hl.run pins s σ H _ I h) fun v s1 ⟨x, H1, I1, r1, a, e, q⟩ => ?_
  subst e
  cases r1
  rcases q with ⟨xs, hq, q⟩ | ⟨xs, hq, q⟩
  · obtain ⟨its, rv, p, hz⟩ := I1.list hq
    exact wpAny_pyIter_list p.isList (pi_one (tk := s1.toks) I1 _ (turn_list a _) ⟨_, Heap.get?_push_size _ rfl, rfl, rfl⟩ q)
  · obtain ⟨its, rv, p, hz⟩ := I1.tuple hq
    exact wpAny_pyIter_tuple (show s1.heap.IsTuple a its.toArray from p) (pi_one (tk := s1.toks) I1 _ (turn_tuple a _) ⟨_, Heap.get?_push_size _ rfl, rfl, rfl⟩ q)
section
variable {P : Program} {w : World} {K : PySem.W.Frag} {mg : Str → Option Value} {base : Heap} {aFunction aRun aRunB aPlace aForms aActions aOps : Addr} {k n : Nat}
theorem ok_ldepth0 (T : Tx w K mg aFunction aRun aRunB aPlace aForms aActions aOps) : FnX P w K mg base 1 "_law_depth" ["e"] (spLDepth 0) := by
  refine T.d__law_depth.ok sc__law_depth (fun vs H Q E h => by cases h; rfl) (fun f cdv A outer s H vs Q E hr h => ?_)
  rcases h with ⟨r, l, q⟩
  rename_i e v
  have := ht_pos e
  omega
theorem ok_ldepth (T : Tx w K mg aFunction aRun aRunB aPlace aForms aActions aOps) (G__law_inner : FnX P w K mg base k "_law_inner" ["e"] spLInner) (G__law_depth : FnX P w K mg base k "_law_depth" ["e"] (spLDepth n)) :
    FnX P w K mg base (k + 1) "_law_depth" ["e"] (spLDepth (n + 1)) := by
  refine T.d__law_depth.ok sc__law_depth (fun vs H Q E h => by cases h; rfl) (fun f cdv A outer s H vs Q E hr h => ?_)
  rcases h with ⟨r, l, q⟩
  rename_i d v
  refine ⟨_, (pss_one (ps_ret (pe_op op_add (pe_int) (pe_callB (cr_max rfl) rfl T.z_max (by decide +kernel) (pa_cons (pe_op op_cat (pe_lst (pa_cons (pe_int) pa_nil)) (pe_lc (own := [("part", 1)]) rfl sc__law_depth.nd (pi_seq (pe_fn G__law_inner hr rfl (pa_cons (pv 0) pa_nil))) (blkOk_by (N := ["e", "part"]) (sc := defScope s__law_depth) (by decide +kernel)) (fun _ _ _ _ _ => pg_name (i := 1) sc__law_depth.nd rfl (.inl rfl)) (fun _ _ _ _ _ => pts_nil) (fun _ _ _ _ _ => pe_fn G__law_depth hr rfl (pa_cons (pv 1) pa_nil)))) pa_nil))))), ?_⟩
  have hk9 := kids_len d
  walk_at "new"; rename_i p0 f0 H0 s0 t0
  walk_at "g"
  refine spLInner.mk (r.tups (Same.tups s0)) fun p1 xs H1 s1 h1 pr => ?_
  have hlx := Paired.length' pr
  refine ⟨p1, rfl, ?_⟩
  rcases h1 with h1 | h1
  · refine .inl ⟨xs, SqL.of h1, fun D hD => ?_⟩
    refine lc_rel (walk_list (xs := xs)) (fun i H v => ∃ e, (kids d)[i]? = some e ∧ v = .int (ht e)) hD (by omega) (fun _ _ _ _ _ _ h => h) (fun H6 s6 => SqL.of (s6 _ _ h1)) ?_ ?_
    · rintro i v H6 H7 Q2 N2 hi s6 ⟨rfl, ex⟩ qq
      refine ⟨rfl, yes_i ?_⟩
      obtain ⟨d', x', e1, e2, rr⟩ := Paired.at (i := i) pr (by omega)
      rw [ex] at e2
      cases e2
      walk_at "g"
      refine spLDepth.mk (rr.tups (Same.tups s6)) (kids_ht l (List.mem_of_getElem? e1)) fun H8 s8 => ?_
      exact qq _ _ s8 ⟨d', e1, rfl⟩
    · intro H6 ys s6 h6 hl6 hr6
      have ey := ys_of (dr := kids d) (f := fun e => V.int (ht e)) (by omega) hr6
      have ey2 : ys = ((kids d).map (fun e => (ht e : Int))).map V.int := by rw [ey, List.map_map] <;> rfl
      rw [ey2] at h6
      have s16 := Same.trans s1 s6
      refine cat_i (s16 _ _ t0) h6 (by rw [List.length_map, List.length_map]; simp only [List.length_cons, List.length_nil]; omega) fun p7 H7 s7 f7 t7 => ?_
      walk_at "g"
      refine ⟨p7, 0 :: (kids d).map (fun e => (ht e : Int)), rfl, SqL.of t7, Nat.succ_pos _, fun m m1 m2 => ?_⟩
      cases mx_of m1 m2
      walk_at "g"
      rw [ht_kids] at q
      exact q _ (Same.trans s0 (Same.trans s16 s7))
  · refine .inr ⟨xs, SqT.of h1, fun D hD => ?_⟩
    refine lc_rel (walk_tup (xs := xs)) (fun i H v => ∃ e, (kids d)[i]? = some e ∧ v = .int (ht e)) hD (by omega) (fun _ _ _ _ _ _ h => h) (fun H6 s6 => SqT.of (s6 _ _ h1)) ?_ ?_
    · rintro i v H6 H7 Q2 N2 hi s6 ⟨rfl, ex⟩ qq
      refine ⟨rfl, yes_i ?_⟩
      obtain ⟨d', x', e1, e2, rr⟩ := Paired.at (i := i) pr (by omega)
      rw [ex] at e2
      cases e2
      walk_at "g"
      refine spLDepth.mk (rr.tups (Same.tups s6)) (kids_ht l (List.mem_of_getElem? e1)) fun H8 s8 => ?_
      exact qq _ _ s8 ⟨d', e1, rfl⟩
    · intro H6 ys s6 h6 hl6 hr6
      have ey := ys_of (dr := kids d) (f := fun e => V.int (ht e)) (by omega) hr6
      have ey2 : ys = ((kids d).map (fun e => (ht e : Int))).map V.int := by rw [ey, List.map_map] <;> rfl
      rw [ey2] at h6
      have s16 := Same.trans s1 s6
      refine cat_i (s16 _ _ t0) h6 (by rw [List.length_map, List.length_map]; simp only [List.length_cons, List.length_nil]; omega) fun p7 H7 s7 f7 t7 => ?_
      walk_at "g"
      refine ⟨p7, 0 :: (kids d).map (fun e => (ht e : Int)), rfl, SqL.of t7, Nat.succ_pos _, fun m m1 m2 => ?_⟩
      cases mx_of m1 m2
      walk_at "g"
      rw [ht_kids] at q
      exact q _ (Same.trans s0 (Same.trans s16 s7))
theorem ok_lsize0 (T : Tx w K mg aFunction aRun aRunB aPlace aForms aActions aOps) : FnX P w K mg base 1 "_law_size" ["e"] (spLSize 0) := by
  refine T.d__law_size.ok sc__law_size (fun vs H Q E h => by cases h; rfl) (fun f cdv A outer s H vs Q E hr h => ?_)
  rcases h with ⟨r, l, q⟩
  rename_i e v
  have := ht_pos e
  omega
theorem ok_lsize (T : Tx w K mg aFunction aRun aRunB aPlace aForms aActions aOps) (G__law_inner : FnX P w K mg base k "_law_inner" ["e"] spLInner) (G__law_size : FnX P w K mg base k "_law_size" ["e"] (spLSize n)) :
    FnX P w K mg base (k + 1) "_law_size" ["e"] (spLSize (n + 1)) := by
  refine T.d__law_size.ok sc__law_size (fun vs H Q E h => by cases h; rfl) (fun f cdv A outer s H vs Q E hr h => ?_)
  rcases h with ⟨r, l, q⟩
  rename_i d v
  refine ⟨_, (pss_one (ps_ret (pe_op op_add (pe_int) (pe_callB (cr_sum rfl) rfl T.z_sum (by decide +kernel) (pa_cons (pe_lc (own := [("part", 1)]) rfl sc__law_size.nd (pi_seq (pe_fn G__law_inner hr rfl (pa_cons (pv 0) pa_nil))) (blkOk_by (N := ["e", "part"]) (sc := defScope s__law_size) (by decide +kernel)) (fun _ _ _ _ _ => pg_name (i := 1) sc__law_size.nd rfl (.inl rfl)) (fun _ _ _ _ _ => pts_nil) (fun _ _ _ _ _ => pe_fn G__law_size hr rfl (pa_cons (pv 1) pa_nil))) pa_nil))))), ?_⟩
  have hk9 := kids_len d
  walk_at "g"
  refine spLInner.mk r fun p1 xs H1 s1 h1 pr => ?_
  have hlx := Paired.length' pr
  refine ⟨p1, rfl, ?_⟩
  rcases h1 with h1 | h1
  · refine .inl ⟨xs, SqL.of h1, fun D hD => ?_⟩
    refine lc_rel (walk_list (xs := xs)) (fun i H v => ∃ e, (kids d)[i]? = some e ∧ v = .int (sz e)) hD (by omega) (fun _ _ _ _ _ _ h => h) (fun H6 s6 => SqL.of (s6 _ _ h1)) ?_ ?_
    · rintro i v H6 H7 Q2 N2 hi s6 ⟨rfl, ex⟩ qq
      refine ⟨rfl, yes_i ?_⟩
      obtain ⟨d', x', e1, e2, rr⟩ := Paired.at (i := i) pr (by omega)
      rw [ex] at e2
      cases e2
      walk_at "g"
      refine spLSize.mk (rr.tups (Same.tups s6)) (kids_ht l (List.mem_of_getElem? e1)) fun H8 s8 => ?_
      exact qq _ _ s8 ⟨d', e1, rfl⟩
    · intro H6 ys s6 h6 hl6 hr6
      have ey := ys_of (dr := kids d) (f := fun e => V.int (sz e)) (by omega) hr6
      have ey2 : ys = ((kids d).map (fun e => (sz e : Int))).map V.int := by rw [ey, List.map_map] <;> rfl
      rw [ey2] at h6
      walk_at "g"
      rw [sz_kids] at q
      exact q _ (Same.trans s1 s6)
  · refine .inr ⟨xs, SqT.of h1, fun D hD => ?_⟩
    refine lc_rel (walk_tup (xs := xs)) (fun i H v => ∃ e, (kids d)[i]? = some e ∧ v = .int (sz e)) hD (by omega) (fun _ _ _ _ _ _ h => h) (fun H6 s6 => SqT.of (s6 _ _ h1)) ?_ ?_
    · rintro i v H6 H7 Q2 N2 hi s6 ⟨rfl, ex⟩ qq
      refine ⟨rfl, yes_i ?_⟩
      obtain ⟨d', x', e1, e2, rr⟩ := Paired.at (i := i) pr (by omega)
      rw [ex] at e2
      cases e2
      walk_at "g"
      refine spLSize.mk (rr.tups (Same.tups s6)) (kids_ht l (List.mem_of_getElem? e1)) fun H8 s8 => ?_
      exact qq _ _ s8 ⟨d', e1, rfl⟩
    · intro H6 ys s6 h6 hl6 hr6
      have ey := ys_of (dr := kids d) (f := fun e => V.int (sz e)) (by omega) hr6
      have ey2 : ys = ((kids d).map (fun e => (sz e : Int))).map V.int := by rw [ey, List.map_map] <;> rfl
      rw [ey2] at h6
      walk_at "g"
      rw [sz_kids] at q
      exact q _ (Same.trans s1 s6)
end
end Zt

set_option Elab.async false
set_option linter.all false
set_option maxRecDepth 100000
set_option maxHeartbeats 4000000
namespace Zt
open PySem L2 PySem.Spec PyProof.Rows Zg RZ
local macro_rules | `(tactic| walk_at "sq") => `(tactic| first | exact SqL.of (by assumption) | exact .inl (SqL.of (by assumption)) | assumption | exact SqT.of (by assumption) | exact .inr (SqT.of (by assumption)) | exact SqL.of upd_same | exact .inl (SqL.of upd_same))
local macro_rules | `(tactic| walk_at "hp") => `(tactic| first | assumption | exact upd_same)
local macro_rules | `(tactic| walk_at "cond") => `(tactic| first | assumption | rfl | (apply And.intro <;> assumption) | decide | (show (0 : Int) < _; decide) | (apply And.intro <;> decide) | (apply Or.inr; apply And.intro <;> decide) | (apply Or.inl; apply And.intro <;> decide))
local macro_rules | `(tactic| walk_at "s") => `(tactic| first
  | (with_reducible apply iteF)
  | (with_reducible apply iteT)
  | (apply e1; rfl)
  | (apply e2; rfl; rfl)
  | (apply e4; rfl; rfl; walk_at "sq"; rfl)
  | (apply e4; rfl; rfl; walk_at "hp"; rfl)
  | (apply e2; rfl; walk_at "sq")
  | (apply eOr; rfl)
  | (apply eOrR; rfl)
  | (apply eTru; walk_at "sq")
  | (apply eTruT; walk_at "sq")
  | (apply And.intro; (walk_at "cond"))
  | (apply iteTr; rfl)
  | (apply iteFr; rfl)
  | (apply iteD; all_goals intro _)
  | (with_reducible apply tNext_i))
local macro_rules | `(tactic| walk_at "g") => `(tactic| repeat' ((fail_if_success (with_reducible apply seq_i)); (fail_if_success (with_reducible apply cut_i)); (walk_at "s")))
local macro_rules | `(tactic| walk_at "size") => `(tactic| first | (simp only [List.length_cons, List.length_nil]; decide) | decide)
local macro_rules | `(tactic| walk_at "newp") => `(tactic| (intro p hp; generalize hH : upd _ _ _ = H1; have st := new_facts hp hH; clear hH; obtain ⟨s, t⟩ := st))
local macro_rules | `(tactic| walk_at "new") => `(tactic| walk_at "g"; first | (apply And.intro; (focus (apply small100; walk_at "size")); walk_at "newp") | (walk_at "newp"))

def isLet (c : Nat) : Bool := (decide (97 ≤ c) && decide (c ≤ 122)) || (decide (65 ≤ c) && decide (c ≤ 90))
def isDig (c : Nat) : Bool := decide (48 ≤ c) && decide (c ≤ 57)
/-- a name of one to eight letters and digits -/
def word (x : Str) : Bool := decide (1 ≤ x.cps.toList.length) && decide (x.cps.toList.length ≤ 8) && isLet (x.cps.toList.headD 0) && x.cps.toList.all (fun c => isLet c || isDig c) && (shapeOf x).isNone
def digitsS : Str := "0123456789"
theorem dig_mem {c : Nat} : decide (c ∈ digitsS.cps.toList) = isDig c := by
  have e : digitsS.cps.toList = List.range' 48 10 := by decide +kernel
  rw [e]
  unfold isDig
  rw [Bool.eq_iff_iff]
  simp only [decide_eq_true_eq, List.mem_range'_1, Bool.and_eq_true]
  omega
theorem free_shape {x : Str} : decide (x ∉ wordsL) = (shapeOf x).isNone := by
  have e : wordsL = (["num", "name", "fn", "call", "sum", "less", "if", "let", "say", "rule", "keep", "part", "with", "usual", "do"] : List Str) := by decide +kernel
  rw [e, Bool.eq_iff_iff, decide_eq_true_eq]
  constructor
  · intro h
    simp only [List.mem_cons, List.not_mem_nil, or_false, not_or] at h
    obtain ⟨h1, h2, h3, h4, h5, h6, h7, h8, h9, h10, h11, h12, h13, h14, h15⟩ := h
    unfold shapeOf
    rw [if_neg h1, if_neg h2, if_neg h3, if_neg h4, if_neg h5, if_neg h6, if_neg h7, if_neg h8, if_neg h9, if_neg h10, if_neg h11, if_neg h12, if_neg h13, if_neg h14, if_neg h15] <;> rfl
  · intro h hx
    simp only [List.mem_cons, List.not_mem_nil, or_false] at hx
    rcases hx with rfl | rfl | rfl | rfl | rfl | rfl | rfl | rfl | rfl | rfl | rfl | rfl | rfl | rfl | rfl <;> exact Bool.noConfusion h
theorem str_len (x : Str) : x.cps.toList.length = x.length := by simp [Str.length]
theorem strlen_ok {x : Str} (h : x.length ≤ 100) : x.length ≤ sizeLine := small100 (by omega)

/-! ### the names -/
def signsS : Str := "abcdefghijklmnopqrstuvwxyzABCDEFGHIJKLMNOPQRSTUVWXYZ0123456789"
def sg (i : Nat) : Nat := signsS.cps.toList.getD i 0
theorem sg_alnum : ∀ i, i < 62 → (isLet (sg i) || isDig (sg i)) = true := by decide +kernel
theorem sg_let : ∀ i, i < 52 → isLet (sg i) = true := by decide +kernel
theorem sg_get : ∀ i, i < 62 → signsS.cps.toList[i]? = some (sg i) := by decide +kernel
theorem sg_inj : ∀ i, i < 62 → ∀ j, j < 62 → sg i = sg j → i = j := by decide +kernel
theorem ixs_nodup : ∀ st, st < 62 → ∀ sp, sp < 5 → ((List.range 31).map (fun k => (st + k * (1 + sp)) % 62)).Nodup := by decide +kernel
theorem ixs_let : ∀ st, st < 62 → ∀ sp, sp < 5 → 10 ≤ ((List.range 31).filter (fun k => isLet (sg ((st + k * (1 + sp)) % 62)))).length := by decide +kernel
structure Stem (i : Nat) (s : Str) : Prop where
  len : s.cps.toList.length ≤ i
  hd : s.cps.toList = [] ∨ isLet (s.cps.toList.headD 0) = true
  an : s.cps.toList.all (fun c => isLet c || isDig c) = true
theorem str_app (s : Str) (c : Nat) : (s ++ (⟨#[c]⟩ : Str)).cps.toList = s.cps.toList ++ [c] := by
  show (s.cps ++ #[c]).toList = _
  simp
theorem Stem.app {i : Nat} {s : Str} {c : Nat} (h : Stem i s) (hc : (isLet c || isDig c) = true) (h0 : s.cps.toList = [] → isLet c = true) : Stem (i + 1) (s ++ (⟨#[c]⟩ : Str)) := by
  refine ⟨?_, .inr ?_, ?_⟩
  · rw [str_app, List.length_append]
    exact Nat.succ_le_succ h.len
  · rw [str_app]
    cases e : s.cps.toList with
    | nil => exact h0 e
    | cons a l =>
      rcases h.hd with q | q
      · rw [e] at q
        cases q
      · rw [e] at q
        exact q
  · rw [str_app, List.all_append, h.an]
    simp [hc]
theorem nd_len {α : Type} [DecidableEq α] : ∀ {l m : List α}, l.Nodup → (∀ x ∈ l, x ∈ m) → l.length ≤ m.length
  | [], _, _, _ => Nat.zero_le _
  | x :: l, m, h, q => by
    rw [List.nodup_cons] at h
    have hx := q x List.mem_cons_self
    have := nd_len (m := m.erase x) h.2 fun y hy => by
      have hne : y ≠ x := fun e => h.1 (e ▸ hy)
      exact (List.mem_erase_of_ne hne).mpr (q y (List.mem_cons_of_mem _ hy))
    rw [List.length_erase_of_mem hx] at this
    have := List.length_pos_of_mem hx
    rw [List.length_cons]
    omega
def nmAt (s : Str) (st sp k : Nat) : Str := s ++ (⟨#[sg ((st + k * (1 + sp)) % 62)]⟩ : Str)
/-- what is kept of the names -/
def okNm (x : Str) : Bool := !isDig (x.cps.toList.headD 0) && decide (x ∉ wordsL)
theorem nmAt_inj {s : Str} {st sp : Nat} (h1 : st < 62) (h2 : sp < 5) : ((List.range 31).map (nmAt s st sp)).Nodup := by
  have h := ixs_nodup st h1 sp h2
  refine List.Pairwise.map _ ?_ (List.pairwise_map.mp h)
  intro a b hab e
  have e2 : (nmAt s st sp a).cps.toList = (nmAt s st sp b).cps.toList := by rw [e]
  unfold nmAt at e2
  rw [str_app, str_app] at e2
  have e3 := List.append_cancel_left e2
  have e4 : sg ((st + a * (1 + sp)) % 62) = sg ((st + b * (1 + sp)) % 62) := by simpa using e3
  exact hab (sg_inj _ (Nat.mod_lt _ (by decide)) _ (Nat.mod_lt _ (by decide)) e4)
theorem ten_names {s : Str} {st sp : Nat} (hs : Stem 6 s) (h1 : st < 62) (h2 : sp < 5) : 10 ≤ (((List.range 31).map (nmAt s st sp)).filter okNm).length := by
  by_cases he : s.cps.toList = []
  · have h := ixs_let st h1 sp h2
    refine Nat.le_trans h ?_
    rw [List.filter_map, List.length_map]
    have : ∀ k, isLet (sg ((st + k * (1 + sp)) % 62)) = true → okNm (nmAt s st sp k) = true := by
      intro k hk
      have e : (nmAt s st sp k).cps.toList = [sg ((st + k * (1 + sp)) % 62)] := by
        unfold nmAt
        rw [str_app, he]
        rfl
      unfold okNm
      rw [e]
      have a1 : isDig (sg ((st + k * (1 + sp)) % 62)) = false := by
        unfold isLet at hk
        unfold isDig
        rw [Bool.eq_false_iff]
        intro q
        simp only [Bool.or_eq_true, Bool.and_eq_true, decide_eq_true_eq] at hk q
        omega
      have a2 : nmAt s st sp k ∉ wordsL := by
        intro hm
        have all : ∀ x ∈ wordsL, x.cps.toList.length ≠ 1 := by decide +kernel
        exact all _ hm (by rw [e]; rfl)
      rw [decide_eq_true a2]
      show (!isDig (sg ((st + k * (1 + sp)) % 62)) && true) = true
      rw [a1]
      rfl
    clear h
    induction List.range 31 with
    | nil => exact Nat.le_refl _
    | cons k l ih =>
      rw [List.filter_cons, List.filter_cons]
      cases hk : isLet (sg ((st + k * (1 + sp)) % 62)) with
      | true =>
        have := this k hk
        rw [if_pos rfl, if_pos (by exact this), List.length_cons, List.length_cons]
        omega
      | false =>
        rw [if_neg Bool.false_ne_true]
        split
        · rw [List.length_cons]
          omega
        · exact ih
  · have hd : isLet (s.cps.toList.headD 0) = true := hs.hd.resolve_left he
    have hnd := nmAt_inj (s := s) h1 h2
    have hbad : (((List.range 31).map (nmAt s st sp)).filter (fun x => decide (x ∈ wordsL))).length ≤ 15 := by
      have := nd_len (l := ((List.range 31).map (nmAt s st sp)).filter (fun x => decide (x ∈ wordsL))) (m := wordsL) (hnd.filter _) fun x hx => of_decide_eq_true (List.mem_filter.mp hx).2
      exact Nat.le_trans this (by decide)
    have hall : ∀ x ∈ (List.range 31).map (nmAt s st sp), okNm x = !decide (x ∈ wordsL) := by
      intro x hx
      obtain ⟨k, _, rfl⟩ := List.mem_map.mp hx
      unfold okNm
      have : (nmAt s st sp k).cps.toList.headD 0 = s.cps.toList.headD 0 := by
        unfold nmAt
        rw [str_app]
        cases e : s.cps.toList with
        | nil => exact absurd e he
        | cons a l => rfl
      rw [this]
      have a1 : isDig (s.cps.toList.headD 0) = false := by
        unfold isLet at hd
        unfold isDig
        rw [Bool.eq_false_iff]
        intro q
        simp only [Bool.or_eq_true, Bool.and_eq_true, decide_eq_true_eq] at hd q
        omega
      rw [a1]
      simp
    have hlen : ((List.range 31).map (nmAt s st sp)).length = 31 := by rw [List.length_map, List.length_range]
    generalize (List.range 31).map (nmAt s st sp) = l at *
    have : ∀ l : List Str, (∀ x ∈ l, okNm x = !decide (x ∈ wordsL)) → (l.filter okNm).length + (l.filter (fun x => decide (x ∈ wordsL))).length = l.length := by
      intro l
      induction l with
      | nil => intro _; rfl
      | cons x l ih =>
        intro h
        have ih := ih fun y hy => h y (List.mem_cons_of_mem _ hy)
        have hx := h x List.mem_cons_self
        rw [List.filter_cons, List.filter_cons, hx]
        cases decide (x ∈ wordsL)
        · rw [if_pos (by rfl), if_neg Bool.false_ne_true, List.length_cons, List.length_cons]
          omega
        · rw [if_neg (by decide), if_pos rfl, List.length_cons, List.length_cons]
          omega
    have := this l hall
    omega
theorem nm_word {s : Str} {st sp k : Nat} (hs : Stem 6 s) (ho : okNm (nmAt s st sp k) = true) : word (nmAt s st sp k) = true := by
  have hlt : (st + k * (1 + sp)) % 62 < 62 := Nat.mod_lt _ (by decide)
  unfold okNm at ho
  rw [Bool.and_eq_true] at ho
  have ha : (nmAt s st sp k).cps.toList.all (fun c => isLet c || isDig c) = true := by
    unfold nmAt
    rw [str_app, List.all_append, hs.an]
    simp [sg_alnum _ hlt]
  have hl : (nmAt s st sp k).cps.toList.length ≤ 7 ∧ 1 ≤ (nmAt s st sp k).cps.toList.length := by
    unfold nmAt
    rw [str_app, List.length_append]
    have := hs.len
    simp
    omega
  have hh : isLet ((nmAt s st sp k).cps.toList.headD 0) = true := by
    have h1 := ho.1
    revert ha h1
    cases e : (nmAt s st sp k).cps.toList with
    | nil =>
      rw [e] at hl
      simp at hl
    | cons a l =>
      intro ha h1
      rw [List.all_cons, Bool.and_eq_true] at ha
      have h2 := ha.1
      show isLet a = true
      have h1 : (!isDig a) = true := h1
      cases q : isDig a
      · rw [q, Bool.or_false] at h2
        exact h2
      · rw [q] at h1
        cases h1
  unfold word
  rw [decide_eq_true hl.2, decide_eq_true (show (nmAt s st sp k).cps.toList.length ≤ 8 by omega), hh, ha, ← free_shape, ho.2]
  rfl
inductive spNames : List V → Hp → VK → XK → Prop
  | mk {c : Addr} {nms : List Str} {H : Hp} {Q : VK} {E : XK} (hC : CSt H c nms) (q : ∀ p nms' H', CSt H' c nms → Oth c H H' → p ≠ c → H' p = some (.lst (nms'.map V.str)) → NmOk nms' → nms'.length ≤ 10 → Q (.ref p) H') : spNames [.ref c] H Q E
theorem at_l {H : Hp} {p : Addr} {xs : List V} {i : Int} (t : H p = some (.lst xs)) (h0 : 0 ≤ i) (h : i < xs.length) : ∃ v, xs[i.toNat]? = some v ∧ atI xs i = some v := at_ex h0 h
theorem CSt.own {H4 H5 H' : Hp} {c p : Addr} {nms : List Str} (h : CSt H4 c nms) (f : H4 p = none) (s5 : Same H4 H5) (o : Oth p H5 H') : CSt H' c nms := by
  obtain ⟨s, nm, ns, i, a, k, b, h1, h2, h3, h4, h5, h6⟩ := h
  have k1 : ∀ {x u}, H4 x = some u → H' x = some u := fun {x u} e => o x u (ne_of_none e f) (s5 x u e)
  exact ⟨s, nm, ns, i, a, k, b, k1 h1, k1 h2, h3, h4, k1 h5, h6⟩
section
variable {P : Program} {w : World} {K : PySem.W.Frag} {mg : Str → Option Value} {base : Heap} {aFunction aRun aRunB aPlace aForms aActions aOps : Addr} {k n : Nat}
theorem ok_names (T : Tx w K mg aFunction aRun aRunB aPlace aForms aActions aOps) (G__law_take : FnX P w K mg base k "_law_take" ["c", "many"] spTake) (G__law_free : FnX P w K mg base k "_law_free" ["name"] spFree) : FnX P w K mg base (k + 1) "_law_names" ["c"] spNames := by
  refine T.d__law_names.ok sc__law_names (fun vs H Q E h => by cases h; rfl) (fun f cdv A outer s H vs Q E hr h => ?_)
  rcases h with ⟨hC, q⟩
  rename_i c nms
  refine ⟨_, (pss_cons (ps_set (i := 1) sc__law_names.nd rfl (.inl rfl) (pe_str))
    (pss_cons (ps_set (i := 2) sc__law_names.nd rfl (.inl rfl) (pe_str))
    (pss_cons (ps_for PassesOwn.never rfl (pi_range1 rfl T.z_range (pa_cons (pe_ix ix_list (pe_lst (pa_cons (pe_int) (pa_cons (pe_int) (pa_cons (pe_int) (pa_cons (pe_int) (pa_cons (pe_int) pa_nil)))))) (pe_fn G__law_take hr rfl (pa_cons (pv 0) (pa_cons (pe_int) pa_nil))) (fun _ _ => rfl)) pa_nil)) (pg_name (i := 3) sc__law_names.nd rfl (.inl rfl)) (pss_one (ps_set (i := 2) sc__law_names.nd rfl (.inl rfl) (pe_op op_add_str (pv 2) (pe_ix ix_str (pv 1) (pe_fn G__law_take hr rfl (pa_cons (pv 0) (pa_cons (pe_ix ix_list (pe_lst (pa_cons (pe_int) (pa_cons (pe_int) pa_nil))) (pe_callTy call_int1 rfl T.z_int (by decide +kernel) (pa_cons (pe_cmpR op_eq (pv 2) (pe_str) (nomark _)) pa_nil)) (fun _ _ => rfl)) pa_nil))) (fun _ _ => rfl))))))
    (pss_cons (ps_set (i := 4) sc__law_names.nd rfl (.inl rfl) (pe_fn G__law_take hr rfl (pa_cons (pv 0) (pa_cons (pe_int) pa_nil))))
    (pss_cons (ps_set (i := 5) sc__law_names.nd rfl (.inl rfl) (pe_op op_add (pe_int) (pe_fn G__law_take hr rfl (pa_cons (pv 0) (pa_cons (pe_int) pa_nil)))))
    (pss_cons (ps_set (i := 6) sc__law_names.nd rfl (.inl rfl) (pe_lst pa_nil))
    (pss_cons (ps_for PassesOwn.never rfl (pi_range1 rfl T.z_range (pa_cons (pe_int) pa_nil)) (pg_name (i := 3) sc__law_names.nd rfl (.inl rfl)) (pss_cons (ps_set (i := 7) sc__law_names.nd rfl (.inl rfl) (pe_op op_add_str (pv 2) (pe_ix ix_str (pv 1) (pe_op op_mod (pe_callTy call_int1 rfl T.z_int (by decide +kernel) (pa_cons (pe_op op_add (pv 4) (pe_op op_mul (pv 3) (pv 5))) pa_nil)) (pe_int)) (fun _ _ => rfl))))
    (pss_one (ps_if (PW.pt (pw_and (pt_cmpR op_notIn_sign (pe_ix ix_str (pv 7) (pe_int) (fun _ _ => rfl)) (pe_str) (by with_unfolding_all rfl)) (pw_and (pt_cmpR op_notIn_seq (pv 7) (pv 6) (by with_unfolding_all rfl)) (pw_and1 (pt_val (pe_fn G__law_free hr rfl (pa_cons (pv 7) pa_nil))))))) (pss_one (ps_expr (pe_bm PySem.F.plainAttrs_list PySem.F.slot_list_append PySem.F.type_list_append mt_append (pv 6) (pa_cons (pv 7) pa_nil)))) pss_nil))))
    (pss_one (ps_ret (pe_slice sl_list (pv 6) po_none (po_some (pe_int)))))))))))), ?_⟩
  refine seq_i fun N hN => ?_
  walk_at "g"
  refine hN _ _ ?_
  clear hN
  refine seq_i fun N hN => ?_
  walk_at "g"
  refine hN _ _ ?_
  clear hN
  refine seq_i fun N hN => ?_
  walk_at "new"; rename_i p1 f1 H1 s1 t1
  have hC1 := hC.same s1
  have n1 : p1 ≠ c := fun e => by
    subst e
    obtain ⟨l, hl⟩ := hC.lst
    rw [hl] at f1
    cases f1
  walk_at "g"
  refine spTake.mk hC1 (by decide) (by decide) fun d2 H2 hd2 hd2' hC2 o2 => ?_
  have t2 := o2 _ _ n1 t1
  obtain ⟨nv, env, anv⟩ := at_l t2 hd2 hd2'
  refine ⟨_, _, _, _, rfl, rfl, SqL.of t2, anv, ?_⟩
  have hj : ∃ j : Nat, nv = .int j ∧ j ≤ 6 := by
    have hm := List.mem_of_getElem? env
    simp only [List.mem_cons, List.not_mem_nil, or_false] at hm
    rcases hm with rfl | rfl | rfl | rfl | rfl
    · exact ⟨0, rfl, by decide⟩
    · exact ⟨0, rfl, by decide⟩
    · exact ⟨1, rfl, by decide⟩
    · exact ⟨3, rfl, by decide⟩
    · exact ⟨6, rfl, by decide⟩
  obtain ⟨j, rfl, hj6⟩ := hj
  have o02 : Oth c H H2 := (Same.oth s1).trans o2
  clear env anv t2 o2 hC1 t1 n1
  walk_at "g"
  refine ⟨by omega, by omega, ?_⟩
  rw [Int.toNat_natCast]
  refine for_range (n := j) (fun i σ H' => ∃ u3 stem, σ = [some (.ref c), some (.str signsS), some (.str stem), u3, none, none, none, none] ∧ Stem i stem ∧ CSt H' c nms ∧ Oth c H H') ⟨_, "", rfl, ⟨by decide, .inl (by decide), by decide⟩, hC2, o02⟩ (fun i σ H' hi h => ?_) (fun σ H' h => ?_)
  · obtain ⟨u3, stem, rfl, hst, hC', o'⟩ := h
    have hsl : stem.length ≤ 6 := by
      rw [← str_len]
      have := hst.len
      omega
    have more : ∀ (d : Int) H6, 0 ≤ d → d < 62 → (stem.cps.toList = [] → d < 52) → CSt H6 c nms → Oth c H' H6 → ∃ e : Nat, atI signsS.cps.toList d = some e ∧ Stem (i + 1) (stem ++ (⟨#[e]⟩ : Str)) := by
      intro d H6 h0 h62 h52 _ _
      obtain ⟨d, rfl⟩ : ∃ k : Nat, d = k := ⟨d.toNat, by omega⟩
      exact ⟨sg d, atI_nat (sg_get d (by omega)), hst.app (sg_alnum d (by omega)) fun e => sg_let d (by have := h52 e; omega)⟩
    walk_at "g"
    walk_at "newp"; rename_i p6 f6 H6 s6 t6
    have hC6 := hC'.same s6
    walk_at "g"
    cases hb : decide (V.str stem = V.str "") with
    | true =>
      have he : stem = "" := str_dec hb
      walk_at "g"
      refine spTake.mk hC6 (by decide) (by decide) fun d H7 hd hd' hC7 o7 => ?_
      have o67 : Oth c H' H7 := (Same.oth s6).trans o7
      obtain ⟨e, ea, hs'⟩ := more d H7 hd (by omega) (fun _ => by omega) hC7 o67
      refine ⟨signsS, d, e, rfl, rfl, by decide, ea, ?_⟩
      refine ⟨_, _, rfl, rfl, Nat.le_trans (m := 100) (Nat.le_trans (Nat.add_le_add hsl (Nat.le_refl 1)) (by decide)) (by decide), ?_⟩
      exact ⟨_, _, rfl, hs', hC7, o'.trans o67⟩
    | false =>
      have he : ¬ stem.cps.toList = [] := fun q => str_decF hb (by
        have : stem.cps = #[] := by simpa using q
        cases stem
        cases this
        rfl)
      walk_at "g"
      refine spTake.mk hC6 (by decide) (by decide) fun d H7 hd hd' hC7 o7 => ?_
      have o67 : Oth c H' H7 := (Same.oth s6).trans o7
      obtain ⟨e, ea, hs'⟩ := more d H7 hd (by omega) (fun q => absurd q he) hC7 o67
      refine ⟨signsS, d, e, rfl, rfl, by decide, ea, ?_⟩
      refine ⟨_, _, rfl, rfl, Nat.le_trans (m := 100) (Nat.le_trans (Nat.add_le_add hsl (Nat.le_refl 1)) (by decide)) (by decide), ?_⟩
      exact ⟨_, _, rfl, hs', hC7, o'.trans o67⟩
  · obtain ⟨u3, stem, rfl, hst, hC', o'⟩ := h
    have hst6 : Stem 6 stem := ⟨Nat.le_trans hst.len hj6, hst.hd, hst.an⟩
    refine hN _ _ ?_
    clear hN
    refine seq_i fun N hN => ?_
    walk_at "g"
    refine spTake.mk hC' (by decide) (by decide) fun d3 H3 hd3 hd3' hC3 o3 => ?_
    refine hN _ _ ?_
    clear hN
    refine seq_i fun N hN => ?_
    walk_at "g"
    refine spTake.mk hC3 (by decide) (by decide) fun d4 H4 hd4 hd4' hC4 o4 => ?_
    walk_at "g"
    refine hN _ _ ?_
    clear hN
    refine seq_i fun N hN => ?_
    walk_at "new"; rename_i pf f5 H5 s5 t5
    refine hN _ _ ?_
    clear hN
    have o5 : Oth c H H5 := o'.trans (o3.trans (o4.trans (Same.oth s5)))
    have hC5 := hC4.same s5
    obtain ⟨st, rfl⟩ : ∃ st : Nat, d3 = st := ⟨d3.toNat, by omega⟩
    obtain ⟨sp, rfl⟩ : ∃ sp : Nat, d4 = sp := ⟨d4.toNat, by omega⟩
    refine seq_i fun N hN => ?_
    walk_at "g"
    refine for_range (n := 62) (fun i σ H' => ∃ u3 u7 fs, σ = [some (.ref c), some (.str signsS), some (.str stem), u3, some (.int st), some (.int (1 + (sp : Int))), some (.ref pf), u7] ∧ Oth pf H5 H' ∧ H' pf = some (.lst (fs.map V.str)) ∧ fs.length ≤ i ∧ fs.Nodup ∧ (∀ x ∈ fs, word x = true) ∧ ∀ k, k < i → okNm (nmAt stem st sp k) = true → nmAt stem st sp k ∈ fs) ⟨_, _, [], rfl, Oth.refl _ _, t5, Nat.zero_le _, List.nodup_nil, (fun x hx => by cases hx), fun k hk => by omega⟩ (fun i σ H' hi h => ?_) (fun σ H' h => ?_)
    · obtain ⟨u3, u7, fs, rfl, op, h6, hlf, hnd, hwf, hin⟩ := h
      have hC6 : CSt H' c nms := CSt.own hC4 f5 s5 op
      have o6 : Oth c H H' := fun b u nb e => by
        have e4 := o'.trans (o3.trans o4) b u nb e
        exact op b u (ne_of_none e4 f5) (s5 b u e4)
      refine seq_i fun N hN => ?_
      walk_at "g"
      refine And.intro (.inl ⟨by omega, by omega⟩) ?_
      walk_at "g"
      have hlt : (st + i * (1 + sp)) % 62 < 62 := Nat.mod_lt _ (by decide)
      have eix : ((st : Int) + (0 + (i : Int)) * (1 + (sp : Int))) % 62 = (((st + i * (1 + sp)) % 62 : Nat) : Int) := by
        rw [Int.zero_add]
        simp
      have hat : atI signsS.cps.toList (((st : Int) + (0 + (i : Int)) * (1 + (sp : Int))) % 62) = some (sg ((st + i * (1 + sp)) % 62)) := by
        rw [eix]
        exact atI_nat (sg_get _ hlt)
      have hsl : stem.length ≤ 6 := by
        rw [← str_len]
        exact hst6.len
      refine ⟨signsS, _, _, rfl, rfl, by decide, hat, ?_⟩
      refine ⟨_, _, rfl, rfl, Nat.le_trans (m := 100) (Nat.le_trans (Nat.add_le_add hsl (Nat.le_refl 1)) (by decide)) (by decide), ?_⟩
      refine hN _ _ ?_
      clear hN
      show tIfS _ _ _ _ [some (.ref c), some (.str signsS), some (.str stem), some (.int (0 + (i : Int))), some (.int st), some (.int (1 + (sp : Int))), some (.ref pf), some (.str (nmAt stem st sp i))] H'
      obtain ⟨ch, ech⟩ : ∃ ch, (nmAt stem st sp i).cps.toList[0]? = some ch := by
        unfold nmAt
        rw [str_app]
        cases stem.cps.toList <;> exact ⟨_, rfl⟩
      have hch : (nmAt stem st sp i).cps.toList.headD 0 = ch := by
        revert ech
        cases (nmAt stem st sp i).cps.toList <;> simp
      have hnl : (nmAt stem st sp i).length ≤ 7 := by
        rw [← str_len]
        unfold nmAt
        rw [str_app, List.length_append]
        have := hst6.len
        simp
        omega
      have hok : okNm (nmAt stem st sp i) = (!isDig ch && decide (nmAt stem st sp i ∉ wordsL)) := by
        unfold okNm
        rw [hch]
      have hw : okNm (nmAt stem st sp i) = true → word (nmAt stem st sp i) = true := nm_word hst6
      have hinS : ∀ k, k < i + 1 → okNm (nmAt stem st sp k) = true → (k = i ∨ nmAt stem st sp k ∈ fs) := fun k hk ho => by
        by_cases e : k = i
        · exact .inl e
        · exact .inr (hin k (by omega) ho)
      generalize hnm : nmAt stem st sp i = nm at ech hch hnl hok hw ⊢
      walk_at "g"
      refine ⟨nm, 0, ch, rfl, rfl, strlen_ok (by omega), atI_nat (j := 0) ech, ?_⟩
      refine ⟨ch, "0123456789", rfl, rfl, ?_⟩
      have fin0 : (okNm nm = true → nm ∈ fs) → ∀ H7, Same H' H7 → ∃ u3 u7, ∃ fs : List Str, [some (V.ref c), some (.str signsS), some (.str stem), some (.int (0 + (i : Int))), some (.int st), some (.int (1 + (sp : Int))), some (.ref pf), some (.str nm)] = [some (.ref c), some (.str signsS), some (.str stem), u3, some (.int st), some (.int (1 + (sp : Int))), some (.ref pf), u7] ∧ Oth pf H5 H7 ∧ H7 pf = some (.lst (fs.map V.str)) ∧ fs.length ≤ i + 1 ∧ fs.Nodup ∧ (∀ x ∈ fs, word x = true) ∧ ∀ k, k < i + 1 → okNm (nmAt stem st sp k) = true → nmAt stem st sp k ∈ fs := by
        intro h H7 s7
        refine ⟨_, _, fs, rfl, op.trans (Same.oth s7), s7 _ _ h6, by omega, hnd, hwf, fun k hk ho => ?_⟩
        rcases hinS k hk ho with e | e
        · rw [e, hnm] at ho ⊢
          exact h ho
        · exact e
      have edig : decide (ch ∈ ("0123456789" : Str).cps.toList) = isDig ch := dig_mem
      refine ⟨_, rfl, ?_⟩
      rw [edig]
      cases hdg : isDig ch with
      | true =>
        rw [hdg, Bool.not_true, Bool.false_and] at hok
        walk_at "g"
        exact fin0 (fun h => by rw [hok] at h; cases h) _ (Same.refl _)
      | false =>
        rw [hdg, Bool.not_false, Bool.true_and] at hok
        refine iteTr rfl ?_
        walk_at "g"
        refine ⟨flat_strs _, ?_⟩
        refine ⟨_, rfl, ?_⟩
        have einv : inV (V.str nm) (fs.map V.str) = decide (nm ∈ fs) := inV_str
        show (if (if true = true then !inV (V.str nm) (fs.map V.str) else inV (V.str nm) (fs.map V.str)) = true then _ else _)
        rw [einv]
        by_cases hin2 : nm ∈ fs
        · rw [decide_eq_true hin2]
          walk_at "g"
          exact fin0 (fun _ => hin2) _ (Same.refl _)
        · rw [decide_eq_false hin2]
          walk_at "g"
          refine spFree.mk fun H7 s7 => ?_
          walk_at "g"
          · rename_i hfree
            rw [hfree] at hok
            refine ⟨.inl ⟨rfl, _, SqL.of (s7 _ _ h6)⟩, ?_⟩
            walk_at "g"
            refine ⟨_, _, _, rfl, rfl, s7 _ _ h6, Nat.lt_of_lt_of_le (m := 100000) (by rw [List.length_map]; omega) (by decide), ?_⟩
            have t7 : upd H7 pf (.lst (fs.map V.str ++ [V.str nm])) pf = some (.lst ((fs ++ [nm]).map V.str)) := by
              rw [List.map_append]
              exact upd_same
            refine ⟨_, _, fs ++ [nm], rfl, op.trans (Oth.trans (Same.oth s7) Oth.put), t7, by rw [List.length_append]; exact Nat.succ_le_succ hlf, ?_, fun x hx => ?_, fun k hk ho => ?_⟩
            · rw [List.nodup_append]
              refine ⟨hnd, List.nodup_cons.mpr ⟨List.not_mem_nil, List.nodup_nil⟩, fun a ha b hb e => ?_⟩
              rw [List.mem_singleton] at hb
              subst hb e
              exact hin2 ha
            · rcases List.mem_append.mp hx with hx | hx
              · exact hwf x hx
              · rw [List.mem_singleton] at hx
                subst hx
                exact hw hok
            · rcases hinS k hk ho with e | e
              · rw [e, hnm]
                exact List.mem_append_right _ (List.mem_singleton.mpr rfl)
              · exact List.mem_append_left _ e
          · rename_i hfree
            rw [hfree] at hok
            exact fin0 (fun h => by rw [hok] at h; cases h) _ s7
    · obtain ⟨u3, u7, fs, rfl, op, h6, hlf, hnd, hwf, hin⟩ := h
      have hC6 : CSt H' c nms := CSt.own hC4 f5 s5 op
      have o6 : Oth c H H' := fun b u nb e => by
        have e4 := o'.trans (o3.trans o4) b u nb e
        exact op b u (ne_of_none e4 f5) (s5 b u e4)
      refine hN _ _ ?_
      walk_at "g"
      walk_at "newp"; rename_i p9 f9 H9 s9 t9
      have ecut : cutV (fs.map V.str) none (some 10) = (fs.take 10).map V.str := by
        unfold cutV
        rw [HT.sIx_none, List.drop_zero, Nat.sub_zero, List.map_take]
        show (fs.map V.str).take (HT.sIx (fs.map V.str).length (fs.map V.str).length (some ((10 : Nat) : Int))) = _
        rw [HT.sIx_nat, Nat.min_comm, ← List.take_take]
        exact List.take_of_length_le (by rw [List.length_take]; omega)
      rw [ecut] at t9
      have h10 : 10 ≤ fs.length := by
        refine Nat.le_trans (ten_names hst6 (by omega) (by omega)) (nd_len ((nmAt_inj (s := stem) (st := st) (sp := sp) (by omega) (by omega)).filter _) fun x hx => ?_)
        obtain ⟨hx1, hx2⟩ := List.mem_filter.mp hx
        obtain ⟨k, hk, rfl⟩ := List.mem_map.mp hx1
        exact hin k (by have := List.mem_range.mp hk; omega) hx2
      have n9 : p9 ≠ c := fun e => by
        subst e
        obtain ⟨l, hl⟩ := hC6.lst
        rw [hl] at f9
        cases f9
      exact q p9 (fs.take 10) H9 (hC6.same s9) (o6.trans (Same.oth s9)) n9 t9 ⟨by rw [List.length_take]; omega, fun x hx => hx⟩ (by rw [List.length_take]; omega)
end
end Zt

set_option Elab.async false
set_option linter.all false
set_option maxRecDepth 100000
set_option maxHeartbeats 4000000
namespace Zt
open PySem L2 PySem.Spec PyProof.Rows Zg RZ
local macro_rules | `(tactic| walk_at "sq") => `(tactic| first | exact SqL.of (by assumption) | exact .inl (SqL.of (by assumption)) | assumption | exact SqT.of (by assumption) | exact .inr (SqT.of (by assumption)) | exact SqL.of upd_same | exact .inl (SqL.of upd_same))
local macro_rules | `(tactic| walk_at "hp") => `(tactic| first | assumption | exact upd_same)
local macro_rules | `(tactic| walk_at "cond") => `(tactic| first | assumption | rfl | (apply And.intro <;> assumption) | decide | (show (0 : Int) < _; decide) | (apply And.intro <;> decide) | (apply Or.inr; apply And.intro <;> decide) | (apply Or.inl; apply And.intro <;> decide))
local macro_rules | `(tactic| walk_at "s") => `(tactic| first
  | (with_reducible apply iteF)
  | (with_reducible apply iteT)
  | (apply e1; rfl)
  | (apply e2; rfl; rfl)
  | (apply e4; rfl; rfl; walk_at "sq"; rfl)
  | (apply e4; rfl; rfl; walk_at "hp"; rfl)
  | (apply e2; rfl; walk_at "sq")
  | (apply eOr; rfl)
  | (apply eOrR; rfl)
  | (apply eTru; walk_at "sq")
  | (apply eTruT; walk_at "sq")
  | (apply And.intro; (walk_at "cond"))
  | (apply iteTr; rfl)
  | (apply iteFr; rfl)
  | (apply iteD; all_goals intro _)
  | (with_reducible apply tNext_i))
local macro_rules | `(tactic| walk_at "g") => `(tactic| repeat' ((fail_if_success (with_reducible apply seq_i)); (fail_if_success (with_reducible apply cut_i)); (walk_at "s")))
local macro_rules | `(tactic| walk_at "size") => `(tactic| first | (simp only [List.length_cons, List.length_nil]; decide) | decide)
local macro_rules | `(tactic| walk_at "newp") => `(tactic| (intro p hp; generalize hH : upd _ _ _ = H1; have st := new_facts hp hH; clear hH; obtain ⟨s, t⟩ := st))
local macro_rules | `(tactic| walk_at "new") => `(tactic| walk_at "g"; first | (apply And.intro; (focus (apply small100; walk_at "size")); walk_at "newp") | (walk_at "newp"))

/-- what a drawn program is -/
structure Pg (nms : List Str) (e : TE) : Prop where
  gq : gq nms 6 0 e [] none
  hh : hh e ≤ 6 + 2 * ht e
  ht : ht e ≤ 10
  sz : sz e ≤ 60
inductive spProgram : List V → Hp → VK → XK → Prop
  | mk {c : Addr} {nms : List Str} {H : Hp} {Q : VK} {E : XK} (hC : CSt H c nms) (q : ∀ e v nms' H', CSt H' c nms' → Oth c H H' → RT H' e v → Pg nms' e → nms'.length ≤ 10 → Q v H') : spProgram [.ref c] H Q E
section
variable {P : Program} {w : World} {K : PySem.W.Frag} {mg : Str → Option Value} {base : Heap} {aFunction aRun aRunB aPlace aForms aActions aOps : Addr} {k n : Nat}
theorem ok_program (T : Tx w K mg aFunction aRun aRunB aPlace aForms aActions aOps) (G__law_names : FnX P w K mg base k "_law_names" ["c"] spNames) (G__law_take : FnX P w K mg base k "_law_take" ["c", "many"] spTake) (G__law_integer : FnX P w K mg base k "_law_integer" ["c"] spInteger)
    (G__law_expression : FnX P w K mg base k "_law_expression" ["c", "level", "names", "about", "depth"] (spExpr 7)) (G__law_depth : FnX P w K mg base k "_law_depth" ["e"] (spLDepth 18)) (G__law_size : FnX P w K mg base k "_law_size" ["e"] (spLSize 18)) :
    FnX P w K mg base (k + 1) "_law_program" ["c"] spProgram := by
  refine T.d__law_program.ok sc__law_program (fun vs H Q E h => by cases h; rfl) (fun f cdv A outer s H vs Q E hr h => ?_)
  rcases h with ⟨hC, q⟩
  rename_i c nms
  refine ⟨_, (pss_cons (ps_asg (pe_fn G__law_names hr rfl (pa_cons (pv 0) pa_nil)) (pg_sub (pv 0) (pe_int) set_list))
    (pss_cons (ps_asg (pe_op op_add (pe_int) (pe_fn G__law_take hr rfl (pa_cons (pv 0) (pa_cons (pe_int) pa_nil)))) (pg_sub (pv 0) (pe_int) set_list))
    (pss_cons (ps_set (i := 1) sc__law_program.nd rfl (.inl rfl) (pe_fn G__law_expression hr rfl (pa_cons (pv 0) (pa_cons (pe_int) (pa_cons (pe_lst pa_nil) (pa_cons (pe_non) (pa_cons (pe_op op_add (pe_int) (pe_fn G__law_take hr rfl (pa_cons (pv 0) (pa_cons (pe_int) pa_nil)))) pa_nil)))))))
    (pss_cons (ps_if (PW.pt (pw_or (pt_cmpR op_gt (pe_fn G__law_depth hr rfl (pa_cons (pv 1) pa_nil)) (pe_int) (nomark _)) (pw_or1 (pt_cmpR op_gt (pe_fn G__law_size hr rfl (pa_cons (pv 1) pa_nil)) (pe_int) (nomark _))))) (pss_one (ps_ret (pe_tup (pa_cons (pe_str) (pa_cons (pe_tup (pa_cons (pe_str) (pa_cons (pe_fn G__law_integer hr rfl (pa_cons (pv 0) pa_nil)) pa_nil))) pa_nil))))) pss_nil)
    (pss_one (ps_ret (pv 1))))))), ?_⟩
  refine seq_i fun N hN => ?_
  walk_at "g"
  refine spNames.mk hC fun p nms' H1 hC1 o1 np h1 hN1 hl1 => ?_
  obtain ⟨s0, nm, ns, i, a, kk, b, hc, hs, h63, hi, hnm, n1, n2⟩ := hC1
  walk_at "g"
  refine hN _ _ ?_
  clear hN
  have hC2 : CSt (upd H1 c (.lst [.ref s0, .int i, .int a, .int kk, .int b, .ref p])) c nms' := cst_mk hs h63 hi h1 n1 np
  have o2 : Oth c H1 (upd H1 c (.lst [.ref s0, .int i, .int a, .int kk, .int b, .ref p])) := Oth.put
  show tSeq _ _ _ _ (upd H1 c (.lst [.ref s0, .int i, .int a, .int kk, .int b, .ref p]))
  generalize upd H1 c (.lst [.ref s0, .int i, .int a, .int kk, .int b, .ref p]) = H2 at hC2 o2 ⊢
  have o02 := o1.trans o2
  clear hc hs h63 hi hnm n1 n2 o1 o2 h1
  refine seq_i fun N hN => ?_
  walk_at "g"
  refine spTake.mk hC2 (by decide) (by decide) fun d3 H3 hd3 hd3' hC3 o3 => ?_
  obtain ⟨s0, nm, ns, i, a, kk, b, hc, hs, h63, hi, hnm, n1, n2⟩ := hC3
  walk_at "g"
  refine hN _ _ ?_
  clear hN
  have hC4 : CSt (upd H3 c (.lst [.ref s0, .int i, .int a, .int kk, .int (14 + d3), .ref nm])) c nms' := cst_mk hs h63 hi hnm n1 n2
  have o4 : Oth c H3 (upd H3 c (.lst [.ref s0, .int i, .int a, .int kk, .int (14 + d3), .ref nm])) := Oth.put
  show tSeq _ _ _ _ (upd H3 c (.lst [.ref s0, .int i, .int a, .int kk, .int (14 + d3), .ref nm]))
  generalize upd H3 c (.lst [.ref s0, .int i, .int a, .int kk, .int (14 + d3), .ref nm]) = H4 at hC4 o4 ⊢
  have o04 := o02.trans (o3.trans o4)
  clear hc hs h63 hi hnm n1 n2 o3 o4
  refine seq_i fun N hN => ?_
  walk_at "new"; rename_i na f5 H5 s5 t5
  have hC5 := hC4.same s5
  have nna : na ≠ c := fun e => by
    subst e
    obtain ⟨l, hl⟩ := hC4.lst
    rw [hl] at f5
    cases f5
  walk_at "g"
  refine spTake.mk hC5 (by decide) (by decide) fun d6 H6 hd6 hd6' hC6 o6 => ?_
  walk_at "g"
  refine spExpr.mk (n := 7) (ns := []) (ab := none) (nms := nms') hC6 hN1 (by decide) (o6 _ _ nna t5) nna (fun x hx => by cases hx) (by omega) (by omega) (by simp; omega) (fun a h => by cases h) fun v H7 hC7 o7 g7 => ?_
  have o07 := o04.trans ((Same.oth s5).trans (o6.trans o7))
  obtain ⟨d, r7, gq7, hh7, ht7⟩ := GT.mono g7 (show (3 + d6).toNat ≤ 6 by omega)
  refine hN _ _ ?_
  clear hN
  refine seq_i fun N hN => ?_
  have bad : ∀ H8, CSt H8 c nms' → Oth c H H8 → ∀ (j : Int) p1 p2, j.natAbs ≤ 1000000 → H8 p2 = some (.tup [.str "num", .int j]) → H8 p1 = some (.tup [.str "say", .ref p2]) → Q (.ref p1) H8 := by
    intro H8 hC8 o8 j p1 p2 hj h2 h1
    exact q (.say (.num j)) _ nms' H8 hC8 o8 ⟨_, _, rfl, h1, ⟨_, rfl, h2⟩⟩ ⟨by rw [Zt.gq, Zt.gq]; trivial, by rw [Zt.hh, Zt.hh]; omega, by rw [Zt.ht, Zt.ht]; omega, by rw [Zt.sz, Zt.sz]; omega⟩ hl1
  walk_at "g"
  refine spLDepth.mk r7 (by omega) fun H8 s8 => ?_
  have badw : ∀ H8, CSt H8 c nms' → Oth c H H8 → ∀ (j : Int) H9, j.natAbs ≤ 1000000 → CSt H9 c nms' → Oth c H8 H9 → ∀ p2 H10, Same H9 H10 → H10 p2 = some (.tup [.str "num", .int j]) → ∀ p1 H11, Same H10 H11 → H11 p1 = some (.tup [.str "say", .ref p2]) → Q (.ref p1) H11 :=
    fun H8 hC8 o8 j H9 hj hC9 o9 p2 H10 s10 h2 p1 H11 s11 h1 => bad H11 ((hC9.same s10).same s11) (o8.trans (o9.trans (Same.oth (Same.trans s10 s11)))) j p1 p2 hj (s11 _ _ h2) h1
  walk_at "g"
  · refine spInteger.mk (hC7.same s8) fun j H9 hj hC9 o9 => ?_
    walk_at "new"; rename_i p2 f10 H10 s10 t10
    walk_at "new"; rename_i p1 f11 H11 s11 t11
    exact badw H8 (hC7.same s8) (o07.trans (Same.oth s8)) j H9 hj hC9 o9 p2 H10 s10 t10 p1 H11 s11 t11
  · rename_i h10
    have h10 : ¬ (10 : Int) < ht d := of_decide_eq_false h10
    refine spLSize.mk (r7.tups (Same.tups s8)) (by omega) fun H9 s9 => ?_
    have s89 := Same.trans s8 s9
    walk_at "g"
    · refine spInteger.mk (hC7.same s89) fun j H10 hj hC10 o10 => ?_
      walk_at "new"; rename_i p2 f11 H11 s11 t11
      walk_at "new"; rename_i p1 f12 H12 s12 t12
      exact badw H9 (hC7.same s89) (o07.trans (Same.oth s89)) j H10 hj hC10 o10 p2 H11 s11 t11 p1 H12 s12 t12
    · rename_i h60
      have h60 : ¬ (60 : Int) < sz d := of_decide_eq_false h60
      refine hN _ _ ?_
      walk_at "g"
      exact q d v nms' H9 (hC7.same s89) (o07.trans (Same.oth s89)) (r7.tups (Same.tups s89)) ⟨gq7, hh7, by omega, by omega⟩ hl1
theorem all_expr0 (T : Tx w K mg aFunction aRun aRunB aPlace aForms aActions aOps) : FnX P w K mg base 1 "_law_expression" ["c", "level", "names", "about", "depth"] (spExpr 0) := by
  refine T.d__law_expression.ok sc__law_expression (fun vs H Q E h => by cases h; rfl) (fun f cdv A outer s H vs Q E hr h => ?_)
  rcases h with ⟨_, _, _, _, _, hd, hdn, _⟩
  omega
theorem all_take (T : Tx w K mg aFunction aRun aRunB aPlace aForms aActions aOps) : FnX P w K mg base 2 "_law_take" ["c", "many"] spTake := ok_take T (ok_fill (k := 0) T)
theorem all_kinds (T : Tx w K mg aFunction aRun aRunB aPlace aForms aActions aOps) : FnX P w K mg base 1 "_law_kinds" [] spKinds := ok_kinds (k := 0) T
theorem all_parts (T : Tx w K mg aFunction aRun aRunB aPlace aForms aActions aOps) : FnX P w K mg base 2 "_law_parts" ["kind"] spParts := ok_parts T (all_kinds T)
theorem all_free (T : Tx w K mg aFunction aRun aRunB aPlace aForms aActions aOps) : FnX P w K mg base 2 "_law_free" ["name"] spFree := ok_free T (all_kinds T)
theorem all_integer (T : Tx w K mg aFunction aRun aRunB aPlace aForms aActions aOps) : FnX P w K mg base 3 "_law_integer" ["c"] spInteger := ok_integer T (all_take T)
theorem all_leaf (T : Tx w K mg aFunction aRun aRunB aPlace aForms aActions aOps) : FnX P w K mg base 4 "_law_leaf" ["c", "names", "about"] spLeaf := ok_leaf T ((all_take T).mono (by decide)) ((all_parts T).mono (by decide)) (all_integer T)
theorem all_expr (T : Tx w K mg aFunction aRun aRunB aPlace aForms aActions aOps) : ∀ n : Nat, FnX P w K mg base (4 + 3 * n) "_law_expression" ["c", "level", "names", "about", "depth"] (spExpr n)
  | 0 => (all_expr0 T).mono (by decide)
  | n + 1 => by
    have e := all_expr T n
    have t : FnX P w K mg base (4 + 3 * n) "_law_take" ["c", "many"] spTake := (all_take T).mono (by omega)
    have l : FnX P w K mg base (4 + 3 * n) "_law_leaf" ["c", "names", "about"] spLeaf := (all_leaf T).mono (by omega)
    have r := ok_drule T t e
    have c := ok_change T (t.mono (Nat.le_succ _)) ((all_kinds T).mono (by omega)) r (e.mono (Nat.le_succ _))
    exact ok_expr (k := 4 + 3 * n + 1 + 1) (by omega) T (t.mono (by omega)) (l.mono (by omega)) ((ok_ask T t l e).mono (by omega)) ((ok_binding T t e).mono (by omega)) c (e.mono (by omega))
theorem all_depth (T : Tx w K mg aFunction aRun aRunB aPlace aForms aActions aOps) : ∀ n : Nat, FnX P w K mg base (1 + n) "_law_depth" ["e"] (spLDepth n)
  | 0 => ok_ldepth0 T
  | n + 1 => ok_ldepth (k := 1 + n) T ((ok_linner (k := 0) T).mono (by omega)) (all_depth T n)
theorem all_lsize (T : Tx w K mg aFunction aRun aRunB aPlace aForms aActions aOps) : ∀ n : Nat, FnX P w K mg base (1 + n) "_law_size" ["e"] (spLSize n)
  | 0 => ok_lsize0 T
  | n + 1 => ok_lsize (k := 1 + n) T ((ok_linner (k := 0) T).mono (by omega)) (all_lsize T n)
theorem all_program (T : Tx w K mg aFunction aRun aRunB aPlace aForms aActions aOps) : FnX P w K mg base 26 "_law_program" ["c"] spProgram :=
  ok_program (P := P) (base := base) (k := 25) T ((ok_names T (all_take T) (all_free T)).mono (by decide : 3 ≤ 25)) ((all_take T).mono (by decide)) ((all_integer T).mono (by decide)) ((all_expr T 7).mono (by decide)) ((all_depth T 18).mono (by decide)) ((all_lsize T 18).mono (by decide))
end
end Zt

set_option Elab.async false
set_option linter.all false
set_option maxRecDepth 100000
set_option maxHeartbeats 4000000
namespace Zt
open PySem L2 PySem.Spec PyProof.Rows Zg
/-- nodes of the levels, counted from the expression's own -/
def cn : TE → Nat → Nat
  | .num _, j => if j = 0 then 1 else 0
  | .name _, j => if j = 0 then 1 else 0
  | .fn _ b, j => (if j = 0 then 1 else 0) + cn b j
  | .op _ a b, j => (if j = 0 then 1 else 0) + (cn a j + cn b j)
  | .iff c a b, j => (if j = 0 then 1 else 0) + (cn c j + (cn a j + cn b j))
  | .lett _ a b, j => (if j = 0 then 1 else 0) + (cn a j + cn b j)
  | .say a, j => (if j = 0 then 1 else 0) + cn a j
  | .rule _ r b, 0 => 1 + cn b 0
  | .rule _ r b, j + 1 => cn r j + cn b (j + 1)
  | .keep _ r, 0 => 1
  | .keep _ r, j + 1 => cn r j
  | .part _, j => if j = 0 then 1 else 0
  | .usual, j => if j = 0 then 1 else 0
  | .witha a, j => (if j = 0 then 1 else 0) + cn a j
  | .do1 a, j => (if j = 0 then 1 else 0) + cn a j
  | .do2 a b, j => (if j = 0 then 1 else 0) + (cn a j + cn b j)
theorem cn_oc (e : TE) : cn e 0 = oc e := by
  induction e with
  | num n => rfl
  | name x => rfl
  | fn x b ih => rw [cn, oc, ih, if_pos rfl]
  | op o a b ih1 ih2 => rw [cn, oc, ih1, ih2, if_pos rfl]
  | iff c a b ih1 ih2 ih3 => rw [cn, oc, ih1, ih2, ih3, if_pos rfl]
  | lett x a b ih1 ih2 => rw [cn, oc, ih1, ih2, if_pos rfl]
  | say a ih => rw [cn, oc, ih, if_pos rfl]
  | rule q r b ih1 ih2 => rw [cn, oc, ih2]
  | keep q r ih => rw [cn, oc]
  | part i => rfl
  | witha a ih => rw [cn, oc, ih, if_pos rfl]
  | usual => rfl
  | do1 a ih => rw [cn, oc, ih, if_pos rfl]
  | do2 a b ih1 ih2 => rw [cn, oc, ih1, ih2, if_pos rfl]
theorem cn_sz (e : TE) : cn e 0 + (cn e 1 + (cn e 2 + cn e 3)) ≤ sz e := by
  induction e with
  | num n => exact Nat.le_refl _
  | name x => exact Nat.le_refl _
  | fn x b ih => simp [cn, sz]; omega
  | op o a b ih1 ih2 => simp [cn, sz]; omega
  | iff c a b ih1 ih2 ih3 => simp [cn, sz]; omega
  | lett x a b ih1 ih2 => simp [cn, sz]; omega
  | say a ih => simp [cn, sz]; omega
  | rule q r b ih1 ih2 => simp [cn, sz]; omega
  | keep q r ih => simp [cn, sz]; omega
  | part i => exact Nat.le_refl _
  | witha a ih => simp [cn, sz]; omega
  | usual => exact Nat.le_refl _
  | do1 a ih => simp [cn, sz]; omega
  | do2 a b ih1 ih2 => simp [cn, sz]; omega
theorem gq_nm {nms : List Str} : ∀ {e : TE} {d : Nat} {lv : Int} {ns : List Str} {a : Option Str}, gq nms d lv e ns a → Nm nms e
  | .num _, d, lv, ns, a, h => trivial
  | .name x, d, lv, ns, a, h => trivial
  | .fn x b, d, lv, ns, a, h => by rw [gq] at h; rw [Nm]; exact ⟨h.1, gq_nm h.2.2⟩
  | .op _ e f, d, lv, ns, a, h => by rw [gq] at h; rw [Nm]; exact ⟨gq_nm h.1, gq_nm h.2⟩
  | .iff t e f, d, lv, ns, a, h => by rw [gq] at h; rw [Nm]; exact ⟨gq_nm h.1, gq_nm h.2.1, gq_nm h.2.2⟩
  | .lett x e f, d, lv, ns, a, h => by rw [gq] at h; rw [Nm]; exact ⟨h.1, gq_nm h.2.1, gq_nm h.2.2⟩
  | .say e, d, lv, ns, a, h => by rw [gq] at h; rw [Nm]; exact gq_nm h
  | .rule q r b, d, lv, ns, a, h => by
    rw [gq] at h
    rw [Nm]
    obtain ⟨⟨d', rfl, h1, h2, h3, h4⟩, h5⟩ := h
    exact ⟨gq_nm h4, gq_nm h5⟩
  | .keep q r, d, lv, ns, a, h => by
    rw [gq] at h
    rw [Nm]
    obtain ⟨d', rfl, h1, h2, h3, h4⟩ := h
    exact gq_nm h4
  | .part i, d, lv, ns, a, h => trivial
  | .usual, d, lv, ns, a, h => trivial
  | .witha e, d, lv, ns, a, h => by rw [gq] at h; rw [Nm]; exact gq_nm h.2
  | .do1 e, d, lv, ns, a, h => by rw [gq] at h; rw [Nm]; exact gq_nm h.2
  | .do2 e f, d, lv, ns, a, h => by rw [gq] at h; rw [Nm]; exact ⟨gq_nm h.2.1, gq_nm h.2.2⟩
theorem bL_hL {k : Nat} (h : k ≤ 3) : bL k + 3 = hL k := by
  have hk : k = 0 ∨ k = 1 ∨ k = 2 ∨ k = 3 := by omega
  rcases hk with rfl | rfl | rfl | rfl <;> rfl
theorem hL_hL {k : Nat} (h : k < 3) : hL (k + 1) + 3 = hL k ∧ 9 ≤ hL (k + 1) := by
  have hk : k = 0 ∨ k = 1 ∨ k = 2 := by omega
  rcases hk with rfl | rfl | rfl <;> decide
theorem rule_ok {c : Nat → Nat} {nms : List Str} {d : Nat} {k : Nat} {q : Str} {r : TE} (hk : k ≤ 3) (ih : ∀ (k d : Nat) (ns ns' : List Str) (a : Option Str), gq nms d (k : Int) r ns a → (∀ x ∈ ns, x ∈ ns') → k ≤ 3 → d + 2 * ht r ≤ hL k → (∀ j, cn r j ≤ c (k + j)) → ok c k r ns' a)
    (h : ∃ d', d = d' + 1 ∧ (k : Int) + 1 ≤ 3 ∧ q ∈ kindsL ∧ (hh r ≤ d' + 2 * ht r ∨ hh r ≤ 9) ∧ gq nms d' ((k : Int) + 1) r [] (some q)) (hb : d + 2 * (1 + ht r) ≤ hL k) (hc : ∀ j, cn r j ≤ c (k + (j + 1))) :
    k < 3 ∧ q ∈ kindsL ∧ hh r ≤ hL (k + 1) ∧ oc r ≤ c (k + 1) ∧ ok c (k + 1) r [] (some q) := by
  obtain ⟨d', rfl, h1, h2, h3, h4⟩ := h
  have k3 : k < 3 := by omega
  have hl := hL_hL k3
  refine ⟨k3, h2, ?_, ?_, ?_⟩
  · rcases h3 with h3 | h3 <;> omega
  · rw [← cn_oc]
    exact hc 0
  · rw [up_int] at h4
    refine ih (k + 1) d' [] [] (some q) h4 (fun x hx => hx) (by omega) (by omega) fun j => ?_
    have := hc j
    rw [show k + 1 + j = k + (j + 1) by omega]
    exact this
theorem ok_of {c : Nat → Nat} {nms : List Str} : ∀ (e : TE) (k d : Nat) (ns ns' : List Str) (a : Option Str), gq nms d (k : Int) e ns a → (∀ x ∈ ns, x ∈ ns') → k ≤ 3 → d + 2 * ht e ≤ hL k → (∀ j, cn e j ≤ c (k + j)) → ok c k e ns' a := by
  have mem : ∀ {ns ns' : List Str} {x : Str}, (∀ y ∈ ns, y ∈ ns') → ∀ y ∈ ns ++ [x], y ∈ x :: ns' := fun h y hy => by
    rcases List.mem_append.mp hy with h1 | h1
    · exact List.mem_cons_of_mem _ (h y h1)
    · rw [List.mem_singleton] at h1
      subst h1
      exact List.mem_cons_self
  intro e
  induction e with
  | num n => intro k d ns ns' a h hs hk hb hc; rw [ok]; trivial
  | name x =>
    intro k d ns ns' a h hs hk hb hc
    rw [gq] at h
    rw [ok]
    exact hs x h
  | fn x b ih =>
    intro k d ns ns' a h hs hk hb hc
    rw [gq] at h
    rw [ht] at hb
    rw [ok]
    have hbl := bL_hL hk
    refine ⟨by have := h.2.1; omega, ?_, ih k d _ _ a h.2.2 (mem hs) hk (by omega) fun j => ?_⟩
    · have := hc 0
      rw [cn, cn_oc] at this
      rw [Nat.add_zero] at this
      omega
    · have := hc j
      rw [cn] at this
      omega
  | op o e f ih1 ih2 =>
    intro k d ns ns' a h hs hk hb hc
    rw [gq] at h
    rw [ht] at hb
    rw [ok]
    have hc := fun j => (by have := hc j; rw [cn] at this; exact this : _ ≤ c (k + j))
    exact ⟨ih1 k d _ _ a h.1 hs hk (by omega) fun j => (by have := hc j; omega), ih2 k d _ _ a h.2 hs hk (by omega) fun j => (by have := hc j; omega)⟩
  | iff t e f ih0 ih1 ih2 =>
    intro k d ns ns' a h hs hk hb hc
    rw [gq] at h
    rw [ht] at hb
    rw [ok]
    have hc := fun j => (by have := hc j; rw [cn] at this; exact this : _ ≤ c (k + j))
    exact ⟨ih0 k d _ _ a h.1 hs hk (by omega) fun j => (by have := hc j; omega), ih1 k d _ _ a h.2.1 hs hk (by omega) fun j => (by have := hc j; omega), ih2 k d _ _ a h.2.2 hs hk (by omega) fun j => (by have := hc j; omega)⟩
  | lett x e f ih1 ih2 =>
    intro k d ns ns' a h hs hk hb hc
    rw [gq] at h
    rw [ht] at hb
    rw [ok]
    have hc := fun j => (by have := hc j; rw [cn] at this; exact this : _ ≤ c (k + j))
    exact ⟨ih1 k d _ _ a h.2.1 hs hk (by omega) fun j => (by have := hc j; omega), ih2 k d _ _ a h.2.2 (mem hs) hk (by omega) fun j => (by have := hc j; omega)⟩
  | say e ih =>
    intro k d ns ns' a h hs hk hb hc
    rw [gq] at h
    rw [ht] at hb
    rw [ok]
    have hc := fun j => (by have := hc j; rw [cn] at this; exact this : _ ≤ c (k + j))
    exact ih k d _ _ a h hs hk (by omega) fun j => (by have := hc j; omega)
  | rule q r b ih1 ih2 =>
    intro k d ns ns' a h hs hk hb hc
    rw [gq] at h
    rw [ht] at hb
    rw [ok]
    refine ⟨rule_ok hk ih1 h.1 (by omega) fun j => ?_, ih2 k d _ _ a h.2 hs hk (by omega) fun j => ?_⟩
    · have := hc (j + 1)
      rw [cn] at this
      omega
    · have := hc j
      cases j with
      | zero => rw [cn] at this; omega
      | succ j => rw [cn] at this; omega
  | keep q r ih1 =>
    intro k d ns ns' a h hs hk hb hc
    rw [gq] at h
    rw [ht] at hb
    rw [ok]
    refine rule_ok hk ih1 h (by omega) fun j => ?_
    have := hc (j + 1)
    rw [cn] at this
    omega
  | part i =>
    intro k d ns ns' a h hs hk hb hc
    rw [gq] at h
    rw [ok]
    exact h
  | usual =>
    intro k d ns ns' a h hs hk hb hc
    rw [gq] at h
    rw [ok]
    exact h
  | witha e ih =>
    intro k d ns ns' a h hs hk hb hc
    rw [gq] at h
    rw [ht] at hb
    rw [ok]
    have hc := fun j => (by have := hc j; rw [cn] at this; exact this : _ ≤ c (k + j))
    exact ⟨h.1, ih k d _ _ a h.2 hs hk (by omega) fun j => (by have := hc j; omega)⟩
  | do1 e ih =>
    intro k d ns ns' a h hs hk hb hc
    rw [gq] at h
    rw [ht] at hb
    rw [ok]
    have hc := fun j => (by have := hc j; rw [cn] at this; exact this : _ ≤ c (k + j))
    exact ⟨h.1, ih k d _ _ a h.2 hs hk (by omega) fun j => (by have := hc j; omega)⟩
  | do2 e f ih1 ih2 =>
    intro k d ns ns' a h hs hk hb hc
    rw [gq] at h
    rw [ht] at hb
    rw [ok]
    have hc := fun j => (by have := hc j; rw [cn] at this; exact this : _ ≤ c (k + j))
    exact ⟨h.1, ih1 k d _ _ a h.2.1 hs hk (by omega) fun j => (by have := hc j; omega), ih2 k d _ _ a h.2.2 hs hk (by omega) fun j => (by have := hc j; omega)⟩
theorem am2 (a b : Nat) : 4 * (a * b) ≤ (a + b) * (a + b) := by
  rcases Nat.le_total a b with h | h
  · obtain ⟨d, rfl⟩ := Nat.exists_eq_add_of_le h
    simp only [Nat.mul_add, Nat.add_mul, Nat.mul_comm d a]
    omega
  · obtain ⟨d, rfl⟩ := Nat.exists_eq_add_of_le h
    simp only [Nat.mul_add, Nat.add_mul, Nat.mul_comm d b]
    omega
theorem am4 {a b c d : Nat} (h : a + (b + (c + d)) ≤ 64) : a * (b * (c * d)) ≤ 65536 := by
  have h1 := am2 a b
  have h2 := am2 c d
  have h3 := am2 (a + b) (c + d)
  have h4 : (a + b + (c + d)) * (a + b + (c + d)) ≤ 64 * 64 := Nat.mul_le_mul (by omega) (by omega)
  have h5 : (a + b) * (c + d) ≤ 1024 := by omega
  have h6 := Nat.mul_le_mul h1 h2
  have h7 := Nat.mul_le_mul h5 h5
  have e1 : (a + b) * (a + b) * ((c + d) * (c + d)) = (a + b) * (c + d) * ((a + b) * (c + d)) := Nat.mul_mul_mul_comm _ _ _ _
  have e2 : 4 * (a * b) * (4 * (c * d)) = 16 * (a * (b * (c * d))) := by
    rw [Nat.mul_mul_mul_comm, Nat.mul_assoc a b]
  omega
/-- the evaluation of a drawn program -/
theorem ev_root {nms : List Str} {e : TE} {fl : Int} (h : Pg nms e) (h0 : 0 ≤ fl) (h1 : fl ≤ 24) : ∃ r s', ev 659 false e .nil .none 0 (sta0 fl) = some (r, s') ∧ s'.outs.length ≤ 5000000 := by
  have hsz := cn_sz e
  have h60 := h.sz
  have hc : ∀ k, 1 ≤ (fun j => max 1 (cn e j)) k := fun k => Nat.le_max_left _ _
  have h10 := h.ht
  have hhh := h.hh
  have hok : ok (fun j => max 1 (cn e j)) 0 e [] none := ok_of e 0 6 [] [] none h.gq (fun x hx => hx) (by decide) (by show _ ≤ 26; omega) fun j => by
    rw [Nat.zero_add]
    exact Nat.le_max_right _ _
  have hK : pL (fun j => max 1 (cn e j)) 0 ≤ 65536 := by
    show max 1 (cn e 0) * (max 1 (cn e 1) * (max 1 (cn e 2) * max 1 (cn e 3))) ≤ 65536
    refine am4 ?_
    omega
  obtain ⟨r, s', e1, v, _⟩ := all_PF hc 659 false 0 e .nil .none (sta0 fl) fl.toNat [] none [] 0 (by decide) hok (by show _ ≤ 26; omega) (by rw [← cn_oc]; exact Nat.le_max_right _ _) (fun x hx => by cases hx) (by rw [vE]; trivial) (by rw [vA]; exact ⟨rfl, rfl⟩) (by show fl = (fl.toNat : Int); omega) (fun k q r z => by cases z) (fun z => by cases z) ⟨.none, 0, NA.refl _, by rw [NE]; trivial, fun v hv => (by cases hv), .none, Nat.le_refl _⟩ (by
    rw [if_neg Bool.false_ne_true]
    show hh e + 0 + 57 + 24 * fl.toNat ≤ 659 + 0
    omega)
  refine ⟨r, s', e1, ?_⟩
  have hl := (v.low h0).1
  have ho : (s'.outs.length : Int) ≤ (0 : Int) + (oc e * pL (fun j => max 1 (cn e j)) 1 : Nat) + pL (fun j => max 1 (cn e j)) 0 * (fl - s'.fuel) := v.outs
  have ht := oc_K hc (k := 0) (by decide) (e := e) (by rw [← cn_oc]; exact Nat.le_max_right _ _)
  generalize pL (fun j => max 1 (cn e j)) 0 = K at *
  have ht : oc e * pL (fun j => max 1 (cn e j)) 1 ≤ K := ht
  have m1 : (K : Int) * (fl - s'.fuel) ≤ K * 25 := Int.mul_le_mul_of_nonneg_left (by omega) (by omega)
  omega
end Zt

set_option Elab.async false
set_option linter.all false
set_option maxRecDepth 100000
set_option maxHeartbeats 4000000
namespace Zt
open PySem L2 PySem.Spec PyProof.Rows Zg RZ
local macro_rules | `(tactic| walk_at "sq") => `(tactic| first | exact SqL.of (by assumption) | exact .inl (SqL.of (by assumption)) | assumption | exact SqT.of (by assumption) | exact .inr (SqT.of (by assumption)) | exact SqL.of upd_same | exact .inl (SqL.of upd_same))
local macro_rules | `(tactic| walk_at "hp") => `(tactic| first | assumption | exact upd_same)
local macro_rules | `(tactic| walk_at "cond") => `(tactic| first | assumption | rfl | (apply And.intro <;> assumption) | decide | (show (0 : Int) < _; decide) | (apply And.intro <;> decide) | (apply Or.inr; apply And.intro <;> decide) | (apply Or.inl; apply And.intro <;> decide))
local macro_rules | `(tactic| walk_at "s") => `(tactic| first
  | (with_reducible apply iteF)
  | (with_reducible apply iteT)
  | (apply e1; rfl)
  | (apply e2; rfl; rfl)
  | (apply e4; rfl; rfl; walk_at "sq"; rfl)
  | (apply e4; rfl; rfl; walk_at "hp"; rfl)
  | (apply e2; rfl; walk_at "sq")
  | (apply eOr; rfl)
  | (apply eOrR; rfl)
  | (apply eTru; walk_at "sq")
  | (apply eTruT; walk_at "sq")
  | (apply And.intro; (walk_at "cond"))
  | (apply iteTr; rfl)
  | (apply iteFr; rfl)
  | (apply iteD; all_goals intro _)
  | (with_reducible apply tNext_i))
local macro_rules | `(tactic| walk_at "g") => `(tactic| repeat' ((fail_if_success (with_reducible apply seq_i)); (fail_if_success (with_reducible apply cut_i)); (walk_at "s")))
local macro_rules | `(tactic| walk_at "size") => `(tactic| first | (simp only [List.length_cons, List.length_nil]; decide) | decide)
local macro_rules | `(tactic| walk_at "newp") => `(tactic| (intro p hp; generalize hH : upd _ _ _ = H1; have st := new_facts hp hH; clear hH; obtain ⟨s, t⟩ := st))
local macro_rules | `(tactic| walk_at "new") => `(tactic| walk_at "g"; first | (apply And.intro; (focus (apply small100; walk_at "size")); walk_at "newp") | (walk_at "newp"))

def spLaw (K : PySem.W.Frag) : Sp := fun vs H Q _ => ∃ (a : Addr) (ns : List Int), vs = [.ref a] ∧ SqL K H a (ns.map V.int) ∧ ns.length ≤ 63 ∧ ∀ H', Q (.bl true) H'
theorem ix_i {K : PySem.W.Frag} {H : Hp} {p : Addr} {xs : List V} {d : Int} {Q : VK} (h : H p = some (.lst xs)) (h0 : 0 ≤ d) (h1 : d < xs.length) (q : ∀ v, xs[d.toNat]? = some v → Q v H) : rIxL K (.ref p) (.int d) H Q := by
  obtain ⟨v, e1, e2⟩ := at_ex h0 h1
  exact ⟨p, xs, d, v, rfl, rfl, SqL.of h, e2, q v e1⟩
theorem rrun_tups {H H' : Hp} (h : Tups H H') {outs : List (Int × Sh)} {er : Er} {v : V} (r : RRun H outs er v) : RRun H' outs er v := by
  obtain ⟨p, po, ev, xo, rfl, h1, h2, h3, h4⟩ := r
  exact ⟨p, po, ev, xo, rfl, h _ _ h1, h _ _ h2, Paired.imp' h3 fun _ _ q => q.tups h, h4.tups h⟩
theorem cst_new {H : Hp} {c p : Addr} {nms : List Str} (h : CSt H c nms) (f : H p = none) : p ≠ c := fun e => by
  subst e
  obtain ⟨l, hl⟩ := h.lst
  rw [hl] at f
  cases f
inductive spStart (K : PySem.W.Frag) : List V → Hp → VK → XK → Prop
  | mk {a : Addr} {ns : List Int} {H : Hp} {Q : VK} {E : XK} (h : SqL K H a (ns.map V.int)) (hl : ns.length ≤ 63) (q : ∀ p H', Same H H' → CSt H' p [] → Q (.ref p) H') : spStart K [.ref a] H Q E
section
variable {P : Program} {w : World} {K : PySem.W.Frag} {mg : Str → Option Value} {base : Heap} {aFunction aRun aRunB aPlace aForms aActions aOps : Addr} {k n : Nat}
theorem ok_start (T : Tx w K mg aFunction aRun aRunB aPlace aForms aActions aOps) : FnX P w K mg base (k + 1) "_law_start" ["script"] (spStart K) := by
  refine T.d__law_start.ok sc__law_start (fun vs H Q E h => by cases h; rfl) (fun f cdv A outer s H vs Q E hr h => ?_)
  rcases h with ⟨h, hl, q⟩
  rename_i a ns
  refine ⟨_, (pss_one (ps_ret (pe_lst (pa_cons (pe_lc (own := [("cell", 1)]) rfl sc__law_start.nd (pi_list (pe_slice sl_list (pv 0) po_none (po_some (pe_int)))) (blkOk_by (N := ["script", "cell"]) (sc := defScope s__law_start) (by decide +kernel)) (fun _ _ _ _ _ => pg_name (i := 1) sc__law_start.nd rfl (.inl rfl)) (fun _ _ _ _ _ => pts_nil) (fun _ _ _ _ _ => pe_callTy call_int1 rfl T.z_int (by decide +kernel) (pa_cons (pv 1) pa_nil))) (pa_cons (pe_int) (pa_cons (pe_int) (pa_cons (pe_int) (pa_cons (pe_int) (pa_cons (pe_lst pa_nil) pa_nil))))))))), ?_⟩
  walk_at "g"
  walk_at "newp"; rename_i p1 f1 H1 s1 t1
  have hlc := cutV_length (ns.map V.int) none (some 63)
  rw [List.length_map] at hlc
  have hint : ∀ v ∈ cutV (ns.map V.int) none (some 63), ∃ j : Int, v = .int j := by
    intro v hv
    unfold cutV at hv
    obtain ⟨j, _, rfl⟩ := List.mem_map.mp (List.mem_of_mem_drop (List.mem_of_mem_take hv))
    exact ⟨j, rfl⟩
  refine ⟨p1, rfl, ⟨_, SqL.of t1⟩, fun D hD => ?_⟩
  generalize cutV (ns.map V.int) none (some 63) = xs at t1 hlc hint
  refine lc_rel (walk_list (xs := xs)) (fun i H v => ∃ j : Int, v = .int j) hD (by omega) (fun _ _ _ _ _ _ h => h) (fun H6 s6 => SqL.of (s6 _ _ t1)) ?_ ?_
  · rintro i v H6 H7 Q2 N2 hi s6 ⟨rfl, ex⟩ qq
    obtain ⟨j, rfl⟩ := hint v (List.mem_of_getElem? ex)
    refine ⟨rfl, yes_i ?_⟩
    walk_at "g"
    exact qq _ _ (Same.refl _) ⟨j, rfl⟩
  · intro H6 ys s6 h6 hl6 hr6
    obtain ⟨ms, rfl⟩ : ∃ ms : List Int, ys = ms.map V.int := by
      clear h6 hl6
      induction ys with
      | nil => exact ⟨[], rfl⟩
      | cons y ys ih =>
        obtain ⟨j, rfl⟩ := hr6 0 _ rfl
        obtain ⟨ms, rfl⟩ := ih fun i y e => hr6 (i + 1) y e
        exact ⟨j :: ms, rfl⟩
    rw [List.length_map] at hl6
    walk_at "new"; rename_i p2 f2 H2 s2 t2
    walk_at "new"; rename_i p3 f3 H3 s3 t3
    refine q p3 H3 (Same.trans s1 (Same.trans s6 (Same.trans s2 s3))) ⟨D, p2, ms, 0, 0, 0, 20, t3, Same.trans s2 s3 _ _ h6, by omega, Int.le_refl _, s3 _ _ t2, fun e => ?_, fun e => ?_⟩
    · subst e
      rw [s2 _ _ h6] at f3
      cases f3
    · subst e
      rw [t2] at f3
      cases f3
theorem ok_law (T : Tx w K mg aFunction aRun aRunB aPlace aForms aActions aOps) (G__law_start : FnX P w K mg base k "_law_start" ["script"] (spStart K)) (G__law_program : FnX P w K mg base k "_law_program" ["c"] spProgram) (G__law_take : FnX P w K mg base k "_law_take" ["c", "many"] spTake)
    (G_run : FnX P w K mg base k "run" ["program", "fuel"] spRun) (G__law_is_run : FnX P w K mg base k "_law_is_run" ["told"] spIsRun) (G__law_run : FnX P w K mg base k "_law_run" ["program", "fuel"] (spLRun 659)) :
    ∀ (f : Addr) (fd : FuncData), Fun K "law" "law" s_law f fd → FnOk P w K mg base CX0 (k + 1) f fd ["script"] (spLaw K) := by
  intro f fd F
  refine F.ok sc_law (fun vs H Q E h => by obtain ⟨_, _, rfl, _⟩ := h; rfl) (fun cdv A outer s H vs Q E hr h => ?_)
  obtain ⟨a, ns, rfl, hS, hl, q⟩ := h
  refine ⟨_, (pss_cons (ps_set (i := 1) sc_law.nd rfl (.inl rfl) (pe_fn G__law_start hr rfl (pa_cons (pv 0) pa_nil)))
    (pss_cons (ps_set (i := 2) sc_law.nd rfl (.inl rfl) (pe_fn G__law_program hr rfl (pa_cons (pv 1) pa_nil)))
    (pss_cons (ps_set (i := 3) sc_law.nd rfl (.inl rfl) (pe_ix ix_list (pe_lst (pa_cons (pe_int) (pa_cons (pe_fn G__law_take hr rfl (pa_cons (pv 1) (pa_cons (pe_int) pa_nil))) (pa_cons (pe_fn G__law_take hr rfl (pa_cons (pv 1) (pa_cons (pe_int) pa_nil))) pa_nil)))) (pe_fn G__law_take hr rfl (pa_cons (pv 1) (pa_cons (pe_int) pa_nil))) (fun _ _ => rfl)))
    (pss_cons (ps_set (i := 4) sc_law.nd rfl (.inl rfl) (pe_fn G_run hr rfl (pa_cons (pv 2) (pa_cons (pv 3) pa_nil))))
    (pss_one (ps_ret (pe_and (pe_fn G__law_is_run hr rfl (pa_cons (pv 4) pa_nil)) (pe_one (pe_cmpR (op_eqD hr.units) (pv 4) (pe_fn G__law_run hr rfl (pa_cons (pv 2) (pa_cons (pv 3) pa_nil))) (nomark _)))))))))), ?_⟩
  refine seq_i fun N hN => ?_
  walk_at "g"
  refine spStart.mk hS hl fun c H1 s1 hC1 => ?_
  refine hN _ _ ?_
  clear hN
  refine seq_i fun N hN => ?_
  walk_at "g"
  refine spProgram.mk hC1 fun e v nms H7 hC7 o7 r7 pg hnl => ?_
  refine hN _ _ ?_
  clear hN
  refine seq_i fun N hN => ?_
  walk_at "g"
  refine spTake.mk hC7 (by decide) (by decide) fun j1 H8 j1a j1b hC8 o8 => ?_
  walk_at "g"
  refine spTake.mk hC8 (by decide) (by decide) fun j2 H9 j2a j2b hC9 o9 => ?_
  walk_at "new"; rename_i p10 f10 H10 s10 t10
  have hC10 := hC9.same s10
  walk_at "g"
  refine spTake.mk hC10 (by decide) (by decide) fun j3 H11 j3a j3b hC11 o11 => ?_
  walk_at "g"
  refine ix_i (o11 _ _ (cst_new hC9 f10) t10) j3a j3b fun vf hv => ?_
  obtain ⟨fl, rfl, fl0, fl1⟩ : ∃ fl : Int, vf = .int fl ∧ 0 ≤ fl ∧ fl ≤ 24 := by
    have hm := List.mem_of_getElem? hv
    simp only [List.mem_cons, List.not_mem_nil, or_false] at hm
    rcases hm with rfl | rfl | rfl
    · exact ⟨_, rfl, by omega, by omega⟩
    · exact ⟨_, rfl, by omega, by omega⟩
    · exact ⟨_, rfl, by omega, by omega⟩
  obtain ⟨_, hc7⟩ := hC7.lst
  obtain ⟨_, hc8⟩ := hC8.lst
  obtain ⟨_, hc10⟩ := hC10.lst
  have r11 : RT H11 e v := (((r7.tups (o8.tups hc7)).tups (o9.tups hc8)).tups (Same.tups s10)).tups (o11.tups hc10)
  clear hv t10 hc7 hc8 hc10 o11 o9 o8 hC10 hC9 hC8 hC7 r7
  refine hN _ _ ?_
  clear hN
  obtain ⟨r, s', he, hou⟩ := ev_root (fl := fl) pg fl0 fl1
  have reach : Reach (Fin s'.outs (erOf r)) ⟨[.visit e .nil .none 0], [], fl, [], fun _ _ => none, none⟩ := by
    obtain ⟨c', e1, e2⟩ := (mach 659 false e .nil .none 0 (sta0 fl) r s' he fl0 hou (Fin s'.outs (erOf r)) [] [] (by show 0 + 3 * 659 ≤ 9990; decide) (by show 0 + 2 * 659 ≤ 9990; decide) (by
      cases r with
      | val u => exact ⟨0, .done ⟨rfl, rfl, rfl⟩⟩
      | stuck m => exact fun td sk f w => ⟨0, .done ⟨rfl, rfl, rfl⟩⟩
      | more => exact fun td sk f w => ⟨0, .done ⟨rfl, rfl, rfl⟩⟩)).1 rfl
    exact Reach.step e1 e2 ⟨Nat.le_of_ble_eq_true rfl, Nat.le_of_ble_eq_true rfl, Nat.le_of_ble_eq_true rfl⟩
  refine seq_i fun N hN => ?_
  walk_at "g"
  refine spRun.mk r11 reach fun vt H12 k12 rr => ?_
  have r12 := r11.tups k12.tup
  refine hN _ _ ?_
  clear hN
  walk_at "g"
  refine spIsRun.mk rr ?_
  walk_at "g"
  refine spLRun.mk he hou (Nat.le_trans hnl (by decide)) r12 (gq_nm pg.gq) fun vp H13 t13 rp => ?_
  have rr13 : RRun H13 s'.outs (erOf r) vt := rrun_tups t13 rr
  walk_at "g"
  refine eq_run rr13 rp ?_
  exact q _
theorem all_law (T : Tx w K mg aFunction aRun aRunB aPlace aForms aActions aOps) : ∀ (f : Addr) (fd : FuncData), Fun K "law" "law" s_law f fd → FnOk P w K mg base CX0 230 f fd ["script"] (spLaw K) := by
  have wh := ok_lwhole (P := P) (base := base) (k := 0) T
  have sh := ok_lisshown (k := 1) T wh
  have ru := ok_lisrun (k := 2) T (wh.mono (by decide)) sh
  have lr := ok_lrun (P := P) (base := base) (k := 228) (n := 659) T (fun nms => (all_ev (nms := nms) T 659).eval.fn (k := 228) (by decide) (by decide)) (fun nms => (ok_lbad (k := 0) T).mono (by decide)) (fun nms => (ok_lshown (k := 0) T).mono (by decide))
  exact ok_law (k := 229) T ((ok_start (k := 0) T).mono (by decide)) ((all_program T).mono (by decide)) ((all_take T).mono (by decide)) ((all_run T).mono (by decide)) (ru.mono (by decide)) lr
theorem law_end (T : Tx w K mg aFunction aRun aRunB aPlace aForms aActions aOps) {fa : Addr} (hm : mg "law" = some (.ref fa)) :
    ∃ fd : FuncData, (∀ (s : Shared) (u : Value), BindsTo s fd ⟨[u], []⟩ [("script", u)]) ∧ ∀ (P : Program) (base : Heap), FnOk P w K mg base CX0 230 fa fd ["script"] (spLaw K) := by
  obtain ⟨f, fd, F, _, m⟩ := T.d_law
  rw [hm] at m
  cases m
  refine ⟨fd, ?_, fun P base => all_law T fa fd F⟩
  obtain ⟨oc, od, kV, doc, pm, an, cdv, ct, osl, rfl, lk, hcd⟩ := F.ex
  exact fun s u => .of_eq rfl
end
end Zt

set_option Elab.async false
set_option linter.all false
set_option maxRecDepth 100000
set_option maxHeartbeats 4000000
namespace Zg
open PySem L2 PySem.Spec PyProof.Rows
/-! ### written dicts of the module, entry by entry -/
def Ents (P : Params) (R : Str → Value → Prop) : List DictEntry → List Str → Prop
  | [], [] => True
  | e :: r, x :: xs => (∃ t, e.key = .str x t ∧ e.hash = PyData.keyHash P x) ∧ R x e.val ∧ Ents P R r xs
  | _, _ => False
theorem Ents.keys {P : Params} {R : Str → Value → Prop} : ∀ {l : List DictEntry} {xs : List Str}, Ents P R l xs → PySem.W.KeysLit P l
  | [], [], _ => True.intro
  | e :: r, x :: xs, ⟨⟨t, a, b⟩, _, q⟩ => ⟨⟨x, t, a, b⟩, Ents.keys q⟩
  | [], _ :: _, h => h.elim
  | _ :: _, [], h => h.elim
theorem Ents.find {P : Params} {R : Str → Value → Prop} {x : Str} : ∀ {l : List DictEntry} {xs : List Str}, Ents P R l xs → x ∈ xs → ∃ e, l.find? (·.key.isStr x) = some e ∧ R x e.val
  | e :: r, y :: ys, ⟨⟨t, a, b⟩, q, s⟩, m => by
    by_cases h : y = x
    · subst h
      refine ⟨e, ?_, q⟩
      rw [List.find?_cons_of_pos]
      show e.key.isStr y = true
      rw [a]
      exact decide_eq_true rfl
    · have m' : x ∈ ys := by
        cases m with
        | head => exact absurd rfl h
        | tail _ m => exact m
      obtain ⟨e', f, g⟩ := Ents.find s m'
      refine ⟨e', ?_, g⟩
      rw [List.find?_cons_of_neg, f]
      show ¬ e.key.isStr x = true
      rw [a]
      exact fun z => h (of_decide_eq_true z)
  | [], _ :: _, h, _ => h.elim
/-- a written dict whose values are defs of the module: pairs of a key and a def's name -/
def RFn (mg : Str → Option Value) (l : List (Str × Str)) (x : Str) (v : Value) : Prop := ∃ n f, (x, n) ∈ l ∧ v = .ref f ∧ mg n = some (.ref f)
theorem rfn_mk {K : PySem.W.Frag} {h : Heap} {mg : Str → Option Value} (X : K.In h) (G : h.Ns mainGlobals mg) {l : List (Str × Str)} {x : Str} {v : Value} (n : Str) {f : Addr} (hv : v = .ref f) (a : PySem.W.nsIn K mainGlobals n = some (some (.ref f))) (m : (x, n) ∈ l) : RFn mg l x v := ⟨n, f, m, hv, PySem.W.mg_of X G a⟩
theorem c_fns {K : PySem.W.Frag} {h : Heap} {mg : Str → Option Value} (w : World) (X : K.In h) (G : h.Ns mainGlobals mg) (l : List (Str × Str)) (hu : ∀ x n m, (x, n) ∈ l → (x, m) ∈ l → n = m) {x : Str} {p : Addr} {es : Array DictEntry} {n : Nat} (a : PySem.W.nsIn K mainGlobals x = some (some (.ref p))) (lk : K.lookup p = some ⟨.type "dict", none, .dict es n, #[]⟩) (m : (p == sysModules) = false) (e : Ents w.params (RFn mg l) es.toList (l.map (·.1))) :
    ∃ p, mg x = some (.ref p) ∧ ∀ x n, (x, n) ∈ l → ∃ f, mg n = some (.ref f) ∧ KDct K w p x (.ref f) := by
  refine ⟨p, PySem.W.mg_of X G a, fun y k hy => ?_⟩
  obtain ⟨e', f, g⟩ := e.find (x := y) (List.mem_map.mpr ⟨_, hy, rfl⟩)
  obtain ⟨k', fa, hk', hv, hm⟩ := g
  have := hu y k k' hy hk'
  subst this
  refine ⟨fa, hm, es, n, e'.val, lk, e.keys, ?_, hv⟩
  unfold PySem.W.nsIn
  rw [lk]
  show (match es.toList.find? (·.key.isStr y) with
    | some e => some (some e.val)
    | none => if es.toList.any (·.refKey) then none else some none) = _
  rw [f]
theorem formsU : ∀ x n m, (x, n) ∈ formsL → (x, m) ∈ formsL → n = m := by
  have all : ∀ a ∈ formsL, ∀ b ∈ formsL, a.1 = b.1 → a.2 = b.2 := by decide +kernel
  exact fun x n m h1 h2 => all _ h1 _ h2 rfl
theorem actionsU : ∀ x n m, (x, n) ∈ actionsL → (x, m) ∈ actionsL → n = m := by
  have all : ∀ a ∈ actionsL, ∀ b ∈ actionsL, a.1 = b.1 → a.2 = b.2 := by decide +kernel
  exact fun x n m h1 h2 => all _ h1 _ h2 rfl
theorem opsU : ∀ x n m, (x, n) ∈ opsL → (x, m) ∈ opsL → n = m := by
  have all : ∀ a ∈ opsL, ∀ b ∈ opsL, a.1 = b.1 → a.2 = b.2 := by decide +kernel
  exact fun x n m h1 h2 => all _ h1 _ h2 rfl
/-- a written dict whose values are tuples of texts -/
def RTupL (K : PySem.W.Frag) (l : List (Str × List Str)) (x : Str) (v : Value) : Prop := ∃ p ps, (x, ps) ∈ l ∧ v = .ref p ∧ KTup K p ps
theorem rtupl_mk {K : PySem.W.Frag} {h : Heap} (_ : K.In h) {l : List (Str × List Str)} {x : Str} {v : Value} {p : Addr} {o : Obj} {its : Array Value} {n : Nat} (ps : List Str) (hv : v = .ref p) (lk : K.lookup p = some o) (c : o.cls = .type "tuple") (d : o.data = .seq its n) (z : its.size ≤ sizeLine) (vv : Vals (ps.map V.str) its.toList) (m : (x, ps) ∈ l) : RTupL K l x v :=
  ⟨p, ps, m, hv, fun _ => .inr ⟨o, its, n, lk, c, d, z, vv⟩⟩
theorem c_tups {K : PySem.W.Frag} {h : Heap} {mg : Str → Option Value} (w : World) (X : K.In h) (G : h.Ns mainGlobals mg) (l : List (Str × List Str)) (hu : ∀ x n m, (x, n) ∈ l → (x, m) ∈ l → n = m) {x : Str} {p : Addr} {es : Array DictEntry} {n : Nat} (a : PySem.W.nsIn K mainGlobals x = some (some (.ref p))) (lk : K.lookup p = some ⟨.type "dict", none, .dict es n, #[]⟩) (m : (p == sysModules) = false) (e : Ents w.params (RTupL K l) es.toList (l.map (·.1))) :
    ∃ p, mg x = some (.ref p) ∧ ∀ x ps, (x, ps) ∈ l → ∃ a, KDct K w p x (.ref a) ∧ KTup K a ps := by
  refine ⟨p, PySem.W.mg_of X G a, fun y k hy => ?_⟩
  obtain ⟨e', f, g⟩ := e.find (x := y) (List.mem_map.mpr ⟨_, hy, rfl⟩)
  obtain ⟨pa, k', hk', hv, hm⟩ := g
  have := hu y k k' hy hk'
  subst this
  refine ⟨pa, ⟨es, n, e'.val, lk, e.keys, ?_, hv⟩, hm⟩
  unfold PySem.W.nsIn
  rw [lk]
  show (match es.toList.find? (·.key.isStr y) with
    | some e => some (some e.val)
    | none => if es.toList.any (·.refKey) then none else some none) = _
  rw [f]
/-- the __init__ of a class that is called by the class -/
theorem base_mk {K : PySem.W.Frag} {h : Heap} {mg : Str → Option Value} (X : K.In h) (G : h.Ns mainGlobals mg) {x m qual : Str} {st : Stmt} {ps : List Str} {C f : Addr} {od an : Option Addr} {sl : Array (Option Value)} {oc kV dc pm cd ct : Value}
    (aC : PySem.W.nsIn K mainGlobals x = some (some (.ref C))) (rd : PySem.W.readsIn K C (.type "type") = true) (ga : PySem.W.specialIn K (.ref C) "__getattribute__" = some (some (.builtin "type.__getattribute__")))
    (fc : PySem.W.findCls K (.ref C) (.type "type") m = some (.val (.ref f))) (l : K.lookup f = some ⟨oc, od, .func (PySem.W.fnOf m qual (defArgs st) (defBody st) (defScope st) .none kV dc pm an cd ct), sl⟩) (c : PySem.W.codeIn K cd qual = true) (k : PySem.W.keepIn K (.ref f) = true)
    (hb : ∀ (kV doc pm : Value) (an : Option Addr) (cdv ct : Value) (us : List Value), us.length = ps.length → bindArgs (PySem.W.fnOf m qual (defArgs st) (defBody st) (defScope st) .none kV doc pm an cdv ct) ⟨us, []⟩ = pure (ps.zip us)) : ∃ C, mg x = some (.ref C) ∧ DefB K mg C m qual st ps := by
  have F := fun_mk (st := st) l c k
  exact ⟨C, PySem.W.mg_of X G aC, f, _, F, F.binds hb, ⟨rd, ga⟩, fc, k⟩
theorem isF_mk {K : PySem.W.Frag} {h : Heap} {mg : Str → Option Value} (X : K.In h) (G : h.Ns mainGlobals mg) {C : Addr} (aC : PySem.W.nsIn K mainGlobals "Function" = some (some (.ref C)))
    (ha : PySem.W.findIn K (.ref C) "__class__" = some (some (.builtin "object.__class__"))) (hn : PySem.W.specialIn K (.builtin "object.__class__") "__get__" = some (some (.builtin "getset_descriptor.__get__"))) (htk : PySem.W.takesIn K (.builtin "object.__class__") = some true)
    (hm : PySem.W.mroIn K C (.type "object") = some true) (me : PySem.W.kitOne K (.ref C) (.ref C) = some true) (ne : PySem.W.kitOne K (.type "int") (.ref C) = some false) : ∀ a, mg "Function" = some (.ref a) → IsF K a := fun a e => by
  rw [PySem.W.mg_of X G aC] at e
  cases e
  exact ⟨ha, hn, htk, hm, me, ne⟩
theorem defX_mk {K : PySem.W.Frag} {h : Heap} {mg : Str → Option Value} (X : K.In h) (G : h.Ns mainGlobals mg) {x : Str} {st : Stmt} {ps : List Str} {f : Addr} {od an : Option Addr} {sl : Array (Option Value)} {oc kV dc pm cd ct : Value}
    (a : PySem.W.nsIn K mainGlobals x = some (some (.ref f))) (l : K.lookup f = some ⟨oc, od, .func (PySem.W.fnOf x x (defArgs st) (defBody st) (defScope st) .none kV dc pm an cd ct), sl⟩) (c : PySem.W.codeIn K cd x = true) (k : PySem.W.keepIn K (.ref f) = true)
    (hb : ∀ (kV doc pm : Value) (an : Option Addr) (cdv ct : Value) (us : List Value), us.length = ps.length → bindArgs (PySem.W.fnOf x x (defArgs st) (defBody st) (defScope st) .none kV doc pm an cdv ct) ⟨us, []⟩ = pure (ps.zip us)) : DefX K mg x st ps := by
  have F := fun_mk (st := st) l c k
  exact ⟨f, _, F, F.binds hb, PySem.W.mg_of X G a⟩
theorem walk {l : PySem.W.OpenLaw} {q : Program} {loose : List Str} {XP : (Str → Option Value) → Heap → Prop} {YP : World → Heap → Prop} {d : DefRec} {K : Params → PySem.W.Frag} (hn : l.most = some 63) (hdf : d.params.defaults = [])
    (hY : ∀ (w : World) (h : Heap), YP w h → (K w.params).In h)
    (F : ∀ (w : World) (mg : Str → Option Value) (fa : Addr) (h : Heap), (K w.params).In h → h.Ns mainGlobals mg → mg d.name = some (.ref fa) →
      ∃ fd : FuncData, (∀ (s : Shared) (u : Value), BindsTo s fd ⟨[u], []⟩ [("script", u)]) ∧ ∀ base : Heap, (K w.params).In base → base.Ns mainGlobals mg → FnOk l.prog w (K w.params) mg base CX0 230 fa fd ["script"] (Zt.spLaw (K w.params))) :
    PySem.W.WalkO q loose XP YP l.row.toRowW d [] (fun f vs => PySem.call f vs) :=
  L2.walk_of (n := 63) (k := 230) (x := "script") (CX := fun _ => CX0) (sp := fun w => Zt.spLaw (K w.params)) hn (by decide) hdf ⟨rfl, by decide, by decide⟩ hY F (fun _ _ a ns hl _ hS => ⟨a, ns, rfl, hS, hl, fun _ => rfl⟩) fun _ _ _ _ _ z => z
structure Cl_Function (K : PySem.W.Frag) (mg : Str → Option Value) (C : Addr) : Prop where
  cl : Cls K C
  mg_ : mg "Function" = some (.ref C)
  n_level : NoAttr K C "level"
  n_body : NoAttr K C "body"
  n_scope : NoAttr K C "scope"
  d_Function___init__ : DefI K C "__init__" "Function.__init__" s_Function___init__ (["self", "level", "body", "scope"] : List PySem.Str)
theorem mk_Function {K : PySem.W.Frag} {h : Heap} {mg : Str → Option Value} (X : K.In h) (G : h.Ns mainGlobals mg) {C f0 : Addr}
    (aC : PySem.W.nsIn K mainGlobals "Function" = some (some (.ref C)))
    (pg : PySem.W.plainGet K C Str.empty = true) (hd : PySem.W.hasDictIn K C = true) (po : PySem.W.plainOver K C = true) (sa : PySem.W.findIn K (.ref C) "__setattr__" = some (some (.builtin "object.__setattr__"))) (mk : PySem.W.makesIn K C = true) (kc : PySem.W.keepIn K (.ref C) = true)
    (n_level : PySem.W.findIn K (.ref C) "level" = some none)
    (n_body : PySem.W.findIn K (.ref C) "body" = some none)
    (n_scope : PySem.W.findIn K (.ref C) "scope" = some none)
    {od0 an0 : Option Addr} {sl0 : Array (Option Value)} {oc0 kV0 dc0 pm0 cd0 ct0 : Value}
    (a0 : PySem.W.findIn K (.ref C) "__init__" = some (some (.ref f0))) (i0 : PySem.W.isFn K (.ref f0) = true) (l0 : K.lookup f0 = some ⟨oc0, od0, .func (PySem.W.fnOf "__init__" "Function.__init__" (defArgs s_Function___init__) (defBody s_Function___init__) (defScope s_Function___init__) .none kV0 dc0 pm0 an0 cd0 ct0), sl0⟩) (c0 : PySem.W.codeIn K cd0 "Function.__init__" = true) (k0 : PySem.W.keepIn K (.ref f0) = true)
    : Cl_Function K mg C := by
  have F0 := fun_mk (st := s_Function___init__) l0 c0 k0
  have b0 := F0.binds (ps := (["self", "level", "body", "scope"] : List PySem.Str)) fun _ _ _ _ _ _ us hl => match us, hl with | [_, _, _, _], _ => rfl
  exact ⟨⟨pg, hd, po, sa⟩, PySem.W.mg_of X G aC, n_level, n_body, n_scope, ⟨_, _, F0, b0, ⟨mk, a0, i0, kc⟩⟩⟩
structure Cl_Walk (K : PySem.W.Frag) (mg : Str → Option Value) (C : Addr) : Prop where
  cl : Cls K C
  mg_ : mg "Walk" = some (.ref C)
  n_todo : NoAttr K C "todo"
  n_fuel : NoAttr K C "fuel"
  n_outputs : NoAttr K C "outputs"
  n_end : NoAttr K C "end"
  n_stack : NoAttr K C "stack"
  n_settings : NoAttr K C "settings"
  d_Walk___init__ : DefI K C "__init__" "Walk.__init__" s_Walk___init__ (["self", "fuel"] : List PySem.Str)
  d_Walk_is_going : DefM K C "is_going" "Walk.is_going" s_Walk_is_going (["self"] : List PySem.Str)
  d_Walk_visit : DefM K C "visit" "Walk.visit" s_Walk_visit (["self", "expression", "scope"] : List PySem.Str)
  d_Walk_visit_all : DefM K C "visit_all" "Walk.visit_all" s_Walk_visit_all (["self", "expressions", "scope"] : List PySem.Str)
  d_Walk_apply : DefM K C "apply" "Walk.apply" s_Walk_apply (["self", "function", "value"] : List PySem.Str)
  d_Walk_choose : DefM K C "choose" "Walk.choose" s_Walk_choose (["self", "level", "branches", "scope"] : List PySem.Str)
  d_Walk_set_for : DefM K C "set_for" "Walk.set_for" s_Walk_set_for (["self", "key", "setting", "body", "scope"] : List PySem.Str)
  d_Walk_restore : DefM K C "restore" "Walk.restore" s_Walk_restore (["self", "change"] : List PySem.Str)
  d_Run_result : DefM K C "result" "Run.result" s_Run_result (["self"] : List PySem.Str)
  d_Run_finish : DefM K C "finish" "Run.finish" s_Run_finish (["self"] : List PySem.Str)
  d_Run_get_stuck : DefM K C "get_stuck" "Run.get_stuck" s_Run_get_stuck (["self", "level"] : List PySem.Str)
  d_Run_step : DefM K C "step" "Run.step" s_Run_step (["self"] : List PySem.Str)
  d_Run_operate : DefM K C "operate" "Run.operate" s_Run_operate (["self", "word", "level"] : List PySem.Str)
  d_Run_decide : DefM K C "decide" "Run.decide" s_Run_decide (["self", "level"] : List PySem.Str)
  d_Run_set_on : DefM K C "set_on" "Run.set_on" s_Run_set_on (["self", "key", "setting"] : List PySem.Str)
theorem mk_Walk {K : PySem.W.Frag} {h : Heap} {mg : Str → Option Value} (X : K.In h) (G : h.Ns mainGlobals mg) {C f0 f1 f2 f3 f4 f5 f6 f7 f8 f9 f10 f11 f12 f13 f14 : Addr}
    (aC : PySem.W.nsIn K mainGlobals "Walk" = some (some (.ref C)))
    (pg : PySem.W.plainGet K C Str.empty = true) (hd : PySem.W.hasDictIn K C = true) (po : PySem.W.plainOver K C = true) (sa : PySem.W.findIn K (.ref C) "__setattr__" = some (some (.builtin "object.__setattr__"))) (mk : PySem.W.makesIn K C = true) (kc : PySem.W.keepIn K (.ref C) = true)
    (n_todo : PySem.W.findIn K (.ref C) "todo" = some none)
    (n_fuel : PySem.W.findIn K (.ref C) "fuel" = some none)
    (n_outputs : PySem.W.findIn K (.ref C) "outputs" = some none)
    (n_end : PySem.W.findIn K (.ref C) "end" = some none)
    (n_stack : PySem.W.findIn K (.ref C) "stack" = some none)
    (n_settings : PySem.W.findIn K (.ref C) "settings" = some none)
    {od0 an0 : Option Addr} {sl0 : Array (Option Value)} {oc0 kV0 dc0 pm0 cd0 ct0 : Value}
    (a0 : PySem.W.findIn K (.ref C) "__init__" = some (some (.ref f0))) (i0 : PySem.W.isFn K (.ref f0) = true) (l0 : K.lookup f0 = some ⟨oc0, od0, .func (PySem.W.fnOf "__init__" "Walk.__init__" (defArgs s_Walk___init__) (defBody s_Walk___init__) (defScope s_Walk___init__) .none kV0 dc0 pm0 an0 cd0 ct0), sl0⟩) (c0 : PySem.W.codeIn K cd0 "Walk.__init__" = true) (k0 : PySem.W.keepIn K (.ref f0) = true)
    {od1 an1 : Option Addr} {sl1 : Array (Option Value)} {oc1 kV1 dc1 pm1 cd1 ct1 : Value}
    (a1 : PySem.W.findIn K (.ref C) "is_going" = some (some (.ref f1))) (i1 : PySem.W.isFn K (.ref f1) = true) (l1 : K.lookup f1 = some ⟨oc1, od1, .func (PySem.W.fnOf "is_going" "Walk.is_going" (defArgs s_Walk_is_going) (defBody s_Walk_is_going) (defScope s_Walk_is_going) .none kV1 dc1 pm1 an1 cd1 ct1), sl1⟩) (c1 : PySem.W.codeIn K cd1 "Walk.is_going" = true) (k1 : PySem.W.keepIn K (.ref f1) = true)
    {od2 an2 : Option Addr} {sl2 : Array (Option Value)} {oc2 kV2 dc2 pm2 cd2 ct2 : Value}
    (a2 : PySem.W.findIn K (.ref C) "visit" = some (some (.ref f2))) (i2 : PySem.W.isFn K (.ref f2) = true) (l2 : K.lookup f2 = some ⟨oc2, od2, .func (PySem.W.fnOf "visit" "Walk.visit" (defArgs s_Walk_visit) (defBody s_Walk_visit) (defScope s_Walk_visit) .none kV2 dc2 pm2 an2 cd2 ct2), sl2⟩) (c2 : PySem.W.codeIn K cd2 "Walk.visit" = true) (k2 : PySem.W.keepIn K (.ref f2) = true)
    {od3 an3 : Option Addr} {sl3 : Array (Option Value)} {oc3 kV3 dc3 pm3 cd3 ct3 : Value}
    (a3 : PySem.W.findIn K (.ref C) "visit_all" = some (some (.ref f3))) (i3 : PySem.W.isFn K (.ref f3) = true) (l3 : K.lookup f3 = some ⟨oc3, od3, .func (PySem.W.fnOf "visit_all" "Walk.visit_all" (defArgs s_Walk_visit_all) (defBody s_Walk_visit_all) (defScope s_Walk_visit_all) .none kV3 dc3 pm3 an3 cd3 ct3), sl3⟩) (c3 : PySem.W.codeIn K cd3 "Walk.visit_all" = true) (k3 : PySem.W.keepIn K (.ref f3) = true)
    {od4 an4 : Option Addr} {sl4 : Array (Option Value)} {oc4 kV4 dc4 pm4 cd4 ct4 : Value}
    (a4 : PySem.W.findIn K (.ref C) "apply" = some (some (.ref f4))) (i4 : PySem.W.isFn K (.ref f4) = true) (l4 : K.lookup f4 = some ⟨oc4, od4, .func (PySem.W.fnOf "apply" "Walk.apply" (defArgs s_Walk_apply) (defBody s_Walk_apply) (defScope s_Walk_apply) .none kV4 dc4 pm4 an4 cd4 ct4), sl4⟩) (c4 : PySem.W.codeIn K cd4 "Walk.apply" = true) (k4 : PySem.W.keepIn K (.ref f4) = true)
    {od5 an5 : Option Addr} {sl5 : Array (Option Value)} {oc5 kV5 dc5 pm5 cd5 ct5 : Value}
    (a5 : PySem.W.findIn K (.ref C) "choose" = some (some (.ref f5))) (i5 : PySem.W.isFn K (.ref f5) = true) (l5 : K.lookup f5 = some ⟨oc5, od5, .func (PySem.W.fnOf "choose" "Walk.choose" (defArgs s_Walk_choose) (defBody s_Walk_choose) (defScope s_Walk_choose) .none kV5 dc5 pm5 an5 cd5 ct5), sl5⟩) (c5 : PySem.W.codeIn K cd5 "Walk.choose" = true) (k5 : PySem.W.keepIn K (.ref f5) = true)
    {od6 an6 : Option Addr} {sl6 : Array (Option Value)} {oc6 kV6 dc6 pm6 cd6 ct6 : Value}
    (a6 : PySem.W.findIn K (.ref C) "set_for" = some (some (.ref f6))) (i6 : PySem.W.isFn K (.ref f6) = true) (l6 : K.lookup f6 = some ⟨oc6, od6, .func (PySem.W.fnOf "set_for" "Walk.set_for" (defArgs s_Walk_set_for) (defBody s_Walk_set_for) (defScope s_Walk_set_for) .none kV6 dc6 pm6 an6 cd6 ct6), sl6⟩) (c6 : PySem.W.codeIn K cd6 "Walk.set_for" = true) (k6 : PySem.W.keepIn K (.ref f6) = true)
    {od7 an7 : Option Addr} {sl7 : Array (Option Value)} {oc7 kV7 dc7 pm7 cd7 ct7 : Value}
    (a7 : PySem.W.findIn K (.ref C) "restore" = some (some (.ref f7))) (i7 : PySem.W.isFn K (.ref f7) = true) (l7 : K.lookup f7 = some ⟨oc7, od7, .func (PySem.W.fnOf "restore" "Walk.restore" (defArgs s_Walk_restore) (defBody s_Walk_restore) (defScope s_Walk_restore) .none kV7 dc7 pm7 an7 cd7 ct7), sl7⟩) (c7 : PySem.W.codeIn K cd7 "Walk.restore" = true) (k7 : PySem.W.keepIn K (.ref f7) = true)
    {od8 an8 : Option Addr} {sl8 : Array (Option Value)} {oc8 kV8 dc8 pm8 cd8 ct8 : Value}
    (a8 : PySem.W.findIn K (.ref C) "result" = some (some (.ref f8))) (i8 : PySem.W.isFn K (.ref f8) = true) (l8 : K.lookup f8 = some ⟨oc8, od8, .func (PySem.W.fnOf "result" "Run.result" (defArgs s_Run_result) (defBody s_Run_result) (defScope s_Run_result) .none kV8 dc8 pm8 an8 cd8 ct8), sl8⟩) (c8 : PySem.W.codeIn K cd8 "Run.result" = true) (k8 : PySem.W.keepIn K (.ref f8) = true)
    {od9 an9 : Option Addr} {sl9 : Array (Option Value)} {oc9 kV9 dc9 pm9 cd9 ct9 : Value}
    (a9 : PySem.W.findIn K (.ref C) "finish" = some (some (.ref f9))) (i9 : PySem.W.isFn K (.ref f9) = true) (l9 : K.lookup f9 = some ⟨oc9, od9, .func (PySem.W.fnOf "finish" "Run.finish" (defArgs s_Run_finish) (defBody s_Run_finish) (defScope s_Run_finish) .none kV9 dc9 pm9 an9 cd9 ct9), sl9⟩) (c9 : PySem.W.codeIn K cd9 "Run.finish" = true) (k9 : PySem.W.keepIn K (.ref f9) = true)
    {od10 an10 : Option Addr} {sl10 : Array (Option Value)} {oc10 kV10 dc10 pm10 cd10 ct10 : Value}
    (a10 : PySem.W.findIn K (.ref C) "get_stuck" = some (some (.ref f10))) (i10 : PySem.W.isFn K (.ref f10) = true) (l10 : K.lookup f10 = some ⟨oc10, od10, .func (PySem.W.fnOf "get_stuck" "Run.get_stuck" (defArgs s_Run_get_stuck) (defBody s_Run_get_stuck) (defScope s_Run_get_stuck) .none kV10 dc10 pm10 an10 cd10 ct10), sl10⟩) (c10 : PySem.W.codeIn K cd10 "Run.get_stuck" = true) (k10 : PySem.W.keepIn K (.ref f10) = true)
    {od11 an11 : Option Addr} {sl11 : Array (Option Value)} {oc11 kV11 dc11 pm11 cd11 ct11 : Value}
    (a11 : PySem.W.findIn K (.ref C) "step" = some (some (.ref f11))) (i11 : PySem.W.isFn K (.ref f11) = true) (l11 : K.lookup f11 = some ⟨oc11, od11, .func (PySem.W.fnOf "step" "Run.step" (defArgs s_Run_step) (defBody s_Run_step) (defScope s_Run_step) .none kV11 dc11 pm11 an11 cd11 ct11), sl11⟩) (c11 : PySem.W.codeIn K cd11 "Run.step" = true) (k11 : PySem.W.keepIn K (.ref f11) = true)
    {od12 an12 : Option Addr} {sl12 : Array (Option Value)} {oc12 kV12 dc12 pm12 cd12 ct12 : Value}
    (a12 : PySem.W.findIn K (.ref C) "operate" = some (some (.ref f12))) (i12 : PySem.W.isFn K (.ref f12) = true) (l12 : K.lookup f12 = some ⟨oc12, od12, .func (PySem.W.fnOf "operate" "Run.operate" (defArgs s_Run_operate) (defBody s_Run_operate) (defScope s_Run_operate) .none kV12 dc12 pm12 an12 cd12 ct12), sl12⟩) (c12 : PySem.W.codeIn K cd12 "Run.operate" = true) (k12 : PySem.W.keepIn K (.ref f12) = true)
    {od13 an13 : Option Addr} {sl13 : Array (Option Value)} {oc13 kV13 dc13 pm13 cd13 ct13 : Value}
    (a13 : PySem.W.findIn K (.ref C) "decide" = some (some (.ref f13))) (i13 : PySem.W.isFn K (.ref f13) = true) (l13 : K.lookup f13 = some ⟨oc13, od13, .func (PySem.W.fnOf "decide" "Run.decide" (defArgs s_Run_decide) (defBody s_Run_decide) (defScope s_Run_decide) .none kV13 dc13 pm13 an13 cd13 ct13), sl13⟩) (c13 : PySem.W.codeIn K cd13 "Run.decide" = true) (k13 : PySem.W.keepIn K (.ref f13) = true)
    {od14 an14 : Option Addr} {sl14 : Array (Option Value)} {oc14 kV14 dc14 pm14 cd14 ct14 : Value}
    (a14 : PySem.W.findIn K (.ref C) "set_on" = some (some (.ref f14))) (i14 : PySem.W.isFn K (.ref f14) = true) (l14 : K.lookup f14 = some ⟨oc14, od14, .func (PySem.W.fnOf "set_on" "Run.set_on" (defArgs s_Run_set_on) (defBody s_Run_set_on) (defScope s_Run_set_on) .none kV14 dc14 pm14 an14 cd14 ct14), sl14⟩) (c14 : PySem.W.codeIn K cd14 "Run.set_on" = true) (k14 : PySem.W.keepIn K (.ref f14) = true)
    : Cl_Walk K mg C := by
  have F0 := fun_mk (st := s_Walk___init__) l0 c0 k0
  have b0 := F0.binds (ps := (["self", "fuel"] : List PySem.Str)) fun _ _ _ _ _ _ us hl => match us, hl with | [_, _], _ => rfl
  have F1 := fun_mk (st := s_Walk_is_going) l1 c1 k1
  have b1 := F1.binds (ps := (["self"] : List PySem.Str)) fun _ _ _ _ _ _ us hl => match us, hl with | [_], _ => rfl
  have F2 := fun_mk (st := s_Walk_visit) l2 c2 k2
  have b2 := F2.binds (ps := (["self", "expression", "scope"] : List PySem.Str)) fun _ _ _ _ _ _ us hl => match us, hl with | [_, _, _], _ => rfl
  have F3 := fun_mk (st := s_Walk_visit_all) l3 c3 k3
  have b3 := F3.binds (ps := (["self", "expressions", "scope"] : List PySem.Str)) fun _ _ _ _ _ _ us hl => match us, hl with | [_, _, _], _ => rfl
  have F4 := fun_mk (st := s_Walk_apply) l4 c4 k4
  have b4 := F4.binds (ps := (["self", "function", "value"] : List PySem.Str)) fun _ _ _ _ _ _ us hl => match us, hl with | [_, _, _], _ => rfl
  have F5 := fun_mk (st := s_Walk_choose) l5 c5 k5
  have b5 := F5.binds (ps := (["self", "level", "branches", "scope"] : List PySem.Str)) fun _ _ _ _ _ _ us hl => match us, hl with | [_, _, _, _], _ => rfl
  have F6 := fun_mk (st := s_Walk_set_for) l6 c6 k6
  have b6 := F6.binds (ps := (["self", "key", "setting", "body", "scope"] : List PySem.Str)) fun _ _ _ _ _ _ us hl => match us, hl with | [_, _, _, _, _], _ => rfl
  have F7 := fun_mk (st := s_Walk_restore) l7 c7 k7
  have b7 := F7.binds (ps := (["self", "change"] : List PySem.Str)) fun _ _ _ _ _ _ us hl => match us, hl with | [_, _], _ => rfl
  have F8 := fun_mk (st := s_Run_result) l8 c8 k8
  have b8 := F8.binds (ps := (["self"] : List PySem.Str)) fun _ _ _ _ _ _ us hl => match us, hl with | [_], _ => rfl
  have F9 := fun_mk (st := s_Run_finish) l9 c9 k9
  have b9 := F9.binds (ps := (["self"] : List PySem.Str)) fun _ _ _ _ _ _ us hl => match us, hl with | [_], _ => rfl
  have F10 := fun_mk (st := s_Run_get_stuck) l10 c10 k10
  have b10 := F10.binds (ps := (["self", "level"] : List PySem.Str)) fun _ _ _ _ _ _ us hl => match us, hl with | [_, _], _ => rfl
  have F11 := fun_mk (st := s_Run_step) l11 c11 k11
  have b11 := F11.binds (ps := (["self"] : List PySem.Str)) fun _ _ _ _ _ _ us hl => match us, hl with | [_], _ => rfl
  have F12 := fun_mk (st := s_Run_operate) l12 c12 k12
  have b12 := F12.binds (ps := (["self", "word", "level"] : List PySem.Str)) fun _ _ _ _ _ _ us hl => match us, hl with | [_, _, _], _ => rfl
  have F13 := fun_mk (st := s_Run_decide) l13 c13 k13
  have b13 := F13.binds (ps := (["self", "level"] : List PySem.Str)) fun _ _ _ _ _ _ us hl => match us, hl with | [_, _], _ => rfl
  have F14 := fun_mk (st := s_Run_set_on) l14 c14 k14
  have b14 := F14.binds (ps := (["self", "key", "setting"] : List PySem.Str)) fun _ _ _ _ _ _ us hl => match us, hl with | [_, _, _], _ => rfl
  exact ⟨⟨pg, hd, po, sa⟩, PySem.W.mg_of X G aC, n_todo, n_fuel, n_outputs, n_end, n_stack, n_settings, ⟨_, _, F0, b0, ⟨mk, a0, i0, kc⟩⟩, ⟨_, _, F1, b1, ⟨a1, i1, k1⟩⟩, ⟨_, _, F2, b2, ⟨a2, i2, k2⟩⟩, ⟨_, _, F3, b3, ⟨a3, i3, k3⟩⟩, ⟨_, _, F4, b4, ⟨a4, i4, k4⟩⟩, ⟨_, _, F5, b5, ⟨a5, i5, k5⟩⟩, ⟨_, _, F6, b6, ⟨a6, i6, k6⟩⟩, ⟨_, _, F7, b7, ⟨a7, i7, k7⟩⟩, ⟨_, _, F8, b8, ⟨a8, i8, k8⟩⟩, ⟨_, _, F9, b9, ⟨a9, i9, k9⟩⟩, ⟨_, _, F10, b10, ⟨a10, i10, k10⟩⟩, ⟨_, _, F11, b11, ⟨a11, i11, k11⟩⟩, ⟨_, _, F12, b12, ⟨a12, i12, k12⟩⟩, ⟨_, _, F13, b13, ⟨a13, i13, k13⟩⟩, ⟨_, _, F14, b14, ⟨a14, i14, k14⟩⟩⟩
structure Cl_Place (K : PySem.W.Frag) (mg : Str → Option Value) (C : Addr) : Prop where
  cl : Cls K C
  mg_ : mg "Place" = some (.ref C)
  n_level : NoAttr K C "level"
  n_names : NoAttr K C "names"
  n_about : NoAttr K C "about"
  d_Place___init__ : DefI K C "__init__" "Place.__init__" s_Place___init__ (["self", "level", "names", "about"] : List PySem.Str)
  d_Place_bind : DefM K C "bind" "Place.bind" s_Place_bind (["self", "name", "value"] : List PySem.Str)
theorem mk_Place {K : PySem.W.Frag} {h : Heap} {mg : Str → Option Value} (X : K.In h) (G : h.Ns mainGlobals mg) {C f0 f1 : Addr}
    (aC : PySem.W.nsIn K mainGlobals "Place" = some (some (.ref C)))
    (pg : PySem.W.plainGet K C Str.empty = true) (hd : PySem.W.hasDictIn K C = true) (po : PySem.W.plainOver K C = true) (sa : PySem.W.findIn K (.ref C) "__setattr__" = some (some (.builtin "object.__setattr__"))) (mk : PySem.W.makesIn K C = true) (kc : PySem.W.keepIn K (.ref C) = true)
    (n_level : PySem.W.findIn K (.ref C) "level" = some none)
    (n_names : PySem.W.findIn K (.ref C) "names" = some none)
    (n_about : PySem.W.findIn K (.ref C) "about" = some none)
    {od0 an0 : Option Addr} {sl0 : Array (Option Value)} {oc0 kV0 dc0 pm0 cd0 ct0 : Value}
    (a0 : PySem.W.findIn K (.ref C) "__init__" = some (some (.ref f0))) (i0 : PySem.W.isFn K (.ref f0) = true) (l0 : K.lookup f0 = some ⟨oc0, od0, .func (PySem.W.fnOf "__init__" "Place.__init__" (defArgs s_Place___init__) (defBody s_Place___init__) (defScope s_Place___init__) .none kV0 dc0 pm0 an0 cd0 ct0), sl0⟩) (c0 : PySem.W.codeIn K cd0 "Place.__init__" = true) (k0 : PySem.W.keepIn K (.ref f0) = true)
    {od1 an1 : Option Addr} {sl1 : Array (Option Value)} {oc1 kV1 dc1 pm1 cd1 ct1 : Value}
    (a1 : PySem.W.findIn K (.ref C) "bind" = some (some (.ref f1))) (i1 : PySem.W.isFn K (.ref f1) = true) (l1 : K.lookup f1 = some ⟨oc1, od1, .func (PySem.W.fnOf "bind" "Place.bind" (defArgs s_Place_bind) (defBody s_Place_bind) (defScope s_Place_bind) .none kV1 dc1 pm1 an1 cd1 ct1), sl1⟩) (c1 : PySem.W.codeIn K cd1 "Place.bind" = true) (k1 : PySem.W.keepIn K (.ref f1) = true)
    : Cl_Place K mg C := by
  have F0 := fun_mk (st := s_Place___init__) l0 c0 k0
  have b0 := F0.binds (ps := (["self", "level", "names", "about"] : List PySem.Str)) fun _ _ _ _ _ _ us hl => match us, hl with | [_, _, _, _], _ => rfl
  have F1 := fun_mk (st := s_Place_bind) l1 c1 k1
  have b1 := F1.binds (ps := (["self", "name", "value"] : List PySem.Str)) fun _ _ _ _ _ _ us hl => match us, hl with | [_, _, _], _ => rfl
  exact ⟨⟨pg, hd, po, sa⟩, PySem.W.mg_of X G aC, n_level, n_names, n_about, ⟨_, _, F0, b0, ⟨mk, a0, i0, kc⟩⟩, ⟨_, _, F1, b1, ⟨a1, i1, k1⟩⟩⟩
end Zg

open PySem PySem.W PyProof.Rows in
set_option maxRecDepth 100000 in
set_option maxHeartbeats 0 in
theorem PySem.Challenge.cw_ziggurat_k10_runs_of_towers_holds : PySem.Challenge.rw_ziggurat_k10_runs_of_towers.Holds := by
  w_on; o_law; k_head; (case hw => w_witness2)
  k_fill
  refine Zg.walk (l := PySem.Challenge.rw_ziggurat_k10_runs_of_towers) rfl rfl (fun w h Y => PySem.W.kIn_of Y) ?F
  case F =>
    intro w mg fa h KX G hmg
    obtain ⟨aBUILT_IN, m_BUILT_IN, f_BUILT_IN⟩ : ∃ p, mg "BUILT_IN" = some (.ref p) ∧ ∀ x n, (x, n) ∈ Zg.formsL → ∃ f, mg n = some (.ref f) ∧ L2.KDct (L2.KOf KX) w p x (.ref f) := by
      refine' Zg.c_fns w KX G Zg.formsL Zg.formsU ?a ?l ?m ?e
      (case a => k_is)
      (case l => k_is)
      (case m => rfl)
      case e =>
        refine' And.intro ⟨_, rfl, rfl⟩ (And.intro ?_ ?_)
        · refine' Zg.rfn_mk KX G "_num" ?hv ?a ?m
          (case hv => exact rfl)
          (case a => k_is)
          (case m => decide +kernel)
        refine' And.intro ⟨_, rfl, rfl⟩ (And.intro ?_ ?_)
        · refine' Zg.rfn_mk KX G "_name" ?hv ?a ?m
          (case hv => exact rfl)
          (case a => k_is)
          (case m => decide +kernel)
        refine' And.intro ⟨_, rfl, rfl⟩ (And.intro ?_ ?_)
        · refine' Zg.rfn_mk KX G "_fn" ?hv ?a ?m
          (case hv => exact rfl)
          (case a => k_is)
          (case m => decide +kernel)
        refine' And.intro ⟨_, rfl, rfl⟩ (And.intro ?_ ?_)
        · refine' Zg.rfn_mk KX G "_operation" ?hv ?a ?m
          (case hv => exact rfl)
          (case a => k_is)
          (case m => decide +kernel)
        refine' And.intro ⟨_, rfl, rfl⟩ (And.intro ?_ ?_)
        · refine' Zg.rfn_mk KX G "_operation" ?hv ?a ?m
          (case hv => exact rfl)
          (case a => k_is)
          (case m => decide +kernel)
        refine' And.intro ⟨_, rfl, rfl⟩ (And.intro ?_ ?_)
        · refine' Zg.rfn_mk KX G "_operation" ?hv ?a ?m
          (case hv => exact rfl)
          (case a => k_is)
          (case m => decide +kernel)
        refine' And.intro ⟨_, rfl, rfl⟩ (And.intro ?_ ?_)
        · refine' Zg.rfn_mk KX G "_if" ?hv ?a ?m
          (case hv => exact rfl)
          (case a => k_is)
          (case m => decide +kernel)
        refine' And.intro ⟨_, rfl, rfl⟩ (And.intro ?_ ?_)
        · refine' Zg.rfn_mk KX G "_let" ?hv ?a ?m
          (case hv => exact rfl)
          (case a => k_is)
          (case m => decide +kernel)
        refine' And.intro ⟨_, rfl, rfl⟩ (And.intro ?_ ?_)
        · refine' Zg.rfn_mk KX G "_operation" ?hv ?a ?m
          (case hv => exact rfl)
          (case a => k_is)
          (case m => decide +kernel)
        refine' And.intro ⟨_, rfl, rfl⟩ (And.intro ?_ ?_)
        · refine' Zg.rfn_mk KX G "_rule" ?hv ?a ?m
          (case hv => exact rfl)
          (case a => k_is)
          (case m => decide +kernel)
        refine' And.intro ⟨_, rfl, rfl⟩ (And.intro ?_ ?_)
        · refine' Zg.rfn_mk KX G "_keep" ?hv ?a ?m
          (case hv => exact rfl)
          (case a => k_is)
          (case m => decide +kernel)
        refine' And.intro ⟨_, rfl, rfl⟩ (And.intro ?_ ?_)
        · refine' Zg.rfn_mk KX G "_part" ?hv ?a ?m
          (case hv => exact rfl)
          (case a => k_is)
          (case m => decide +kernel)
        refine' And.intro ⟨_, rfl, rfl⟩ (And.intro ?_ ?_)
        · refine' Zg.rfn_mk KX G "_with" ?hv ?a ?m
          (case hv => exact rfl)
          (case a => k_is)
          (case m => decide +kernel)
        refine' And.intro ⟨_, rfl, rfl⟩ (And.intro ?_ ?_)
        · refine' Zg.rfn_mk KX G "_usual" ?hv ?a ?m
          (case hv => exact rfl)
          (case a => k_is)
          (case m => decide +kernel)
        refine' And.intro ⟨_, rfl, rfl⟩ (And.intro ?_ ?_)
        · refine' Zg.rfn_mk KX G "_do" ?hv ?a ?m
          (case hv => exact rfl)
          (case a => k_is)
          (case m => decide +kernel)
        exact True.intro
    obtain ⟨aACTIONS, m_ACTIONS, f_ACTIONS⟩ : ∃ p, mg "ACTIONS" = some (.ref p) ∧ ∀ x n, (x, n) ∈ Zg.actionsL → ∃ f, mg n = some (.ref f) ∧ L2.KDct (L2.KOf KX) w p x (.ref f) := by
      refine' Zg.c_fns w KX G Zg.actionsL Zg.actionsU ?a ?l ?m ?e
      (case a => k_is)
      (case l => k_is)
      (case m => rfl)
      case e =>
        refine' And.intro ⟨_, rfl, rfl⟩ (And.intro ?_ ?_)
        · refine' Zg.rfn_mk KX G "_visit" ?hv ?a ?m
          (case hv => exact rfl)
          (case a => k_is)
          (case m => decide +kernel)
        refine' And.intro ⟨_, rfl, rfl⟩ (And.intro ?_ ?_)
        · refine' Zg.rfn_mk KX G "_operate" ?hv ?a ?m
          (case hv => exact rfl)
          (case a => k_is)
          (case m => decide +kernel)
        refine' And.intro ⟨_, rfl, rfl⟩ (And.intro ?_ ?_)
        · refine' Zg.rfn_mk KX G "_choose" ?hv ?a ?m
          (case hv => exact rfl)
          (case a => k_is)
          (case m => decide +kernel)
        refine' And.intro ⟨_, rfl, rfl⟩ (And.intro ?_ ?_)
        · refine' Zg.rfn_mk KX G "_bind" ?hv ?a ?m
          (case hv => exact rfl)
          (case a => k_is)
          (case m => decide +kernel)
        refine' And.intro ⟨_, rfl, rfl⟩ (And.intro ?_ ?_)
        · refine' Zg.rfn_mk KX G "_restore" ?hv ?a ?m
          (case hv => exact rfl)
          (case a => k_is)
          (case m => decide +kernel)
        refine' And.intro ⟨_, rfl, rfl⟩ (And.intro ?_ ?_)
        · refine' Zg.rfn_mk KX G "_bind_below" ?hv ?a ?m
          (case hv => exact rfl)
          (case a => k_is)
          (case m => decide +kernel)
        refine' And.intro ⟨_, rfl, rfl⟩ (And.intro ?_ ?_)
        · refine' Zg.rfn_mk KX G "_operate_below" ?hv ?a ?m
          (case hv => exact rfl)
          (case a => k_is)
          (case m => decide +kernel)
        exact True.intro
    obtain ⟨aOPERATIONS, m_OPERATIONS, f_OPERATIONS⟩ : ∃ p, mg "OPERATIONS" = some (.ref p) ∧ ∀ x n, (x, n) ∈ Zg.opsL → ∃ f, mg n = some (.ref f) ∧ L2.KDct (L2.KOf KX) w p x (.ref f) := by
      refine' Zg.c_fns w KX G Zg.opsL Zg.opsU ?a ?l ?m ?e
      (case a => k_is)
      (case l => k_is)
      (case m => rfl)
      case e =>
        refine' And.intro ⟨_, rfl, rfl⟩ (And.intro ?_ ?_)
        · refine' Zg.rfn_mk KX G "_call" ?hv ?a ?m
          (case hv => exact rfl)
          (case a => k_is)
          (case m => decide +kernel)
        refine' And.intro ⟨_, rfl, rfl⟩ (And.intro ?_ ?_)
        · refine' Zg.rfn_mk KX G "_sum" ?hv ?a ?m
          (case hv => exact rfl)
          (case a => k_is)
          (case m => decide +kernel)
        refine' And.intro ⟨_, rfl, rfl⟩ (And.intro ?_ ?_)
        · refine' Zg.rfn_mk KX G "_less" ?hv ?a ?m
          (case hv => exact rfl)
          (case a => k_is)
          (case m => decide +kernel)
        refine' And.intro ⟨_, rfl, rfl⟩ (And.intro ?_ ?_)
        · refine' Zg.rfn_mk KX G "_say" ?hv ?a ?m
          (case hv => exact rfl)
          (case a => k_is)
          (case m => decide +kernel)
        exact True.intro
    obtain ⟨aFunction, C_Function⟩ : ∃ C, Zg.Cl_Function (L2.KOf KX) mg C := by
      refine' Exists.intro _ (Zg.mk_Function KX G ?aC ?pg ?hd ?po ?sa ?mk ?kc ?n_level ?n_body ?n_scope ?a0 ?i0 ?l0 ?c0 ?k0)
      (case aC => k_is)
      (case pg => k_is)
      (case hd => k_is)
      (case po => k_is)
      (case sa => k_is)
      (case mk => k_is)
      (case kc => k_is)
      (case n_level => k_is)
      (case n_body => k_is)
      (case n_scope => k_is)
      (case a0 => k_is)
      (case i0 => k_is)
      (case l0 => k_is)
      (case c0 => k_is)
      (case k0 => k_is)
    obtain ⟨aWalk, C_Walk⟩ : ∃ C, Zg.Cl_Walk (L2.KOf KX) mg C := by
      refine' Exists.intro _ (Zg.mk_Walk KX G ?aC ?pg ?hd ?po ?sa ?mk ?kc ?n_todo ?n_fuel ?n_outputs ?n_end ?n_stack ?n_settings ?a0 ?i0 ?l0 ?c0 ?k0 ?a1 ?i1 ?l1 ?c1 ?k1 ?a2 ?i2 ?l2 ?c2 ?k2 ?a3 ?i3 ?l3 ?c3 ?k3 ?a4 ?i4 ?l4 ?c4 ?k4 ?a5 ?i5 ?l5 ?c5 ?k5 ?a6 ?i6 ?l6 ?c6 ?k6 ?a7 ?i7 ?l7 ?c7 ?k7 ?a8 ?i8 ?l8 ?c8 ?k8 ?a9 ?i9 ?l9 ?c9 ?k9 ?a10 ?i10 ?l10 ?c10 ?k10 ?a11 ?i11 ?l11 ?c11 ?k11 ?a12 ?i12 ?l12 ?c12 ?k12 ?a13 ?i13 ?l13 ?c13 ?k13 ?a14 ?i14 ?l14 ?c14 ?k14)
      (case aC => k_is)
      (case pg => k_is)
      (case hd => k_is)
      (case po => k_is)
      (case sa => k_is)
      (case mk => k_is)
      (case kc => k_is)
      (case n_todo => k_is)
      (case n_fuel => k_is)
      (case n_outputs => k_is)
      (case n_end => k_is)
      (case n_stack => k_is)
      (case n_settings => k_is)
      (case a0 => k_is)
      (case i0 => k_is)
      (case l0 => k_is)
      (case c0 => k_is)
      (case k0 => k_is)
      (case a1 => k_is)
      (case i1 => k_is)
      (case l1 => k_is)
      (case c1 => k_is)
      (case k1 => k_is)
      (case a2 => k_is)
      (case i2 => k_is)
      (case l2 => k_is)
      (case c2 => k_is)
      (case k2 => k_is)
      (case a3 => k_is)
      (case i3 => k_is)
      (case l3 => k_is)
      (case c3 => k_is)
      (case k3 => k_is)
      (case a4 => k_is)
      (case i4 => k_is)
      (case l4 => k_is)
      (case c4 => k_is)
      (case k4 => k_is)
      (case a5 => k_is)
      (case i5 => k_is)
      (case l5 => k_is)
      (case c5 => k_is)
      (case k5 => k_is)
      (case a6 => k_is)
      (case i6 => k_is)
      (case l6 => k_is)
      (case c6 => k_is)
      (case k6 => k_is)
      (case a7 => k_is)
      (case i7 => k_is)
      (case l7 => k_is)
      (case c7 => k_is)
      (case k7 => k_is)
      (case a8 => k_is)
      (case i8 => k_is)
      (case l8 => k_is)
      (case c8 => k_is)
      (case k8 => k_is)
      (case a9 => k_is)
      (case i9 => k_is)
      (case l9 => k_is)
      (case c9 => k_is)
      (case k9 => k_is)
      (case a10 => k_is)
      (case i10 => k_is)
      (case l10 => k_is)
      (case c10 => k_is)
      (case k10 => k_is)
      (case a11 => k_is)
      (case i11 => k_is)
      (case l11 => k_is)
      (case c11 => k_is)
      (case k11 => k_is)
      (case a12 => k_is)
      (case i12 => k_is)
      (case l12 => k_is)
      (case c12 => k_is)
      (case k12 => k_is)
      (case a13 => k_is)
      (case i13 => k_is)
      (case l13 => k_is)
      (case c13 => k_is)
      (case k13 => k_is)
      (case a14 => k_is)
      (case i14 => k_is)
      (case l14 => k_is)
      (case c14 => k_is)
      (case k14 => k_is)
    obtain ⟨aPlace, C_Place⟩ : ∃ C, Zg.Cl_Place (L2.KOf KX) mg C := by
      refine' Exists.intro _ (Zg.mk_Place KX G ?aC ?pg ?hd ?po ?sa ?mk ?kc ?n_level ?n_names ?n_about ?a0 ?i0 ?l0 ?c0 ?k0 ?a1 ?i1 ?l1 ?c1 ?k1)
      (case aC => k_is)
      (case pg => k_is)
      (case hd => k_is)
      (case po => k_is)
      (case sa => k_is)
      (case mk => k_is)
      (case kc => k_is)
      (case n_level => k_is)
      (case n_names => k_is)
      (case n_about => k_is)
      (case a0 => k_is)
      (case i0 => k_is)
      (case l0 => k_is)
      (case c0 => k_is)
      (case k0 => k_is)
      (case a1 => k_is)
      (case i1 => k_is)
      (case l1 => k_is)
      (case c1 => k_is)
      (case k1 => k_is)
    obtain ⟨bRun, mgb_Run, b_Run⟩ : ∃ C, mg "Run" = some (.ref C) ∧ Zg.DefB (L2.KOf KX) mg C "__init__" "Run.__init__" Zg.s_Run___init__ (["self", "fuel"] : List PySem.Str) := by
      refine' Zg.base_mk KX G ?aC ?rd ?ga ?fc ?l ?c ?k ?b
      (case aC => k_is)
      (case rd => k_is)
      (case ga => k_is)
      (case fc => k_is)
      (case l => k_is)
      (case c => k_is)
      (case k => k_is)
      (case b => exact fun _ _ _ _ _ _ us hl => match us, hl with | [_, _], _ => rfl)
    have d_look_up : Zg.DefX (L2.KOf KX) mg "look_up" Zg.s_look_up (["names", "name"] : List PySem.Str) := by
      refine' Zg.defX_mk KX G ?a ?l ?c ?k ?b
      (case a => k_is); (case l => k_is); (case c => k_is); (case k => k_is)
      (case b => exact fun _ _ _ _ _ _ us hl => match us, hl with | [_, _], _ => rfl)
    have d__shown : Zg.DefX (L2.KOf KX) mg "_shown" Zg.s__shown (["value"] : List PySem.Str) := by
      refine' Zg.defX_mk KX G ?a ?l ?c ?k ?b
      (case a => k_is); (case l => k_is); (case c => k_is); (case k => k_is)
      (case b => exact fun _ _ _ _ _ _ us hl => match us, hl with | [_], _ => rfl)
    have d__call : Zg.DefX (L2.KOf KX) mg "_call" Zg.s__call (["run", "level"] : List PySem.Str) := by
      refine' Zg.defX_mk KX G ?a ?l ?c ?k ?b
      (case a => k_is); (case l => k_is); (case c => k_is); (case k => k_is)
      (case b => exact fun _ _ _ _ _ _ us hl => match us, hl with | [_, _], _ => rfl)
    have d__sum : Zg.DefX (L2.KOf KX) mg "_sum" Zg.s__sum (["run", "level"] : List PySem.Str) := by
      refine' Zg.defX_mk KX G ?a ?l ?c ?k ?b
      (case a => k_is); (case l => k_is); (case c => k_is); (case k => k_is)
      (case b => exact fun _ _ _ _ _ _ us hl => match us, hl with | [_, _], _ => rfl)
    have d__less : Zg.DefX (L2.KOf KX) mg "_less" Zg.s__less (["run", "level"] : List PySem.Str) := by
      refine' Zg.defX_mk KX G ?a ?l ?c ?k ?b
      (case a => k_is); (case l => k_is); (case c => k_is); (case k => k_is)
      (case b => exact fun _ _ _ _ _ _ us hl => match us, hl with | [_, _], _ => rfl)
    have d__say : Zg.DefX (L2.KOf KX) mg "_say" Zg.s__say (["run", "level"] : List PySem.Str) := by
      refine' Zg.defX_mk KX G ?a ?l ?c ?k ?b
      (case a => k_is); (case l => k_is); (case c => k_is); (case k => k_is)
      (case b => exact fun _ _ _ _ _ _ us hl => match us, hl with | [_, _], _ => rfl)
    have d_part_of : Zg.DefX (L2.KOf KX) mg "part_of" Zg.s_part_of (["node", "number"] : List PySem.Str) := by
      refine' Zg.defX_mk KX G ?a ?l ?c ?k ?b
      (case a => k_is); (case l => k_is); (case c => k_is); (case k => k_is)
      (case b => exact fun _ _ _ _ _ _ us hl => match us, hl with | [_, _], _ => rfl)
    have d_run : Zg.DefX (L2.KOf KX) mg "run" Zg.s_run (["program", "fuel"] : List PySem.Str) := by
      refine' Zg.defX_mk KX G ?a ?l ?c ?k ?b
      (case a => k_is); (case l => k_is); (case c => k_is); (case k => k_is)
      (case b => exact fun _ _ _ _ _ _ us hl => match us, hl with | [_, _], _ => rfl)
    have d__visit : Zg.DefX (L2.KOf KX) mg "_visit" Zg.s__visit (["going", "node", "place"] : List PySem.Str) := by
      refine' Zg.defX_mk KX G ?a ?l ?c ?k ?b
      (case a => k_is); (case l => k_is); (case c => k_is); (case k => k_is)
      (case b => exact fun _ _ _ _ _ _ us hl => match us, hl with | [_, _, _], _ => rfl)
    have d__visit_built_in : Zg.DefX (L2.KOf KX) mg "_visit_built_in" Zg.s__visit_built_in (["going", "node", "place"] : List PySem.Str) := by
      refine' Zg.defX_mk KX G ?a ?l ?c ?k ?b
      (case a => k_is); (case l => k_is); (case c => k_is); (case k => k_is)
      (case b => exact fun _ _ _ _ _ _ us hl => match us, hl with | [_, _, _], _ => rfl)
    have d__num : Zg.DefX (L2.KOf KX) mg "_num" Zg.s__num (["going", "node", "_"] : List PySem.Str) := by
      refine' Zg.defX_mk KX G ?a ?l ?c ?k ?b
      (case a => k_is); (case l => k_is); (case c => k_is); (case k => k_is)
      (case b => exact fun _ _ _ _ _ _ us hl => match us, hl with | [_, _, _], _ => rfl)
    have d__name : Zg.DefX (L2.KOf KX) mg "_name" Zg.s__name (["going", "node", "place"] : List PySem.Str) := by
      refine' Zg.defX_mk KX G ?a ?l ?c ?k ?b
      (case a => k_is); (case l => k_is); (case c => k_is); (case k => k_is)
      (case b => exact fun _ _ _ _ _ _ us hl => match us, hl with | [_, _, _], _ => rfl)
    have d__fn : Zg.DefX (L2.KOf KX) mg "_fn" Zg.s__fn (["going", "node", "place"] : List PySem.Str) := by
      refine' Zg.defX_mk KX G ?a ?l ?c ?k ?b
      (case a => k_is); (case l => k_is); (case c => k_is); (case k => k_is)
      (case b => exact fun _ _ _ _ _ _ us hl => match us, hl with | [_, _, _], _ => rfl)
    have d__operation : Zg.DefX (L2.KOf KX) mg "_operation" Zg.s__operation (["going", "node", "place"] : List PySem.Str) := by
      refine' Zg.defX_mk KX G ?a ?l ?c ?k ?b
      (case a => k_is); (case l => k_is); (case c => k_is); (case k => k_is)
      (case b => exact fun _ _ _ _ _ _ us hl => match us, hl with | [_, _, _], _ => rfl)
    have d__operate : Zg.DefX (L2.KOf KX) mg "_operate" Zg.s__operate (["going", "word", "place"] : List PySem.Str) := by
      refine' Zg.defX_mk KX G ?a ?l ?c ?k ?b
      (case a => k_is); (case l => k_is); (case c => k_is); (case k => k_is)
      (case b => exact fun _ _ _ _ _ _ us hl => match us, hl with | [_, _, _], _ => rfl)
    have d__if : Zg.DefX (L2.KOf KX) mg "_if" Zg.s__if (["going", "node", "place"] : List PySem.Str) := by
      refine' Zg.defX_mk KX G ?a ?l ?c ?k ?b
      (case a => k_is); (case l => k_is); (case c => k_is); (case k => k_is)
      (case b => exact fun _ _ _ _ _ _ us hl => match us, hl with | [_, _, _], _ => rfl)
    have d__choose : Zg.DefX (L2.KOf KX) mg "_choose" Zg.s__choose (["going", "branches", "place"] : List PySem.Str) := by
      refine' Zg.defX_mk KX G ?a ?l ?c ?k ?b
      (case a => k_is); (case l => k_is); (case c => k_is); (case k => k_is)
      (case b => exact fun _ _ _ _ _ _ us hl => match us, hl with | [_, _, _], _ => rfl)
    have d__let : Zg.DefX (L2.KOf KX) mg "_let" Zg.s__let (["going", "node", "place"] : List PySem.Str) := by
      refine' Zg.defX_mk KX G ?a ?l ?c ?k ?b
      (case a => k_is); (case l => k_is); (case c => k_is); (case k => k_is)
      (case b => exact fun _ _ _ _ _ _ us hl => match us, hl with | [_, _, _], _ => rfl)
    have d__bind : Zg.DefX (L2.KOf KX) mg "_bind" Zg.s__bind (["going", "node", "place"] : List PySem.Str) := by
      refine' Zg.defX_mk KX G ?a ?l ?c ?k ?b
      (case a => k_is); (case l => k_is); (case c => k_is); (case k => k_is)
      (case b => exact fun _ _ _ _ _ _ us hl => match us, hl with | [_, _, _], _ => rfl)
    have d__rule : Zg.DefX (L2.KOf KX) mg "_rule" Zg.s__rule (["going", "node", "place"] : List PySem.Str) := by
      refine' Zg.defX_mk KX G ?a ?l ?c ?k ?b
      (case a => k_is); (case l => k_is); (case c => k_is); (case k => k_is)
      (case b => exact fun _ _ _ _ _ _ us hl => match us, hl with | [_, _, _], _ => rfl)
    have d__keep : Zg.DefX (L2.KOf KX) mg "_keep" Zg.s__keep (["going", "node", "place"] : List PySem.Str) := by
      refine' Zg.defX_mk KX G ?a ?l ?c ?k ?b
      (case a => k_is); (case l => k_is); (case c => k_is); (case k => k_is)
      (case b => exact fun _ _ _ _ _ _ us hl => match us, hl with | [_, _, _], _ => rfl)
    have d__restore : Zg.DefX (L2.KOf KX) mg "_restore" Zg.s__restore (["going", "change", "_"] : List PySem.Str) := by
      refine' Zg.defX_mk KX G ?a ?l ?c ?k ?b
      (case a => k_is); (case l => k_is); (case c => k_is); (case k => k_is)
      (case b => exact fun _ _ _ _ _ _ us hl => match us, hl with | [_, _, _], _ => rfl)
    have d__part : Zg.DefX (L2.KOf KX) mg "_part" Zg.s__part (["going", "node", "place"] : List PySem.Str) := by
      refine' Zg.defX_mk KX G ?a ?l ?c ?k ?b
      (case a => k_is); (case l => k_is); (case c => k_is); (case k => k_is)
      (case b => exact fun _ _ _ _ _ _ us hl => match us, hl with | [_, _, _], _ => rfl)
    have d__usual : Zg.DefX (L2.KOf KX) mg "_usual" Zg.s__usual (["going", "_", "place"] : List PySem.Str) := by
      refine' Zg.defX_mk KX G ?a ?l ?c ?k ?b
      (case a => k_is); (case l => k_is); (case c => k_is); (case k => k_is)
      (case b => exact fun _ _ _ _ _ _ us hl => match us, hl with | [_, _, _], _ => rfl)
    have d__with : Zg.DefX (L2.KOf KX) mg "_with" Zg.s__with (["going", "node", "place"] : List PySem.Str) := by
      refine' Zg.defX_mk KX G ?a ?l ?c ?k ?b
      (case a => k_is); (case l => k_is); (case c => k_is); (case k => k_is)
      (case b => exact fun _ _ _ _ _ _ us hl => match us, hl with | [_, _, _], _ => rfl)
    have d__bind_below : Zg.DefX (L2.KOf KX) mg "_bind_below" Zg.s__bind_below (["going", "_", "place"] : List PySem.Str) := by
      refine' Zg.defX_mk KX G ?a ?l ?c ?k ?b
      (case a => k_is); (case l => k_is); (case c => k_is); (case k => k_is)
      (case b => exact fun _ _ _ _ _ _ us hl => match us, hl with | [_, _, _], _ => rfl)
    have d__do : Zg.DefX (L2.KOf KX) mg "_do" Zg.s__do (["going", "node", "place"] : List PySem.Str) := by
      refine' Zg.defX_mk KX G ?a ?l ?c ?k ?b
      (case a => k_is); (case l => k_is); (case c => k_is); (case k => k_is)
      (case b => exact fun _ _ _ _ _ _ us hl => match us, hl with | [_, _, _], _ => rfl)
    have d__operate_below : Zg.DefX (L2.KOf KX) mg "_operate_below" Zg.s__operate_below (["going", "_", "place"] : List PySem.Str) := by
      refine' Zg.defX_mk KX G ?a ?l ?c ?k ?b
      (case a => k_is); (case l => k_is); (case c => k_is); (case k => k_is)
      (case b => exact fun _ _ _ _ _ _ us hl => match us, hl with | [_, _, _], _ => rfl)
    have d__law_start : Zg.DefX (L2.KOf KX) mg "_law_start" Zg.s__law_start (["script"] : List PySem.Str) := by
      refine' Zg.defX_mk KX G ?a ?l ?c ?k ?b
      (case a => k_is); (case l => k_is); (case c => k_is); (case k => k_is)
      (case b => exact fun _ _ _ _ _ _ us hl => match us, hl with | [_], _ => rfl)
    have d__law_fill : Zg.DefX (L2.KOf KX) mg "_law_fill" Zg.s__law_fill (["c"] : List PySem.Str) := by
      refine' Zg.defX_mk KX G ?a ?l ?c ?k ?b
      (case a => k_is); (case l => k_is); (case c => k_is); (case k => k_is)
      (case b => exact fun _ _ _ _ _ _ us hl => match us, hl with | [_], _ => rfl)
    have d__law_take : Zg.DefX (L2.KOf KX) mg "_law_take" Zg.s__law_take (["c", "many"] : List PySem.Str) := by
      refine' Zg.defX_mk KX G ?a ?l ?c ?k ?b
      (case a => k_is); (case l => k_is); (case c => k_is); (case k => k_is)
      (case b => exact fun _ _ _ _ _ _ us hl => match us, hl with | [_, _], _ => rfl)
    have d__law_kinds : Zg.DefX (L2.KOf KX) mg "_law_kinds" Zg.s__law_kinds ([] : List PySem.Str) := by
      refine' Zg.defX_mk KX G ?a ?l ?c ?k ?b
      (case a => k_is); (case l => k_is); (case c => k_is); (case k => k_is)
      (case b => exact fun _ _ _ _ _ _ us hl => match us, hl with | [], _ => rfl)
    have d__law_parts : Zg.DefX (L2.KOf KX) mg "_law_parts" Zg.s__law_parts (["kind"] : List PySem.Str) := by
      refine' Zg.defX_mk KX G ?a ?l ?c ?k ?b
      (case a => k_is); (case l => k_is); (case c => k_is); (case k => k_is)
      (case b => exact fun _ _ _ _ _ _ us hl => match us, hl with | [_], _ => rfl)
    have d__law_names : Zg.DefX (L2.KOf KX) mg "_law_names" Zg.s__law_names (["c"] : List PySem.Str) := by
      refine' Zg.defX_mk KX G ?a ?l ?c ?k ?b
      (case a => k_is); (case l => k_is); (case c => k_is); (case k => k_is)
      (case b => exact fun _ _ _ _ _ _ us hl => match us, hl with | [_], _ => rfl)
    have d__law_free : Zg.DefX (L2.KOf KX) mg "_law_free" Zg.s__law_free (["name"] : List PySem.Str) := by
      refine' Zg.defX_mk KX G ?a ?l ?c ?k ?b
      (case a => k_is); (case l => k_is); (case c => k_is); (case k => k_is)
      (case b => exact fun _ _ _ _ _ _ us hl => match us, hl with | [_], _ => rfl)
    have d__law_integer : Zg.DefX (L2.KOf KX) mg "_law_integer" Zg.s__law_integer (["c"] : List PySem.Str) := by
      refine' Zg.defX_mk KX G ?a ?l ?c ?k ?b
      (case a => k_is); (case l => k_is); (case c => k_is); (case k => k_is)
      (case b => exact fun _ _ _ _ _ _ us hl => match us, hl with | [_], _ => rfl)
    have d__law_leaf : Zg.DefX (L2.KOf KX) mg "_law_leaf" Zg.s__law_leaf (["c", "names", "about"] : List PySem.Str) := by
      refine' Zg.defX_mk KX G ?a ?l ?c ?k ?b
      (case a => k_is); (case l => k_is); (case c => k_is); (case k => k_is)
      (case b => exact fun _ _ _ _ _ _ us hl => match us, hl with | [_, _, _], _ => rfl)
    have d__law_rule : Zg.DefX (L2.KOf KX) mg "_law_rule" Zg.s__law_rule (["c", "level", "kind", "depth"] : List PySem.Str) := by
      refine' Zg.defX_mk KX G ?a ?l ?c ?k ?b
      (case a => k_is); (case l => k_is); (case c => k_is); (case k => k_is)
      (case b => exact fun _ _ _ _ _ _ us hl => match us, hl with | [_, _, _, _], _ => rfl)
    have d__law_ask : Zg.DefX (L2.KOf KX) mg "_law_ask" Zg.s__law_ask (["c", "level", "names", "about", "depth"] : List PySem.Str) := by
      refine' Zg.defX_mk KX G ?a ?l ?c ?k ?b
      (case a => k_is); (case l => k_is); (case c => k_is); (case k => k_is)
      (case b => exact fun _ _ _ _ _ _ us hl => match us, hl with | [_, _, _, _, _], _ => rfl)
    have d__law_binding : Zg.DefX (L2.KOf KX) mg "_law_binding" Zg.s__law_binding (["c", "k", "level", "names", "about", "depth"] : List PySem.Str) := by
      refine' Zg.defX_mk KX G ?a ?l ?c ?k ?b
      (case a => k_is); (case l => k_is); (case c => k_is); (case k => k_is)
      (case b => exact fun _ _ _ _ _ _ us hl => match us, hl with | [_, _, _, _, _, _], _ => rfl)
    have d__law_change : Zg.DefX (L2.KOf KX) mg "_law_change" Zg.s__law_change (["c", "k", "level", "names", "about", "depth"] : List PySem.Str) := by
      refine' Zg.defX_mk KX G ?a ?l ?c ?k ?b
      (case a => k_is); (case l => k_is); (case c => k_is); (case k => k_is)
      (case b => exact fun _ _ _ _ _ _ us hl => match us, hl with | [_, _, _, _, _, _], _ => rfl)
    have d__law_expression : Zg.DefX (L2.KOf KX) mg "_law_expression" Zg.s__law_expression (["c", "level", "names", "about", "depth"] : List PySem.Str) := by
      refine' Zg.defX_mk KX G ?a ?l ?c ?k ?b
      (case a => k_is); (case l => k_is); (case c => k_is); (case k => k_is)
      (case b => exact fun _ _ _ _ _ _ us hl => match us, hl with | [_, _, _, _, _], _ => rfl)
    have d__law_inner : Zg.DefX (L2.KOf KX) mg "_law_inner" Zg.s__law_inner (["e"] : List PySem.Str) := by
      refine' Zg.defX_mk KX G ?a ?l ?c ?k ?b
      (case a => k_is); (case l => k_is); (case c => k_is); (case k => k_is)
      (case b => exact fun _ _ _ _ _ _ us hl => match us, hl with | [_], _ => rfl)
    have d__law_depth : Zg.DefX (L2.KOf KX) mg "_law_depth" Zg.s__law_depth (["e"] : List PySem.Str) := by
      refine' Zg.defX_mk KX G ?a ?l ?c ?k ?b
      (case a => k_is); (case l => k_is); (case c => k_is); (case k => k_is)
      (case b => exact fun _ _ _ _ _ _ us hl => match us, hl with | [_], _ => rfl)
    have d__law_size : Zg.DefX (L2.KOf KX) mg "_law_size" Zg.s__law_size (["e"] : List PySem.Str) := by
      refine' Zg.defX_mk KX G ?a ?l ?c ?k ?b
      (case a => k_is); (case l => k_is); (case c => k_is); (case k => k_is)
      (case b => exact fun _ _ _ _ _ _ us hl => match us, hl with | [_], _ => rfl)
    have d__law_program : Zg.DefX (L2.KOf KX) mg "_law_program" Zg.s__law_program (["c"] : List PySem.Str) := by
      refine' Zg.defX_mk KX G ?a ?l ?c ?k ?b
      (case a => k_is); (case l => k_is); (case c => k_is); (case k => k_is)
      (case b => exact fun _ _ _ _ _ _ us hl => match us, hl with | [_], _ => rfl)
    have d__law_bad : Zg.DefX (L2.KOf KX) mg "_law_bad" Zg.s__law_bad (["value"] : List PySem.Str) := by
      refine' Zg.defX_mk KX G ?a ?l ?c ?k ?b
      (case a => k_is); (case l => k_is); (case c => k_is); (case k => k_is)
      (case b => exact fun _ _ _ _ _ _ us hl => match us, hl with | [_], _ => rfl)
    have d__law_shown : Zg.DefX (L2.KOf KX) mg "_law_shown" Zg.s__law_shown (["value"] : List PySem.Str) := by
      refine' Zg.defX_mk KX G ?a ?l ?c ?k ?b
      (case a => k_is); (case l => k_is); (case c => k_is); (case k => k_is)
      (case b => exact fun _ _ _ _ _ _ us hl => match us, hl with | [_], _ => rfl)
    have d__law_with : Zg.DefX (L2.KOf KX) mg "_law_with" Zg.s__law_with (["env", "x", "value"] : List PySem.Str) := by
      refine' Zg.defX_mk KX G ?a ?l ?c ?k ?b
      (case a => k_is); (case l => k_is); (case c => k_is); (case k => k_is)
      (case b => exact fun _ _ _ _ _ _ us hl => match us, hl with | [_, _, _], _ => rfl)
    have d__law_step : Zg.DefX (L2.KOf KX) mg "_law_step" Zg.s__law_step (["st"] : List PySem.Str) := by
      refine' Zg.defX_mk KX G ?a ?l ?c ?k ?b
      (case a => k_is); (case l => k_is); (case c => k_is); (case k => k_is)
      (case b => exact fun _ _ _ _ _ _ us hl => match us, hl with | [_], _ => rfl)
    have d__law_applied : Zg.DefX (L2.KOf KX) mg "_law_applied" Zg.s__law_applied (["f", "a", "k", "st"] : List PySem.Str) := by
      refine' Zg.defX_mk KX G ?a ?l ?c ?k ?b
      (case a => k_is); (case l => k_is); (case c => k_is); (case k => k_is)
      (case b => exact fun _ _ _ _ _ _ us hl => match us, hl with | [_, _, _, _], _ => rfl)
    have d__law_done : Zg.DefX (L2.KOf KX) mg "_law_done" Zg.s__law_done (["kind", "values", "k", "st"] : List PySem.Str) := by
      refine' Zg.defX_mk KX G ?a ?l ?c ?k ?b
      (case a => k_is); (case l => k_is); (case c => k_is); (case k => k_is)
      (case b => exact fun _ _ _ _ _ _ us hl => match us, hl with | [_, _, _, _], _ => rfl)
    have d__law_several : Zg.DefX (L2.KOf KX) mg "_law_several" Zg.s__law_several (["parts", "env", "about", "k", "st"] : List PySem.Str) := by
      refine' Zg.defX_mk KX G ?a ?l ?c ?k ?b
      (case a => k_is); (case l => k_is); (case c => k_is); (case k => k_is)
      (case b => exact fun _ _ _ _ _ _ us hl => match us, hl with | [_, _, _, _, _], _ => rfl)
    have d__law_eval : Zg.DefX (L2.KOf KX) mg "_law_eval" Zg.s__law_eval (["e", "env", "about", "k", "st"] : List PySem.Str) := by
      refine' Zg.defX_mk KX G ?a ?l ?c ?k ?b
      (case a => k_is); (case l => k_is); (case c => k_is); (case k => k_is)
      (case b => exact fun _ _ _ _ _ _ us hl => match us, hl with | [_, _, _, _, _], _ => rfl)
    have d__law_given : Zg.DefX (L2.KOf KX) mg "_law_given" Zg.s__law_given (["e", "env", "about", "k", "st"] : List PySem.Str) := by
      refine' Zg.defX_mk KX G ?a ?l ?c ?k ?b
      (case a => k_is); (case l => k_is); (case c => k_is); (case k => k_is)
      (case b => exact fun _ _ _ _ _ _ us hl => match us, hl with | [_, _, _, _, _], _ => rfl)
    have d__law_run : Zg.DefX (L2.KOf KX) mg "_law_run" Zg.s__law_run (["program", "fuel"] : List PySem.Str) := by
      refine' Zg.defX_mk KX G ?a ?l ?c ?k ?b
      (case a => k_is); (case l => k_is); (case c => k_is); (case k => k_is)
      (case b => exact fun _ _ _ _ _ _ us hl => match us, hl with | [_, _], _ => rfl)
    have d__law_whole : Zg.DefX (L2.KOf KX) mg "_law_whole" Zg.s__law_whole (["n"] : List PySem.Str) := by
      refine' Zg.defX_mk KX G ?a ?l ?c ?k ?b
      (case a => k_is); (case l => k_is); (case c => k_is); (case k => k_is)
      (case b => exact fun _ _ _ _ _ _ us hl => match us, hl with | [_], _ => rfl)
    have d__law_is_shown : Zg.DefX (L2.KOf KX) mg "_law_is_shown" Zg.s__law_is_shown (["x"] : List PySem.Str) := by
      refine' Zg.defX_mk KX G ?a ?l ?c ?k ?b
      (case a => k_is); (case l => k_is); (case c => k_is); (case k => k_is)
      (case b => exact fun _ _ _ _ _ _ us hl => match us, hl with | [_], _ => rfl)
    have d__law_is_run : Zg.DefX (L2.KOf KX) mg "_law_is_run" Zg.s__law_is_run (["told"] : List PySem.Str) := by
      refine' Zg.defX_mk KX G ?a ?l ?c ?k ?b
      (case a => k_is); (case l => k_is); (case c => k_is); (case k => k_is)
      (case b => exact fun _ _ _ _ _ _ us hl => match us, hl with | [_], _ => rfl)
    have d_law : Zg.DefX (L2.KOf KX) mg "law" Zg.s_law (["script"] : List PySem.Str) := by
      refine' Zg.defX_mk KX G ?a ?l ?c ?k ?b
      (case a => k_is); (case l => k_is); (case c => k_is); (case k => k_is)
      (case b => exact fun _ _ _ _ _ _ us hl => match us, hl with | [_], _ => rfl)
    have z_len : mg "len" = none := PySem.W.mg_none_of KX G (by k_is)
    have z_max : mg "max" = none := PySem.W.mg_none_of KX G (by k_is)
    have z_sum : mg "sum" = none := PySem.W.mg_none_of KX G (by k_is)
    have z_isinstance : mg "isinstance" = none := PySem.W.mg_none_of KX G (by k_is)
    have z_range : mg "range" = none := PySem.W.mg_none_of KX G (by k_is)
    have z_int : mg "int" = none := PySem.W.mg_none_of KX G (by k_is)
    have z_tuple : mg "tuple" = none := PySem.W.mg_none_of KX G (by k_is)
    have z_bool : mg "bool" = none := PySem.W.mg_none_of KX G (by k_is)
    have z_dict : mg "dict" = none := PySem.W.mg_none_of KX G (by k_is)
    have z_reversed : mg "reversed" = none := PySem.W.mg_none_of KX G (by k_is)
    have iF_Function : Zg.IsF (L2.KOf KX) aFunction := by
      refine' Zg.isF_mk KX G ?aC ?ha ?hn ?htk ?hm ?me ?ne _ C_Function.mg_
      (case aC => k_is)
      (case ha => k_is)
      (case hn => k_is)
      (case htk => k_is)
      (case hm => k_is)
      (case me => kit_is)
      (case ne => kit_is)
    have T : Zg.Tx w (L2.KOf KX) mg aFunction aWalk bRun aPlace aBUILT_IN aACTIONS aOPERATIONS := ⟨C_Function.d_Function___init__, b_Run, C_Walk.d_Run_result, C_Walk.d_Run_finish, C_Walk.d_Run_get_stuck, C_Walk.d_Run_step, C_Walk.d_Run_operate, C_Walk.d_Run_decide, C_Walk.d_Run_set_on, C_Walk.d_Walk___init__, C_Walk.d_Walk_is_going, C_Walk.d_Walk_visit, C_Walk.d_Walk_visit_all, C_Walk.d_Walk_apply, C_Walk.d_Walk_choose, C_Walk.d_Walk_set_for, C_Walk.d_Walk_restore, d_look_up, d__shown, d__call, d__sum, d__less, d__say, d_part_of, C_Place.d_Place___init__, C_Place.d_Place_bind, d_run, d__visit, d__visit_built_in, d__num, d__name, d__fn, d__operation, d__operate, d__if, d__choose, d__let, d__bind, d__rule, d__keep, d__restore, d__part, d__usual, d__with, d__bind_below, d__do, d__operate_below, d__law_start, d__law_fill, d__law_take, d__law_kinds, d__law_parts, d__law_names, d__law_free, d__law_integer, d__law_leaf, d__law_rule, d__law_ask, d__law_binding, d__law_change, d__law_expression, d__law_inner, d__law_depth, d__law_size, d__law_program, d__law_bad, d__law_shown, d__law_with, d__law_step, d__law_applied, d__law_done, d__law_several, d__law_eval, d__law_given, d__law_run, d__law_whole, d__law_is_shown, d__law_is_run, d_law, C_Function.cl, C_Function.mg_, C_Function.n_level, C_Function.n_body, C_Function.n_scope, C_Walk.cl, mgb_Run, C_Walk.n_fuel, C_Walk.n_outputs, C_Walk.n_end, C_Walk.n_stack, C_Walk.n_settings, C_Walk.cl, C_Walk.mg_, C_Walk.n_todo, C_Place.cl, C_Place.mg_, C_Place.n_level, C_Place.n_names, C_Place.n_about, z_len, z_max, z_sum, z_isinstance, z_range, z_int, z_tuple, z_bool, z_dict, z_reversed, m_BUILT_IN, m_ACTIONS, m_OPERATIONS, f_BUILT_IN, f_ACTIONS, iF_Function, f_OPERATIONS⟩
    obtain ⟨fd, B, F⟩ := Zt.law_end T hmg
    exact ⟨fd, B, fun base _ _ => F _ base⟩
